import Derived.Test.YtoihflimijabjaaGreatDoorPuS
import Derived.Test.YtoihflimijabjaaGreatDoorPuY
namespace Go.Proofs.YtoihflimijabjaaGreatDoor
open _root_.Go.Proofs.Tryz Go.RowKit Go.Deep
open Value renaming slice->J,string->S,bool->F
open Option renaming some->M,none->N
open Obj renaming cells->O
set_option linter.unusedVariables false
set_option linter.unusedSimpArgs false
set_option maxHeartbeats 8000000
set_option maxRecDepth 100000
theorem lie_any:DrC 34:=by
 intro B R a len cap p w n tv qv T Rr h aj hp pp ul cm hd
 have P8:=h.lt
 have df:R<w.heap.size:=by omega
 obtain⟨xa,tc,qa,qc,rfl,rfl,jd⟩:=hd.rd cm.rbd
 obtain⟨W,eW⟩:∃W,(w.alloc (.cells #[.int .i64 (n:Int),.slice xa T.length tc,.slice qa Rr.length qc] 26)).alloc (.cells #[.int .i64 0,.slice none 0 0,.slice none 0 0] 26)=W:=⟨_,rfl⟩
 have f7:Below w.heap.size w W:=eW▸(aN _ _).alloc (by simp) _
 have sy:w.heap.size+2≤W.heap.size:=by rw[←eW];simp
 have oy:Hd (W.heap[w.heap.size]?=some (.cells #[.int .i64 (n:Int),.slice xa T.length tc,.slice qa Rr.length qc] 26 (0,0))):=by show _=_;rw[←eW];exact Kj _ _ _
 have d9:Hd (W.heap[w.heap.size+1]?=some (.cells #[.int .i64 0,.slice none 0 0,.slice none 0 0] 26 (0,0))):=by show _=_;rw[←eW];exact Kk _ _ _
 have fg:Hd (Ba B R a len cap p 0 w W):=Ba.bl ⟨Im _ _,p,Nat.le_refl _,h⟩ aj f7
 have kd:=Ad (jd.bl f7)
 have im:=Ad cm
 obtain⟨p0,p1,p2⟩:=Ab oy.o
 clear jd hd cm f7 h
 go_enter Tryz.func34,Tryz.ntmps34
 go_wp2_with fail
 clear eW p0 p1 p2
 refine(Gy (n:Int) xa tc qa qc T Rr W kd.o.xs kd.o.xn kd.o.st.st kd.o.rw kd.o.st.lt kd.o.hr kd.o.hk).mono ?_
 rintro e w4 ⟨bx,g1,t2,v2,rfl,xm,yu⟩
 obtain⟨xs,cvs,lvs,tp,dx⟩:=yu.rx2 im.o
 have te:=Ad dx
 clear dx
 have fj:=Ad (tp.base (show w.heap.size≤W.heap.size from by omega))
 have jl:=Ad ((xm.tx im.o.rbd).base (show w.heap.size≤W.heap.size from by omega))
 obtain⟨ra,rc,rfl⟩:=Ax tp.row
 replace oy:=Ad (Ac oy.o bx)
 replace d9:=Ad (Ac d9.o bx)
 replace fg:=Ad (fg.o.bl aj bx)
 have hs4:w.heap.size+2≤w4.heap.size:=Nat.le_trans sy bx.size
 clear bx xm yu tp kd im sy
 generalize (λi=>(qx Rr i).out)=os at fj
 generalize Rr.length=nr at fj oy te ⊢
 generalize T.length=nt at jl oy ⊢
 obtain⟨g5,Q3⟩:∃g,w4.heap.size=g:=⟨_,rfl⟩
 obtain⟨V,eV⟩:∃V,w4.alloc (.cells #[.int .i64 0,.slice none 0 0,.slice none 0 0] 26)=V:=⟨_,rfl⟩
 have cr:Below w4.heap.size w4 V:=eV▸aN _ _
 have d8:Hd (V.heap[g5]?=some (.cells #[.int .i64 0,.slice none 0 0,.slice none 0 0] 26 (0,0))):=by show _=_;rw[←eV,←Q3];exact Am _ _
 obtain⟨r0,r1,r2⟩:=Ab d8.o
 have rf:=(λj=>fH d8.o j)
 obtain⟨V2,dg⟩:∃y,((V.setCell ⟨g5,0,none⟩ (.int .i64 (n:Int))).setCell ⟨g5,1,none⟩ (.slice (some ⟨g1,0,none⟩) nt t2)).setCell ⟨g5,2,none⟩ (.slice ra nr rc)=y:=⟨_,rfl⟩
 have s9:Hd (Ai V g5 26):=⟨_,d8.o⟩
 replace d8:Hd (V2.heap[g5]?=some (.cells #[.int .i64 (n:Int),.slice (some ⟨g1,0,none⟩) nt t2,.slice ra nr rc] 26 (0,0))):=dg▸Cv d8.o _ _ _
 replace oy:Hd (V2.heap[w.heap.size]?=some (.cells #[.int .i64 (n:Int),.slice xa nt tc,.slice qa nr qc] 26 (0,0))):=dg▸Da (Ac oy.o cr) (by omega) _ _ _
 replace d9:Hd (V2.heap[w.heap.size+1]?=some (.cells #[.int .i64 0,.slice none 0 0,.slice none 0 0] 26 (0,0))):=dg▸Da (Ac d9.o cr) (by omega) _ _ _
 replace jl:Hd (Ks V2 w.heap.size (.slice (some ⟨g1,0,none⟩) nt t2) nt):=dg▸(((jl.o.bl cr).setT s9.o (by decide) _).setT (s9.o.set _) (by decide) _).setT ((s9.o.set _).set _) (by decide) _
 replace fj:Hd (RX V2 w.heap.size (.slice ra nr rc) nr True nr xs cvs lvs os):=dg▸(((fj.o.bl cr).setT s9.o (by decide) (by decide) (by decide) _).setT (s9.o.set _) (by decide) (by decide) (by decide) _).setT ((s9.o.set _).set _) (by decide) (by decide) (by decide) _
 replace fg:Hd (Ba B R a len cap p 0 w V2):=dg▸(((fg.o.bl aj cr).set aj (by omega) _).set aj (by omega) _).set aj (by omega) _
 have O6:w.heap.size+1<g5:=by omega
 have U1:nt≤20000:=by obtain⟨_,_,q,_⟩:=jl.o;exact q
 have hnr:nr≤20000:=fj.o.nb
 clear s9 cr
 go_upto_region 2 with fail
 clear eV dg r0 r1 r2 rf Q3 hs4
 obtain⟨s0,s1,s2⟩:=Ab d8.o
 rcases Nat.eq_zero_or_pos nr with hz|hnr1
 ·subst hz
  obtain⟨z0,z1,z2⟩:=Ab d9.o;have zf:=(λj=>fH d9.o j);obtain⟨AL,eY⟩:∃y,((V2.setCell ⟨w.heap.size+1,0,none⟩ (.int .i64 (n:Int))).setCell ⟨w.heap.size+1,1,none⟩ (.slice (some ⟨g1,0,none⟩) nt t2)).setCell ⟨w.heap.size+1,2,none⟩ (.slice ra 0 rc)=y:=⟨_,rfl⟩;have kj:Hd (Ai V2 (w.heap.size+1) 26):=⟨_,d9.o⟩;have HKY:Hd (AL.heap[w.heap.size+1]?=some (.cells #[.int .i64 (n:Int),.slice (some ⟨g1,0,none⟩) nt t2,.slice ra 0 rc] 26 (0,0))):=eY▸Cv d9.o _ _ _;have HE:Hd (∃T' R',Di AL w.heap.size (.slice (some ⟨g1,0,none⟩) nt t2) (.slice ra 0 rc) T' R'∧Qs T' R'):=eY▸RX.dst (((jl.o.setT kj.o (by decide) _).setT (kj.o.set _) (by decide) _).setT ((kj.o.set _).set _) (by decide) _) (((fj.o.setT kj.o (by decide) (by decide) (by decide) _).setT (kj.o.set _) (by decide) (by decide) (by decide) _).setT ((kj.o.set _).set _) (by decide) (by decide) (by decide) _) (Nat.le_refl _);have HRY:Hd (Ba B R a len cap p 3000 w AL):=eY▸(((fg.o.set aj (by omega) _).set aj (by omega) _).set aj (by omega) _).more (by omega);go_wp2;obtain⟨T',R',e1,e2⟩:=HE.o;obtain⟨y0,y1,y2⟩:=Ab HKY.o;have e1':=e1.base (show R+1≤w.heap.size from by omega);exact bR (v:=.agg #[.int .i64 (n:Int),.slice (some ⟨g1,0,none⟩) nt t2,.slice ra 0 rc]) (by simp[results,Tryz.results34,go_sem,y0,y1,y2]) rfl (by first|exact⟨(n:Int),_,_,_,_,_,_,T',R',rfl,e1',e2,HRY.o⟩|exact⟨(n:Int),_,_,_,_,_,_,rfl,T',R',e1',e2,HRY.o⟩)
 ·have hnI:((nr:Int) == 0)=false:=by simp;omega
  go_wp2_with fail;clear s0 s1 s2;refine(fg.o.pick (by omega) (nr:Int) (by omega) (by omega)).mono ?_;rintro e w5 ⟨i,rfl,hiI,az,am⟩;have hi:i<nr:=by omega
  have O5:(0:Int)≤(i:Int):=by omega
  replace oy:=Ad (Az oy.o am (by omega));replace d9:=Ad (Az d9.o am (by omega));replace d8:=Ad (Az d8.o am (by omega));replace jl:=Ad (jl.o.gb am df);replace fj:=Ad (fj.o.gb am df);replace fg:=Ad az;clear az am;obtain⟨b,c,eq,c0,c1,c2,ht,ji⟩:=fj.o.rcd hi;cases eq;have tj:=Ad (fj.o.cd i hi);have ig:=Ad (fj.o.lk i hi (by omega));have hob:(os i).size≤60000:=fj.o.ob i hi;obtain⟨lv,elv⟩:∃y,lvs i=y:=⟨_,rfl⟩;have me:=Ad elv;rw[elv]at ig c1;clear elv;generalize cvs i=cv at tj c0;generalize os i=o at hob c2;obtain⟨cg,cn,cc,rfl⟩:=tj.o.sl;obtain⟨la,ln,lc,rfl,_,wh⟩:=ig.o.sl;have gz:ln≤200:=te.o i la ln lc hi me.o;clear te;have je:=Ad wh;clear wh ht;have di:=World.block_lt_of_cell? w5 _ c0;obtain⟨g7,E6⟩:∃g,w5.heap.size=g:=⟨_,rfl⟩;have K0:g5<g7:=by have:=An d8.o;omega
  obtain⟨V,eV⟩:∃V,w5.alloc (.cells #[.slice none 0 0,.slice none 0 0,.string ⟨#[]⟩] 56)=V:=⟨_,rfl⟩;have cr:Below w5.heap.size w5 V:=eV▸aN _ _;have jo:Hd (V.heap[g7]?=some (.cells #[.slice none 0 0,.slice none 0 0,.string ⟨#[]⟩] 56 (0,0))):=by show _=_;rw[←eV,←E6];exact Am _ _
  obtain⟨r0,r1,r2⟩:=Ab jo.o;have rf:=(λj=>fH jo.o j);have ie:Hd (Ai V g7 56):=⟨_,jo.o⟩;obtain⟨V2,dg⟩:∃y,((V.setCell ⟨g7,0,none⟩ (.slice (some ⟨cg,0,none⟩) cn cc)).setCell ⟨g7,1,none⟩ (.slice la ln lc)).setCell ⟨g7,2,none⟩ (.string o)=y:=⟨_,rfl⟩;have zp:Hd (b≠g7):=by show _≠_;have:b<w5.heap.size:=di;omega
  have HL:Hd (It w B R a len cap p n g5 g7 nr i 1 True nr V2 (.slice (some ⟨g1,0,none⟩) nt t2) nt (.slice (some ⟨b,0,none⟩) nr rc) (.slice (some ⟨cg,0,none⟩) cn cc) (.slice la ln lc) o):=by
   (have aq:(Value.slice (some ⟨b,0,none⟩) nr rc).ownBlock≠some g7:=by intro q;simp[Value.ownBlock]at q;exact zp.o q);have t1:=ie.o.set (c:=g7) (j:=0) (.slice (some ⟨cg,0,none⟩) cn cc);have t2:=t1.set (c:=g7) (j:=1) (.slice la ln lc);rw[←dg];exact⟨⟨_,_,Da (Ac oy.o cr) (by omega) _ _ _⟩,Da (Ac d9.o cr) (by omega) _ _ _,Da (Ac d8.o cr) (by omega) _ _ _,Cv jo.o _ _ _,(((jl.o.bl cr).setT ie.o (by decide) _).setT t1 (by decide) _).setT t2 (by decide) _,⟨xs,cvs,lvs,os,(((fj.o.bl cr).setO ie.o aq _).setO t1 aq _).setO t2 aq _,λ_=>me.o⟩,(((tj.o.bl cr).setT ie.o (by decide) _).setT t1 (by decide) _).setT t2 (by decide) _,(((ig.o.bl cr).setT ie.o (by decide) _).setT t1 (by decide) _).setT t2 (by decide) _,hob,aq,(((fg.o.bl aj cr).set aj (by omega) _).set aj (by omega) _).set aj (by omega) _⟩
  obtain⟨s0,s1,s2⟩:=Ab d8.o;obtain⟨x0,x1,x2⟩:=Ab HL.o.k7;clear oy d9 d8 jo ie jl fj fg tj ig me cr;go_wp2_with fail;clear eV dg E6 r0 r1 r2 rf s0 s1 s2 x0 x1 x2 c0 c1 c2 di hob;refine(HL.o.rd.pickN (by omega) ln (by omega)).mono ?_;rintro e w6 ⟨k,rfl,HKN,az,am⟩;replace HL:=Ad (HL.o.gb df (by omega) (by omega) az am);clear az am;have fe:(0:Int)≤(k:Int):=by omega
  go_wp2_with fail;refine(HL.o.rd.pick (by omega) 10 (by omega) (by omega)).mono ?_;rintro e w7 ⟨y,rfl,hy,az,am⟩;replace HL:=Ad (HL.o.gb df (by omega) (by omega) az am);clear az am
  replace je:Hd ((la=none∧ln=0∧lc=0)∨∃g,la=some ⟨g,0,none⟩∧w.heap.size≤g∧Ai w7 g 79):=by
   obtain⟨a',n',c',e,_,q⟩:=HL.o.lx.sl;cases e;exact q
  rcases(show y=0∨y=1∨y=2∨y=3∨y=4∨y=5∨y=6∨y=7∨y=8∨y=9 from by omega)with rfl|rfl|rfl|rfl|rfl|rfl|rfl|rfl|rfl|rfl
  ·skip
   have c3:=HL.o.c3;go_wp2_with fail;refine(We ⟨#[48,58,108,105,101]⟩ n w7 (by decide) pp ul).mono ?_;rintro e w8 ⟨so,rfl,G5,fi⟩;replace HL:=Ad (HL.o.bl aj fi);clear fi c3;obtain⟨v0,v1,v2⟩:=Ab HL.o.k7;have vf:=(λj=>fH HL.o.k7 j);obtain⟨w9,e9⟩:∃y,w8.setCell ⟨g7,2,none⟩ (.string so)=y:=⟨_,rfl⟩;have lq:=Ad (HL.o.s2 aj (by omega) (by omega) (show so.size≤60000 from by omega));rw[e9]at lq
   go_upto_region 39 with fail
   clear e9 v0 v1 v2 vf;replace HL:=Ad lq.o.loose;clear lq;obtain⟨b9,c9,x0,x1,x2,re,bx,cw,f0,f1,f2,ff,d6⟩:=HL.o.fin aj df (by omega) (by omega) hi;cases re;obtain⟨AN,eX⟩:∃y,((w9.setCell ⟨b,i*3,none⟩ (.slice (some ⟨cg,0,none⟩) cn cc)).setCell ⟨b,i*3+1,none⟩ (.slice la ln lc)).setCell ⟨b,i*3+2,none⟩ (.string so)=y:=⟨_,rfl⟩;obtain⟨AL,eY⟩:∃y,((AN.setCell ⟨w.heap.size+1,0,none⟩ (.int .i64 (n:Int))).setCell ⟨w.heap.size+1,1,none⟩ (.slice (some ⟨g1,0,none⟩) nt t2)).setCell ⟨w.heap.size+1,2,none⟩ (.slice (some ⟨b,0,none⟩) nr rc)=y:=⟨_,rfl⟩;obtain⟨j5,j4,jY,dm,dr⟩:=d6 AN AL eX eY;have fx:=Ad dm;have fg:=Ad dr;have xi:=Ad jY;obtain⟨u0,u1,u2⟩:=Ab HL.o.k5;obtain⟨v0,v1,v2⟩:=Ab HL.o.k7;obtain⟨y0,y1,y2⟩:=Ab j5;obtain⟨z0,z1,z2⟩:=Ab j4;have zf:=(λj=>fH j4 j);clear d6 dm dr jY j5 j4 bx cw;go_wp2;obtain⟨T',R',e1,e2⟩:=fx.o;obtain⟨q0,q1,q2⟩:=Ab xi.o;exact bR (v:=.agg #[.int .i64 (n:Int),.slice (some ⟨g1,0,none⟩) nt t2,.slice (some ⟨b,0,none⟩) nr rc]) (by simp[results,Tryz.results34,go_sem,q0,q1,q2]) rfl (by first|exact⟨(n:Int),_,_,_,_,_,_,T',R',rfl,e1,e2,fg.o.more (by omega)⟩|exact⟨(n:Int),_,_,_,_,_,_,rfl,T',R',e1,e2,fg.o.more (by omega)⟩)
  ·skip
   obtain⟨s0,s1,s2⟩:=Ab HL.o.k5
   by_cases tm:(0:Int)<(nt:Int)
   ·go_wp2_with fail
    clear s0 s1 s2;refine Lt.begin 13 (λw'=>w'.cell? ⟨g5,1,none⟩=some (.slice (some ⟨g1,0,none⟩) nt t2)∧w'.cell? ⟨w.heap.size,0,none⟩=some (.int .i64 (n:Int))) (by kernel_rfl) ?_;obtain⟨wD,eD⟩:∃y,w7.drew=y:=⟨_,rfl⟩;rw[eD];(have ao:Below w7.heap.size w7 wD:=by rw[←eD];exact(Below.refl _ _).drew);clear eD;replace HL:=Ad (HL.o.bl aj ao);clear ao;have aw:wD.cell? ⟨g5,1,none⟩=some (.slice (some ⟨g1,0,none⟩) nt t2)∧wD.cell? ⟨w.heap.size,0,none⟩=some (.int .i64 (n:Int)):=⟨(Ab HL.o.k5).2.1,HL.o.c3⟩;change K 0 _
    iterate 6
     refine Lt.ti (v:=?_) aw ?_ ?_;rotate_left 1
     ·rintro w ⟨sA,sB⟩
      go_simp
      first|done|with_reducible rfl
     simp only[gX]
    change K 9 _
    iterate 2
     refine Lt.ti (v:=?_) aw ?_ ?_;rotate_left 1
     ·rintro w ⟨sA,sB⟩
      go_simp
      first|done|with_reducible rfl
     simp only[gX]
    refine Lt.sp (i:=6) (λK hK=>?_);go_simp;refine(HL.o.rd.pick (by omega) (nt:Int) (by omega) (by omega)).mono ?_;rintro e w8 ⟨z,rfl,hz,az,am⟩;replace HL:=Ad (HL.o.gb df (by omega) (by omega) az am);have bj:w8.cell? ⟨g5,1,none⟩=some (.slice (some ⟨g1,0,none⟩) nt t2)∧w8.cell? ⟨w.heap.size,0,none⟩=some (.int .i64 (n:Int)):=⟨(Ab HL.o.k5).2.1,HL.o.c3⟩;refine hK.out _ _ (λ_=>bj) (λ_=>?_);clear hK K az am
    try simp only[gX]
    (have bm:(0:Int)≤(z:Int):=by omega);obtain⟨tx,ctx,htx⟩:=HL.o.tx.at (i:=z) (by omega);refine Lt.sp (i:=7) (λK hK=>?_);go_simp;refine hK.out _ _ (λ_=>bj) (λ_=>?_);clear hK K 
    try simp only[gX]
    refine Lt.sp (i:=8) (λK hK=>?_);go_simp;refine hK.out _ _ (λ_=>bj) (λ_=>?_);clear hK K 
    try simp only[gX]
    clear ctx;refine Lt.sp (i:=11) (λK hK=>?_);go_simp;refine(We tx n _ (by omega) pp ul).mono ?_;rintro e C4 ⟨so,rfl,G5,fi⟩;replace HL:=Ad (HL.o.bl aj fi);have cz:C4.cell? ⟨g5,1,none⟩=some (.slice (some ⟨g1,0,none⟩) nt t2)∧C4.cell? ⟨w.heap.size,0,none⟩=some (.int .i64 (n:Int)):=⟨(Ab HL.o.k5).2.1,HL.o.c3⟩;refine hK.out _ _ (λ_=>cz) (λ_=>?_);clear hK K fi
    try simp only[gX]
    refine Lt.ti (i:=12) (v:=?_) cz ?_ ?_;rotate_left 1
    ·rintro w ⟨sA,sB⟩
     go_simp
     first|done|with_reducible rfl
    simp only[gX];obtain⟨v0,v1,v2⟩:=Ab HL.o.k7;have vf:=(λj=>fH HL.o.k7 j);obtain⟨w9,e9⟩:∃y,C4.setCell ⟨g7,2,none⟩ (.string so)=y:=⟨_,rfl⟩;have lq:=Ad (HL.o.s2 aj (by omega) (by omega) (show so.size≤60000 from by omega));rw[e9]at lq;refine Lt.sp (i:=13) (λK hK=>?_);go_simp
    try rw[e9]
    refine hK.out _ _ (λh=>absurd h (by decide)) (λ_=>?_);clear hK K e9 v0 v1 v2 vf
    try simp only[gX]
    refine Lt.done (by kernel_rfl) ?_ _;replace HL:=Ad lq.o.loose;clear lq;obtain⟨b9,c9,x0,x1,x2,re,bx,cw,f0,f1,f2,ff,d6⟩:=HL.o.fin aj df (by omega) (by omega) hi;cases re;obtain⟨AN,eX⟩:∃y,((w9.setCell ⟨b,i*3,none⟩ (.slice (some ⟨cg,0,none⟩) cn cc)).setCell ⟨b,i*3+1,none⟩ (.slice la ln lc)).setCell ⟨b,i*3+2,none⟩ (.string so)=y:=⟨_,rfl⟩;obtain⟨AL,eY⟩:∃y,((AN.setCell ⟨w.heap.size+1,0,none⟩ (.int .i64 (n:Int))).setCell ⟨w.heap.size+1,1,none⟩ (.slice (some ⟨g1,0,none⟩) nt t2)).setCell ⟨w.heap.size+1,2,none⟩ (.slice (some ⟨b,0,none⟩) nr rc)=y:=⟨_,rfl⟩;obtain⟨j5,j4,jY,dm,dr⟩:=d6 AN AL eX eY;have fx:=Ad dm;have fg:=Ad dr;have xi:=Ad jY;obtain⟨u0,u1,u2⟩:=Ab HL.o.k5;obtain⟨v0,v1,v2⟩:=Ab HL.o.k7;obtain⟨y0,y1,y2⟩:=Ab j5;obtain⟨z0,z1,z2⟩:=Ab j4;have zf:=(λj=>fH j4 j);clear d6 dm dr jY j5 j4 bx cw;go_wp2;obtain⟨T',R',e1,e2⟩:=fx.o;obtain⟨q0,q1,q2⟩:=Ab xi.o;exact bR (v:=.agg #[.int .i64 (n:Int),.slice (some ⟨g1,0,none⟩) nt t2,.slice (some ⟨b,0,none⟩) nr rc]) (by simp[results,Tryz.results34,go_sem,q0,q1,q2]) rfl (by first|exact⟨(n:Int),_,_,_,_,_,_,T',R',rfl,e1,e2,fg.o.more (by omega)⟩|exact⟨(n:Int),_,_,_,_,_,_,rfl,T',R',e1,e2,fg.o.more (by omega)⟩)
   ·skip
    replace HL:=Ad HL.o.loose;obtain⟨b9,c9,x0,x1,x2,re,bx,cw,f0,f1,f2,ff,d6⟩:=HL.o.fin aj df (by omega) (by omega) hi;cases re;obtain⟨AN,eX⟩:∃y,((w7.setCell ⟨b,i*3,none⟩ (.slice (some ⟨cg,0,none⟩) cn cc)).setCell ⟨b,i*3+1,none⟩ (.slice la ln lc)).setCell ⟨b,i*3+2,none⟩ (.string o)=y:=⟨_,rfl⟩;obtain⟨AL,eY⟩:∃y,((AN.setCell ⟨w.heap.size+1,0,none⟩ (.int .i64 (n:Int))).setCell ⟨w.heap.size+1,1,none⟩ (.slice (some ⟨g1,0,none⟩) nt t2)).setCell ⟨w.heap.size+1,2,none⟩ (.slice (some ⟨b,0,none⟩) nr rc)=y:=⟨_,rfl⟩;obtain⟨j5,j4,jY,dm,dr⟩:=d6 AN AL eX eY;have fx:=Ad dm;have fg:=Ad dr;have xi:=Ad jY;obtain⟨u0,u1,u2⟩:=Ab HL.o.k5;obtain⟨v0,v1,v2⟩:=Ab HL.o.k7;obtain⟨y0,y1,y2⟩:=Ab j5;obtain⟨z0,z1,z2⟩:=Ab j4;have zf:=(λj=>fH j4 j);clear d6 dm dr jY j5 j4 bx cw;go_wp2;obtain⟨T',R',e1,e2⟩:=fx.o;obtain⟨q0,q1,q2⟩:=Ab xi.o;exact bR (v:=.agg #[.int .i64 (n:Int),.slice (some ⟨g1,0,none⟩) nt t2,.slice (some ⟨b,0,none⟩) nr rc]) (by simp[results,Tryz.results34,go_sem,q0,q1,q2]) rfl (by first|exact⟨(n:Int),_,_,_,_,_,_,T',R',rfl,e1,e2,fg.o.more (by omega)⟩|exact⟨(n:Int),_,_,_,_,_,_,rfl,T',R',e1,e2,fg.o.more (by omega)⟩)
  ·skip
   obtain⟨v0,v1,v2⟩:=Ab HL.o.k7
   by_cases tm:(0:Int)<(ln:Int)
   ·rcases je.o with⟨rfl,rfl,rfl⟩|⟨g,rfl,uo,S8⟩
    ·exact absurd tm (by decide)
    ·have pq:k<ln:=HKN.o (by omega)
     (have gi:(k:Int)<(ln:Int):=by omega);clear S8 je;go_wp2_with fail;clear v0 v1 v2;refine Lt.begin 7 (λw'=>w'.cell? ⟨g7,1,none⟩=some (.slice (some ⟨g,0,none⟩) ln lc)) (by kernel_rfl) ?_;obtain⟨wD,eD⟩:∃y,w7.drew=y:=⟨_,rfl⟩;rw[eD];(have ao:Below w7.heap.size w7 wD:=by rw[←eD];exact(Below.refl _ _).drew);clear eD;replace HL:=Ad (HL.o.bl aj ao);clear ao;have aw:wD.cell? ⟨g7,1,none⟩=some (.slice (some ⟨g,0,none⟩) ln lc):=(Ab HL.o.k7).2.1;change K 0 _
     iterate 4
      refine Lt.ti (v:=?_) aw ?_ ?_;rotate_left 1
      ·rintro w sA
       go_simp
       first|done|with_reducible rfl
      simp only[gX]
     refine Lt.sp (i:=4) (λK hK=>?_);go_simp;refine(HL.o.rd.name aj (by omega)).mono ?_;rintro e w8 ⟨s,rfl,hs,az,am⟩;replace HL:=Ad (HL.o.gb df (by omega) (by omega) az am);have bj:w8.cell? ⟨g7,1,none⟩=some (.slice (some ⟨g,0,none⟩) ln lc):=(Ab HL.o.k7).2.1;refine hK.out _ _ (λ_=>bj) (λ_=>?_);clear hK K az am
     try simp only[gX]
     have zj:Hd (Ai w8 g 79):=by
      obtain⟨a',n',c',e,_,q⟩:=HL.o.lx.sl;cases e
      rcases q with⟨q,_⟩|⟨g',q,_,q2⟩
      ·cases q
      ·cases q;exact q2
     (have gf:∀j,w8.frozen? ⟨g,j,none⟩=false:=λj=>by obtain⟨cs,q⟩:=zj.o;exact fH q j);obtain⟨xg,d0,d1,d2⟩:=HL.o.lx.at pq;obtain⟨w9,e9⟩:∃y,w8.setCell ⟨g,k*3,none⟩ (.string s)=y:=⟨_,rfl⟩;have lq:=Ad (HL.o.sl aj zj.o uo (j:=k*3) (u:=.string s) (λv q=>q.set0 (by omega)));rw[e9]at lq;refine Lt.sp (i:=5) (λK hK=>?_);go_simp;refine hK.out _ _ (λ_=>bj) (λ_=>?_);clear hK K 
     try simp only[gX]
     refine Lt.sp (i:=6) (λK hK=>?_);go_simp;refine hK.out _ _ (λ_=>bj) (λ_=>?_);clear hK K 
     try simp only[gX]
     refine Lt.sp (i:=7) (λK hK=>?_);go_simp
     try rw[e9]
     refine hK.out _ _ (λh=>absurd h (by decide)) (λ_=>?_);clear hK K e9 gf d0 d1 d2
     try simp only[gX]
     refine Lt.done (by kernel_rfl) ?_ _;replace HL:=Ad lq.o.loose;clear lq;obtain⟨b9,c9,x0,x1,x2,re,bx,cw,f0,f1,f2,ff,d6⟩:=HL.o.fin aj df (by omega) (by omega) hi;cases re;obtain⟨AN,eX⟩:∃y,((w9.setCell ⟨b,i*3,none⟩ (.slice (some ⟨cg,0,none⟩) cn cc)).setCell ⟨b,i*3+1,none⟩ (.slice (some ⟨g,0,none⟩) ln lc)).setCell ⟨b,i*3+2,none⟩ (.string o)=y:=⟨_,rfl⟩;obtain⟨AL,eY⟩:∃y,((AN.setCell ⟨w.heap.size+1,0,none⟩ (.int .i64 (n:Int))).setCell ⟨w.heap.size+1,1,none⟩ (.slice (some ⟨g1,0,none⟩) nt t2)).setCell ⟨w.heap.size+1,2,none⟩ (.slice (some ⟨b,0,none⟩) nr rc)=y:=⟨_,rfl⟩;obtain⟨j5,j4,jY,dm,dr⟩:=d6 AN AL eX eY;have fx:=Ad dm;have fg:=Ad dr;have xi:=Ad jY;obtain⟨u0,u1,u2⟩:=Ab HL.o.k5;obtain⟨v0,v1,v2⟩:=Ab HL.o.k7;obtain⟨y0,y1,y2⟩:=Ab j5;obtain⟨z0,z1,z2⟩:=Ab j4;have zf:=(λj=>fH j4 j);clear d6 dm dr jY j5 j4 bx cw;go_wp2;obtain⟨T',R',e1,e2⟩:=fx.o;obtain⟨q0,q1,q2⟩:=Ab xi.o;exact bR (v:=.agg #[.int .i64 (n:Int),.slice (some ⟨g1,0,none⟩) nt t2,.slice (some ⟨b,0,none⟩) nr rc]) (by simp[results,Tryz.results34,go_sem,q0,q1,q2]) rfl (by first|exact⟨(n:Int),_,_,_,_,_,_,T',R',rfl,e1,e2,fg.o.more (by omega)⟩|exact⟨(n:Int),_,_,_,_,_,_,rfl,T',R',e1,e2,fg.o.more (by omega)⟩)
   ·skip
    replace HL:=Ad HL.o.loose;obtain⟨b9,c9,x0,x1,x2,re,bx,cw,f0,f1,f2,ff,d6⟩:=HL.o.fin aj df (by omega) (by omega) hi;cases re;obtain⟨AN,eX⟩:∃y,((w7.setCell ⟨b,i*3,none⟩ (.slice (some ⟨cg,0,none⟩) cn cc)).setCell ⟨b,i*3+1,none⟩ (.slice la ln lc)).setCell ⟨b,i*3+2,none⟩ (.string o)=y:=⟨_,rfl⟩;obtain⟨AL,eY⟩:∃y,((AN.setCell ⟨w.heap.size+1,0,none⟩ (.int .i64 (n:Int))).setCell ⟨w.heap.size+1,1,none⟩ (.slice (some ⟨g1,0,none⟩) nt t2)).setCell ⟨w.heap.size+1,2,none⟩ (.slice (some ⟨b,0,none⟩) nr rc)=y:=⟨_,rfl⟩;obtain⟨j5,j4,jY,dm,dr⟩:=d6 AN AL eX eY;have fx:=Ad dm;have fg:=Ad dr;have xi:=Ad jY;obtain⟨u0,u1,u2⟩:=Ab HL.o.k5;obtain⟨v0,v1,v2⟩:=Ab HL.o.k7;obtain⟨y0,y1,y2⟩:=Ab j5;obtain⟨z0,z1,z2⟩:=Ab j4;have zf:=(λj=>fH j4 j);clear d6 dm dr jY j5 j4 bx cw;go_wp2;obtain⟨T',R',e1,e2⟩:=fx.o;obtain⟨q0,q1,q2⟩:=Ab xi.o;exact bR (v:=.agg #[.int .i64 (n:Int),.slice (some ⟨g1,0,none⟩) nt t2,.slice (some ⟨b,0,none⟩) nr rc]) (by simp[results,Tryz.results34,go_sem,q0,q1,q2]) rfl (by first|exact⟨(n:Int),_,_,_,_,_,_,T',R',rfl,e1,e2,fg.o.more (by omega)⟩|exact⟨(n:Int),_,_,_,_,_,_,rfl,T',R',e1,e2,fg.o.more (by omega)⟩)
  ·skip
   obtain⟨v0,v1,v2⟩:=Ab HL.o.k7
   by_cases tm:(0:Int)<(ln:Int)
   ·rcases je.o with⟨rfl,rfl,rfl⟩|⟨g,rfl,uo,S8⟩
    ·exact absurd tm (by decide)
    ·have pq:k<ln:=HKN.o (by omega)
     (have gi:(k:Int)<(ln:Int):=by omega);clear S8 je;go_wp2_with fail;clear v0 v1 v2;obtain⟨xg,_,d1,_⟩:=HL.o.lx.at pq;have jf:=Ad d1;clear d1;refine Lt.begin 12 (λw'=>w'.cell? ⟨g7,1,none⟩=some (.slice (some ⟨g,0,none⟩) ln lc)∧w'.cell? ⟨g,k*3+1,none⟩=some (.bool xg.ask)) (by kernel_rfl) ?_;obtain⟨wD,eD⟩:∃y,w7.drew=y:=⟨_,rfl⟩;rw[eD];(have ao:Below w7.heap.size w7 wD:=by rw[←eD];exact(Below.refl _ _).drew);clear eD;replace HL:=Ad (HL.o.bl aj ao);have aw:wD.cell? ⟨g7,1,none⟩=some (.slice (some ⟨g,0,none⟩) ln lc)∧wD.cell? ⟨g,k*3+1,none⟩=some (.bool xg.ask):=⟨(Ab HL.o.k7).2.1,Aa ao jf.o⟩;clear ao jf;generalize xg.ask=ask at *;change K 0 _
     iterate 10
      refine Lt.ti (v:=?_) aw ?_ ?_;rotate_left 1
      ·rintro w ⟨sA,sB⟩
       go_simp
       first|done|with_reducible rfl
      simp only[gX]
     refine Lt.sp (i:=10) (λK hK=>?_);go_simp;refine hK.out _ _ (λ_=>aw) (λ_=>?_);clear hK K 
     try simp only[gX]
     refine Lt.sp (i:=11) (λK hK=>?_);go_simp;refine hK.out _ _ (λ_=>aw) (λ_=>?_);clear hK K 
     try simp only[gX]
     have zj:Hd (Ai wD g 79):=by
      obtain⟨a',n',c',e,_,q⟩:=HL.o.lx.sl;cases e
      rcases q with⟨q,_⟩|⟨g',q,_,q2⟩
      ·cases q
      ·cases q;exact q2
     (have gf:∀j,wD.frozen? ⟨g,j,none⟩=false:=λj=>by obtain⟨cs,q⟩:=zj.o;exact fH q j);obtain⟨xg,d0,d1,d2⟩:=HL.o.lx.at pq;obtain⟨w9,e9⟩:∃y,wD.setCell ⟨g,k*3+1,none⟩ (.bool (!ask))=y:=⟨_,rfl⟩;have lq:=Ad (HL.o.sl aj zj.o uo (j:=k*3+1) (u:=.bool (!ask)) (λv q=>q.set1 _));rw[e9]at lq;refine Lt.sp (i:=12) (λK hK=>?_);go_simp
     try rw[e9]
     refine hK.out _ _ (λh=>absurd h (by decide)) (λ_=>?_);clear hK K e9 gf d0 d1 d2 aw
     try simp only[gX]
     refine Lt.done (by kernel_rfl) ?_ _;replace HL:=Ad lq.o.loose;clear lq;obtain⟨b9,c9,x0,x1,x2,re,bx,cw,f0,f1,f2,ff,d6⟩:=HL.o.fin aj df (by omega) (by omega) hi;cases re;obtain⟨AN,eX⟩:∃y,((w9.setCell ⟨b,i*3,none⟩ (.slice (some ⟨cg,0,none⟩) cn cc)).setCell ⟨b,i*3+1,none⟩ (.slice (some ⟨g,0,none⟩) ln lc)).setCell ⟨b,i*3+2,none⟩ (.string o)=y:=⟨_,rfl⟩;obtain⟨AL,eY⟩:∃y,((AN.setCell ⟨w.heap.size+1,0,none⟩ (.int .i64 (n:Int))).setCell ⟨w.heap.size+1,1,none⟩ (.slice (some ⟨g1,0,none⟩) nt t2)).setCell ⟨w.heap.size+1,2,none⟩ (.slice (some ⟨b,0,none⟩) nr rc)=y:=⟨_,rfl⟩;obtain⟨j5,j4,jY,dm,dr⟩:=d6 AN AL eX eY;have fx:=Ad dm;have fg:=Ad dr;have xi:=Ad jY;obtain⟨u0,u1,u2⟩:=Ab HL.o.k5;obtain⟨v0,v1,v2⟩:=Ab HL.o.k7;obtain⟨y0,y1,y2⟩:=Ab j5;obtain⟨z0,z1,z2⟩:=Ab j4;have zf:=(λj=>fH j4 j);clear d6 dm dr jY j5 j4 bx cw;go_wp2;obtain⟨T',R',e1,e2⟩:=fx.o;obtain⟨q0,q1,q2⟩:=Ab xi.o;exact bR (v:=.agg #[.int .i64 (n:Int),.slice (some ⟨g1,0,none⟩) nt t2,.slice (some ⟨b,0,none⟩) nr rc]) (by simp[results,Tryz.results34,go_sem,q0,q1,q2]) rfl (by first|exact⟨(n:Int),_,_,_,_,_,_,T',R',rfl,e1,e2,fg.o.more (by omega)⟩|exact⟨(n:Int),_,_,_,_,_,_,rfl,T',R',e1,e2,fg.o.more (by omega)⟩)
   ·skip
    replace HL:=Ad HL.o.loose;obtain⟨b9,c9,x0,x1,x2,re,bx,cw,f0,f1,f2,ff,d6⟩:=HL.o.fin aj df (by omega) (by omega) hi;cases re;obtain⟨AN,eX⟩:∃y,((w7.setCell ⟨b,i*3,none⟩ (.slice (some ⟨cg,0,none⟩) cn cc)).setCell ⟨b,i*3+1,none⟩ (.slice la ln lc)).setCell ⟨b,i*3+2,none⟩ (.string o)=y:=⟨_,rfl⟩;obtain⟨AL,eY⟩:∃y,((AN.setCell ⟨w.heap.size+1,0,none⟩ (.int .i64 (n:Int))).setCell ⟨w.heap.size+1,1,none⟩ (.slice (some ⟨g1,0,none⟩) nt t2)).setCell ⟨w.heap.size+1,2,none⟩ (.slice (some ⟨b,0,none⟩) nr rc)=y:=⟨_,rfl⟩;obtain⟨j5,j4,jY,dm,dr⟩:=d6 AN AL eX eY;have fx:=Ad dm;have fg:=Ad dr;have xi:=Ad jY;obtain⟨u0,u1,u2⟩:=Ab HL.o.k5;obtain⟨v0,v1,v2⟩:=Ab HL.o.k7;obtain⟨y0,y1,y2⟩:=Ab j5;obtain⟨z0,z1,z2⟩:=Ab j4;have zf:=(λj=>fH j4 j);clear d6 dm dr jY j5 j4 bx cw;go_wp2;obtain⟨T',R',e1,e2⟩:=fx.o;obtain⟨q0,q1,q2⟩:=Ab xi.o;exact bR (v:=.agg #[.int .i64 (n:Int),.slice (some ⟨g1,0,none⟩) nt t2,.slice (some ⟨b,0,none⟩) nr rc]) (by simp[results,Tryz.results34,go_sem,q0,q1,q2]) rfl (by first|exact⟨(n:Int),_,_,_,_,_,_,T',R',rfl,e1,e2,fg.o.more (by omega)⟩|exact⟨(n:Int),_,_,_,_,_,_,rfl,T',R',e1,e2,fg.o.more (by omega)⟩)
  ·skip
   obtain⟨v0,v1,v2⟩:=Ab HL.o.k7
   by_cases tm:(0:Int)<(ln:Int)
   ·rcases je.o with⟨rfl,rfl,rfl⟩|⟨g,rfl,uo,S8⟩
    ·exact absurd tm (by decide)
    ·have pq:k<ln:=HKN.o (by omega)
     (have gi:(k:Int)<(ln:Int):=by omega);clear S8 je;go_wp2_with fail;clear v0 v1 v2;refine Lt.begin 12 (λw'=>w'.cell? ⟨g7,1,none⟩=some (.slice (some ⟨g,0,none⟩) ln lc)∧w'.cell? ⟨w.heap.size,0,none⟩=some (.int .i64 (n:Int))) (by kernel_rfl) ?_;obtain⟨wD,eD⟩:∃y,w7.drew=y:=⟨_,rfl⟩;rw[eD];(have ao:Below w7.heap.size w7 wD:=by rw[←eD];exact(Below.refl _ _).drew);clear eD;replace HL:=Ad (HL.o.bl aj ao);clear ao;have aw:wD.cell? ⟨g7,1,none⟩=some (.slice (some ⟨g,0,none⟩) ln lc)∧wD.cell? ⟨w.heap.size,0,none⟩=some (.int .i64 (n:Int)):=⟨(Ab HL.o.k7).2.1,HL.o.c3⟩;change K 0 _
     iterate 4
      refine Lt.ti (v:=?_) aw ?_ ?_;rotate_left 1
      ·rintro w ⟨sA,sB⟩
       go_simp
       first|done|with_reducible rfl
      simp only[gX]
     change K 7 _
     iterate 2
      refine Lt.ti (v:=?_) aw ?_ ?_;rotate_left 1
      ·rintro w ⟨sA,sB⟩
       go_simp
       first|done|with_reducible rfl
      simp only[gX]
     refine Lt.sp (i:=4) (λK hK=>?_);go_simp;refine(HL.o.rd.pick (by omega) 2 (by omega) (by omega)).mono ?_;rintro e w8 ⟨z,rfl,hz,az,am⟩;replace HL:=Ad (HL.o.gb df (by omega) (by omega) az am);have bj:w8.cell? ⟨g7,1,none⟩=some (.slice (some ⟨g,0,none⟩) ln lc)∧w8.cell? ⟨w.heap.size,0,none⟩=some (.int .i64 (n:Int)):=⟨(Ab HL.o.k7).2.1,HL.o.c3⟩;refine hK.out _ _ (λ_=>bj) (λ_=>?_);clear hK K az am
     try simp only[gX]
     refine Lt.ti (i:=5) (v:=?_) bj ?_ ?_;rotate_left 1
     ·rintro w ⟨sA,sB⟩
      go_simp
      first|done|with_reducible rfl
     simp only[gX];generalize ((z:Int) == 0)=zb;refine Lt.sp (i:=6) (λK hK=>?_);go_simp;refine(Ey _ _).mono ?_;rintro e wF ⟨rfl,rfl⟩;refine hK.out _ _ (λ_=>bj) (λ_=>?_);clear hK K 
     try simp only[gX]
     refine Lt.sp (i:=9) (λK hK=>?_);go_simp;refine(We (De zb) n _ (by have:=Et zb;omega) pp ul).mono ?_;rintro e C4 ⟨so,rfl,G5,fi⟩;replace HL:=Ad (HL.o.bl aj fi);have cz:C4.cell? ⟨g7,1,none⟩=some (.slice (some ⟨g,0,none⟩) ln lc)∧C4.cell? ⟨w.heap.size,0,none⟩=some (.int .i64 (n:Int)):=⟨(Ab HL.o.k7).2.1,HL.o.c3⟩;refine hK.out _ _ (λ_=>cz) (λ_=>?_);clear hK K fi
     try simp only[gX]
     have zj:Hd (Ai C4 g 79):=by
      obtain⟨a',n',c',e,_,q⟩:=HL.o.lx.sl;cases e
      rcases q with⟨q,_⟩|⟨g',q,_,q2⟩
      ·cases q
      ·cases q;exact q2
     (have gf:∀j,C4.frozen? ⟨g,j,none⟩=false:=λj=>by obtain⟨cs,q⟩:=zj.o;exact fH q j);obtain⟨xg,d0,d1,d2⟩:=HL.o.lx.at pq;obtain⟨w9,e9⟩:∃y,C4.setCell ⟨g,k*3+2,none⟩ (.string so)=y:=⟨_,rfl⟩;have lq:=Ad (HL.o.sl aj zj.o uo (j:=k*3+2) (u:=.string so) (λv q=>q.set2 (by omega)));rw[e9]at lq;refine Lt.sp (i:=10) (λK hK=>?_);go_simp;refine hK.out _ _ (λ_=>cz) (λ_=>?_);clear hK K 
     try simp only[gX]
     refine Lt.sp (i:=11) (λK hK=>?_);go_simp;refine hK.out _ _ (λ_=>cz) (λ_=>?_);clear hK K 
     try simp only[gX]
     refine Lt.sp (i:=12) (λK hK=>?_);go_simp
     try rw[e9]
     refine hK.out _ _ (λh=>absurd h (by decide)) (λ_=>?_);clear hK K e9 gf d0 d1 d2
     try simp only[gX]
     refine Lt.done (by kernel_rfl) ?_ _;replace HL:=Ad lq.o.loose;clear lq;obtain⟨b9,c9,x0,x1,x2,re,bx,cw,f0,f1,f2,ff,d6⟩:=HL.o.fin aj df (by omega) (by omega) hi;cases re;obtain⟨AN,eX⟩:∃y,((w9.setCell ⟨b,i*3,none⟩ (.slice (some ⟨cg,0,none⟩) cn cc)).setCell ⟨b,i*3+1,none⟩ (.slice (some ⟨g,0,none⟩) ln lc)).setCell ⟨b,i*3+2,none⟩ (.string o)=y:=⟨_,rfl⟩;obtain⟨AL,eY⟩:∃y,((AN.setCell ⟨w.heap.size+1,0,none⟩ (.int .i64 (n:Int))).setCell ⟨w.heap.size+1,1,none⟩ (.slice (some ⟨g1,0,none⟩) nt t2)).setCell ⟨w.heap.size+1,2,none⟩ (.slice (some ⟨b,0,none⟩) nr rc)=y:=⟨_,rfl⟩;obtain⟨j5,j4,jY,dm,dr⟩:=d6 AN AL eX eY;have fx:=Ad dm;have fg:=Ad dr;have xi:=Ad jY;obtain⟨u0,u1,u2⟩:=Ab HL.o.k5;obtain⟨v0,v1,v2⟩:=Ab HL.o.k7;obtain⟨y0,y1,y2⟩:=Ab j5;obtain⟨z0,z1,z2⟩:=Ab j4;have zf:=(λj=>fH j4 j);clear d6 dm dr jY j5 j4 bx cw;go_wp2;obtain⟨T',R',e1,e2⟩:=fx.o;obtain⟨q0,q1,q2⟩:=Ab xi.o;exact bR (v:=.agg #[.int .i64 (n:Int),.slice (some ⟨g1,0,none⟩) nt t2,.slice (some ⟨b,0,none⟩) nr rc]) (by simp[results,Tryz.results34,go_sem,q0,q1,q2]) rfl (by first|exact⟨(n:Int),_,_,_,_,_,_,T',R',rfl,e1,e2,fg.o.more (by omega)⟩|exact⟨(n:Int),_,_,_,_,_,_,rfl,T',R',e1,e2,fg.o.more (by omega)⟩)
   ·skip
    replace HL:=Ad HL.o.loose;obtain⟨b9,c9,x0,x1,x2,re,bx,cw,f0,f1,f2,ff,d6⟩:=HL.o.fin aj df (by omega) (by omega) hi;cases re;obtain⟨AN,eX⟩:∃y,((w7.setCell ⟨b,i*3,none⟩ (.slice (some ⟨cg,0,none⟩) cn cc)).setCell ⟨b,i*3+1,none⟩ (.slice la ln lc)).setCell ⟨b,i*3+2,none⟩ (.string o)=y:=⟨_,rfl⟩;obtain⟨AL,eY⟩:∃y,((AN.setCell ⟨w.heap.size+1,0,none⟩ (.int .i64 (n:Int))).setCell ⟨w.heap.size+1,1,none⟩ (.slice (some ⟨g1,0,none⟩) nt t2)).setCell ⟨w.heap.size+1,2,none⟩ (.slice (some ⟨b,0,none⟩) nr rc)=y:=⟨_,rfl⟩;obtain⟨j5,j4,jY,dm,dr⟩:=d6 AN AL eX eY;have fx:=Ad dm;have fg:=Ad dr;have xi:=Ad jY;obtain⟨u0,u1,u2⟩:=Ab HL.o.k5;obtain⟨v0,v1,v2⟩:=Ab HL.o.k7;obtain⟨y0,y1,y2⟩:=Ab j5;obtain⟨z0,z1,z2⟩:=Ab j4;have zf:=(λj=>fH j4 j);clear d6 dm dr jY j5 j4 bx cw;go_wp2;obtain⟨T',R',e1,e2⟩:=fx.o;obtain⟨q0,q1,q2⟩:=Ab xi.o;exact bR (v:=.agg #[.int .i64 (n:Int),.slice (some ⟨g1,0,none⟩) nt t2,.slice (some ⟨b,0,none⟩) nr rc]) (by simp[results,Tryz.results34,go_sem,q0,q1,q2]) rfl (by first|exact⟨(n:Int),_,_,_,_,_,_,T',R',rfl,e1,e2,fg.o.more (by omega)⟩|exact⟨(n:Int),_,_,_,_,_,_,rfl,T',R',e1,e2,fg.o.more (by omega)⟩)
  ·skip
   obtain⟨v0,v1,v2⟩:=Ab HL.o.k7;have vf:=(λj=>fH HL.o.k7 j)
   by_cases tm:(0:Int)<(ln:Int)
   ·rcases je.o with⟨rfl,rfl,rfl⟩|⟨g,rfl,uo,S8⟩
    ·exact absurd tm (by decide)
    ·obtain⟨m,rfl⟩:∃m,ln=m+1:=⟨ln-1,by omega⟩
     have hlc:m+1≤lc:=HL.o.lx.cap;(have hm0:(0:Int)≤(m:Int):=by omega);(have hmc:(m:Int)≤(lc:Int):=by omega);have hmw:IntKind.wrap .i64 (m:Int)=(m:Int):=Pj (by omega);clear S8 je;replace HL:=Ad HL.o.loose;obtain⟨w9,e9⟩:∃y,w7.setCell ⟨g7,1,none⟩ (.slice (some ⟨g,0,none⟩) m lc)=y:=⟨_,rfl⟩;have lq:=Ad (HL.o.s1 aj (by omega) (by omega) (HL.o.lx.cut (m:=m) (by omega)));rw[e9]at lq
     go_upto_region 39 with fail
     clear e9 v0 v1 v2 vf;replace HL:=Ad lq.o;clear lq;obtain⟨b9,c9,x0,x1,x2,re,bx,cw,f0,f1,f2,ff,d6⟩:=HL.o.fin aj df (by omega) (by omega) hi;cases re;obtain⟨AN,eX⟩:∃y,((w9.setCell ⟨b,i*3,none⟩ (.slice (some ⟨cg,0,none⟩) cn cc)).setCell ⟨b,i*3+1,none⟩ (.slice (some ⟨g,0,none⟩) m lc)).setCell ⟨b,i*3+2,none⟩ (.string o)=y:=⟨_,rfl⟩;obtain⟨AL,eY⟩:∃y,((AN.setCell ⟨w.heap.size+1,0,none⟩ (.int .i64 (n:Int))).setCell ⟨w.heap.size+1,1,none⟩ (.slice (some ⟨g1,0,none⟩) nt t2)).setCell ⟨w.heap.size+1,2,none⟩ (.slice (some ⟨b,0,none⟩) nr rc)=y:=⟨_,rfl⟩;obtain⟨j5,j4,jY,dm,dr⟩:=d6 AN AL eX eY;have fx:=Ad dm;have fg:=Ad dr;have xi:=Ad jY;obtain⟨u0,u1,u2⟩:=Ab HL.o.k5;obtain⟨v0,v1,v2⟩:=Ab HL.o.k7;obtain⟨y0,y1,y2⟩:=Ab j5;obtain⟨z0,z1,z2⟩:=Ab j4;have zf:=(λj=>fH j4 j);clear d6 dm dr jY j5 j4 bx cw;go_wp2;obtain⟨T',R',e1,e2⟩:=fx.o;obtain⟨q0,q1,q2⟩:=Ab xi.o;exact bR (v:=.agg #[.int .i64 (n:Int),.slice (some ⟨g1,0,none⟩) nt t2,.slice (some ⟨b,0,none⟩) nr rc]) (by simp[results,Tryz.results34,go_sem,q0,q1,q2]) rfl (by first|exact⟨(n:Int),_,_,_,_,_,_,T',R',rfl,e1,e2,fg.o.more (by omega)⟩|exact⟨(n:Int),_,_,_,_,_,_,rfl,T',R',e1,e2,fg.o.more (by omega)⟩)
   ·skip
    replace HL:=Ad HL.o.loose;obtain⟨b9,c9,x0,x1,x2,re,bx,cw,f0,f1,f2,ff,d6⟩:=HL.o.fin aj df (by omega) (by omega) hi;cases re;obtain⟨AN,eX⟩:∃y,((w7.setCell ⟨b,i*3,none⟩ (.slice (some ⟨cg,0,none⟩) cn cc)).setCell ⟨b,i*3+1,none⟩ (.slice la ln lc)).setCell ⟨b,i*3+2,none⟩ (.string o)=y:=⟨_,rfl⟩;obtain⟨AL,eY⟩:∃y,((AN.setCell ⟨w.heap.size+1,0,none⟩ (.int .i64 (n:Int))).setCell ⟨w.heap.size+1,1,none⟩ (.slice (some ⟨g1,0,none⟩) nt t2)).setCell ⟨w.heap.size+1,2,none⟩ (.slice (some ⟨b,0,none⟩) nr rc)=y:=⟨_,rfl⟩;obtain⟨j5,j4,jY,dm,dr⟩:=d6 AN AL eX eY;have fx:=Ad dm;have fg:=Ad dr;have xi:=Ad jY;obtain⟨u0,u1,u2⟩:=Ab HL.o.k5;obtain⟨v0,v1,v2⟩:=Ab HL.o.k7;obtain⟨y0,y1,y2⟩:=Ab j5;obtain⟨z0,z1,z2⟩:=Ab j4;have zf:=(λj=>fH j4 j);clear d6 dm dr jY j5 j4 bx cw;go_wp2;obtain⟨T',R',e1,e2⟩:=fx.o;obtain⟨q0,q1,q2⟩:=Ab xi.o;exact bR (v:=.agg #[.int .i64 (n:Int),.slice (some ⟨g1,0,none⟩) nt t2,.slice (some ⟨b,0,none⟩) nr rc]) (by simp[results,Tryz.results34,go_sem,q0,q1,q2]) rfl (by first|exact⟨(n:Int),_,_,_,_,_,_,T',R',rfl,e1,e2,fg.o.more (by omega)⟩|exact⟨(n:Int),_,_,_,_,_,_,rfl,T',R',e1,e2,fg.o.more (by omega)⟩)
  ·skip
   go_wp2_with fail;refine Lt.begin 11 (λw'=>w'.cell? ⟨g7,1,none⟩=some (.slice la ln lc)∧w'.cell? ⟨w.heap.size,0,none⟩=some (.int .i64 (n:Int))) (by kernel_rfl) ?_;obtain⟨wD,eD⟩:∃y,w7.drew=y:=⟨_,rfl⟩;rw[eD];(have ao:Below w7.heap.size w7 wD:=by rw[←eD];exact(Below.refl _ _).drew);clear eD;replace HL:=Ad (HL.o.bl aj ao);clear ao;have aw:wD.cell? ⟨g7,1,none⟩=some (.slice la ln lc)∧wD.cell? ⟨w.heap.size,0,none⟩=some (.int .i64 (n:Int)):=⟨(Ab HL.o.k7).2.1,HL.o.c3⟩;change K 0 _
   iterate 3
    refine Lt.ti (v:=?_) aw ?_ ?_;rotate_left 1
    ·rintro w ⟨sA,sB⟩
     go_simp
     first|done|with_reducible rfl
    simp only[gX]
   change K 4 _
   iterate 2
    refine Lt.ti (v:=?_) aw ?_ ?_;rotate_left 1
    ·rintro w ⟨sA,sB⟩
     go_simp
     first|done|with_reducible rfl
    simp only[gX]
   refine Lt.sp (i:=3) (λK hK=>?_);go_simp;refine(HL.o.rd.name aj (by omega)).mono ?_;rintro e w8 ⟨s,rfl,hs,az,am⟩;replace HL:=Ad (HL.o.gb df (by omega) (by omega) az am);have bj:w8.cell? ⟨g7,1,none⟩=some (.slice la ln lc)∧w8.cell? ⟨w.heap.size,0,none⟩=some (.int .i64 (n:Int)):=⟨(Ab HL.o.k7).2.1,HL.o.c3⟩;refine hK.out _ _ (λ_=>bj) (λ_=>?_);clear hK K az am
   try simp only[gX]
   refine Lt.sp (i:=6) (λK hK=>?_);go_simp;refine(We ⟨#[49]⟩ n _ (by decide) pp ul).mono ?_;rintro e C4 ⟨so,rfl,G5,fi⟩;replace HL:=Ad (HL.o.bl aj fi);have cz:C4.cell? ⟨g7,1,none⟩=some (.slice la ln lc)∧C4.cell? ⟨w.heap.size,0,none⟩=some (.int .i64 (n:Int)):=⟨(Ab HL.o.k7).2.1,HL.o.c3⟩;refine hK.out _ _ (λ_=>cz) (λ_=>?_);clear hK K fi
   try simp only[gX]
   refine Lt.ti (i:=7) (v:=?_) cz ?_ ?_;rotate_left 1
   ·rintro w ⟨sA,sB⟩
    go_simp
    first|done|with_reducible rfl
   simp only[gX];refine Lt.sp (i:=8) (λK hK=>?_);go_simp;refine Bm (Q:=λx=>K _ x) ?_;intro wL bz gl
   try dsimp only
   obtain⟨dL,edL⟩:∃d,C4.heap.size=d:=⟨_,rfl⟩;rw[edL]at gl ⊢;replace HL:=Ad (HL.o.bl aj bz);have o9:wL.cell? ⟨g7,1,none⟩=some (.slice la ln lc)∧wL.cell? ⟨w.heap.size,0,none⟩=some (.int .i64 (n:Int)):=⟨(Ab HL.o.k7).2.1,HL.o.c3⟩;refine hK.out _ _ (λ_=>o9) (λ_=>?_);clear hK K bz edL
   try simp only[gX]
   obtain⟨gs,ys,l1,l2,l3,l4⟩:=HL.o.lx;obtain⟨a',c',eL⟩:=Ax l1;(have enl:gs.length=ln:=by cases eL;rfl);have pc:w.heap.size≤wL.heap.size:=HL.o.rd.size;rw[enl]at l1;clear eL;refine Lt.sp (i:=9) (λK hK=>?_);refine Ra rfl (by rfl) w.heap.size _ ln ys (by rfl) l1 dL s false so (by rfl) gl.o pc (by omega) ?_;intro g' ai wA ak ae _;have ld:Gs wA w.heap.size (.slice (some ⟨g',0,none⟩) (ln+1) ai):=Gs.add (x:=⟨s,false,so⟩) (by rw[enl];exact ak) l2 (by rw[enl];exact l1.1) (by omega) l4 (show s.size≤60000 by omega) (show so.size≤60000 by omega);obtain⟨D4,hl9⟩:=HL.o.grow aj (by omega) (by omega) hi ae ld;obtain⟨w9,e9⟩:∃y,wA.setCell ⟨g7,1,none⟩ (.slice (some ⟨g',0,none⟩) (ln+1) ai)=y:=⟨_,rfl⟩;rw[e9]at hl9;have lq:=Ad hl9;have vf:=(λj=>fH D4 j);obtain⟨v0,v1,v2⟩:=Ab D4;(have hcA:wA.cell? ⟨w.heap.size,0,none⟩=some (.int .i64 (n:Int)):=by obtain⟨x,y,e⟩:=HL.o.k3;exact(Ab (Ao e ae (λq=>Ah l1 (by decide) e q))).1);refine hK.out _ _ (λ_=>⟨v1,hcA⟩) (λ_=>?_);clear hK K ak ae gl hl9 ld l1 l2 l3 l4 enl D4 pc HL
   try simp only[gX]
   refine Lt.ti (i:=10) (v:=?_) ⟨v1,hcA⟩ ?_ ?_;rotate_left 1
   ·rintro w ⟨sA,sB⟩
    go_simp
    first|done|with_reducible rfl
   simp only[gX];refine Lt.sp (i:=11) (λK hK=>?_);go_simp
   try rw[e9]
   refine hK.out _ _ (λh=>absurd h (by decide)) (λ_=>?_);clear hK K e9 v0 v1 v2 vf hcA
   try simp only[gX]
   refine Lt.done (by kernel_rfl) ?_ _;replace HL:=Ad lq.o;clear lq;obtain⟨b9,c9,x0,x1,x2,re,bx,cw,f0,f1,f2,ff,d6⟩:=HL.o.fin aj df (by omega) (by omega) hi;cases re;obtain⟨AN,eX⟩:∃y,((w9.setCell ⟨b,i*3,none⟩ (.slice (some ⟨cg,0,none⟩) cn cc)).setCell ⟨b,i*3+1,none⟩ ((.slice (some ⟨g',0,none⟩) (ln+1) ai))).setCell ⟨b,i*3+2,none⟩ (.string o)=y:=⟨_,rfl⟩;obtain⟨AL,eY⟩:∃y,((AN.setCell ⟨w.heap.size+1,0,none⟩ (.int .i64 (n:Int))).setCell ⟨w.heap.size+1,1,none⟩ (.slice (some ⟨g1,0,none⟩) nt t2)).setCell ⟨w.heap.size+1,2,none⟩ (.slice (some ⟨b,0,none⟩) nr rc)=y:=⟨_,rfl⟩;obtain⟨j5,j4,jY,dm,dr⟩:=d6 AN AL eX eY;have fx:=Ad dm;have fg:=Ad dr;have xi:=Ad jY;obtain⟨u0,u1,u2⟩:=Ab HL.o.k5;obtain⟨v0,v1,v2⟩:=Ab HL.o.k7;obtain⟨y0,y1,y2⟩:=Ab j5;obtain⟨z0,z1,z2⟩:=Ab j4;have zf:=(λj=>fH j4 j);clear d6 dm dr jY j5 j4 bx cw;go_wp2;obtain⟨T',R',e1,e2⟩:=fx.o;obtain⟨q0,q1,q2⟩:=Ab xi.o;exact bR (v:=.agg #[.int .i64 (n:Int),.slice (some ⟨g1,0,none⟩) nt t2,.slice (some ⟨b,0,none⟩) nr rc]) (by simp[results,Tryz.results34,go_sem,q0,q1,q2]) rfl (by first|exact⟨(n:Int),_,_,_,_,_,_,T',R',rfl,e1,e2,fg.o.more (by omega)⟩|exact⟨(n:Int),_,_,_,_,_,_,rfl,T',R',e1,e2,fg.o.more (by omega)⟩)
  ·skip
   obtain⟨s0,s1,s2⟩:=Ab HL.o.k5
   by_cases tm:(0:Int)<(nt:Int)
   ·go_wp2_with fail
    clear s0 s1 s2;refine(HL.o.rd.pick (by omega) (nt:Int) (by omega) (by omega)).mono ?_;rintro e w8 ⟨t,rfl,htI,az,am⟩;replace HL:=Ad (HL.o.gb df (by omega) (by omega) az am);clear az am;(have htn:t<nt:=by omega);(have O1:(0:Int)≤(t:Int):=by omega);obtain⟨TT,hT1,hT2,hT3,P5⟩:=HL.o.tx;have htc:nt≤t2:=(Lf P5).1;have W6:=Ad (And.intro hT1 hT3);have gu:Hd (Cs w8 (some ⟨g1,0,none⟩) TT):=Gx (by rw[hT1];exact P5);clear hT1 hT3 P5;(have h1I:(t:Int)≤(t2:Int):=by omega);(have h2I:(t:Int)+1≤(nt:Int):=by omega);(have h3I:(nt:Int)≤(t2:Int):=by omega);(have h4I:(0:Int)≤(t:Int)+1:=by omega);(have Z3:IntKind.wrap .i64 ((t:Int)+1)=(t:Int)+1:=by have:=Pj (k:=t+1) (by omega);simpa using this);go_wp2_with fail
    by_cases hcj:t2=t+1
    ·have hnt1:nt=t+1:=by omega
     subst hnt1;subst hcj;(have h5I:(t:Int)≤(t:Int)+1:=by omega);refine Lt.begin 13 (λw'=>w'.cell? ⟨g5,1,none⟩=some (.slice (some ⟨g1,0,none⟩) (t+1) (t+1))) (by kernel_rfl) ?_;obtain⟨wD,eD⟩:∃y,w8.drew=y:=⟨_,rfl⟩;rw[eD];(have ao:Below w8.heap.size w8 wD:=by rw[←eD];exact(Below.refl _ _).drew);clear eD;replace HL:=Ad (HL.o.bl aj ao);replace gu:=Ad (gu.o.bl ao);clear ao;have aw:wD.cell? ⟨g5,1,none⟩=some (.slice (some ⟨g1,0,none⟩) (t+1) (t+1)):=(Ab HL.o.k5).2.1;have pc:Hd (w.heap.size≤wD.heap.size):=HL.o.rd.size;change K 1 _
     iterate 4
      refine Lt.ti (v:=?_) aw ?_ ?_;rotate_left 1
      ·rintro w sA
       go_simp
       first|done|with_reducible rfl
      simp only[gX]
     change K 6 _
     iterate 5
      refine Lt.ti (v:=?_) aw ?_ ?_;rotate_left 1
      ·rintro w sA
       go_simp
       first|done|with_reducible rfl
      simp only[gX]
     obtain⟨i9,xr,uj,ui,uh⟩:=info_parts Tryz.info9b;(have HLn:Hd ((Ar (TT.take t)).length=t*1):=by show _=_;unfold Ar;simp[W6.o.1];try omega);(have HLm:Hd ((Ar (TT.drop (t+1))).length=((t+1)-(t+1))*1):=by show _=_;unfold Ar;simp[W6.o.1]);refine Lt.sp (i:=0) (λK hK=>?_);go_simp;refine Bm (Q:=λx=>K _ x) ?_;intro wL bz gl
     try dsimp only
     obtain⟨dL,edL⟩:∃d,wD.heap.size=d:=⟨_,rfl⟩;rw[edL]at gl ⊢;(have hdL:wD.heap.size≤dL:=by omega);have jy:Hd (Cs wL (some ⟨g1,0,none⟩) TT):=gu.o.bl bz;have lp:Hd (wL.ownsRow wD.heap.size 9 1 (.slice (some ⟨dL,0,none⟩) 0 0) 0 []):=⟨rfl,Or.inr ⟨dL,0,#[],rfl,hdL,gl.o,Nat.le_refl _,Nat.zero_le _,rfl,rfl⟩⟩;have bj:wL.cell? ⟨g5,1,none⟩=some (.slice (some ⟨g1,0,none⟩) (t+1) (t+1)):=Aa bz aw;refine hK.out _ _ (λ_=>bj) (λ_=>?_);clear hK K edL gl
     try simp only[gX]
     refine Lt.sp (i:=5) (λK hK=>?_);refine Dj rfl (.tmp 45) (.tmp 49) 23 (by rfl) wD.heap.size 9 i9 (.string ⟨#[]⟩) 1 16 Tryz.underlying23 xr uj ui uh rfl (by decide) dL 0 0 [] (by rfl) lp.o ⟨g1,0,none⟩ t (t+1) (Ar (TT.take t)) (by rfl) HLn.o (Gh (Oo jy.o t)) (Gg _) (by unfold maxLen;omega) (by omega) bz.size ?_;intro gA cA wA ik fu;have ce:Below wD.heap.size wD wA:=bz.grown fu bz.size (λj hj=>by cases hj;exact hdL);have Q6:Hd (Cs wA (some ⟨g1,0,none⟩) TT):=gu.o.bl ce;rw[Nat.zero_add,List.nil_append]at ik;have B9:=Ad ik;have up:wD.heap.size≤gA:=(ik.lt gA rfl).1;have cz:wA.cell? ⟨g5,1,none⟩=some (.slice (some ⟨g1,0,none⟩) (t+1) (t+1)):=Aa ce aw;rw[Nat.zero_add];refine hK.out _ _ (λ_=>cz) (λ_=>?_);clear hK K ik fu lp jy bz bj
     try simp only[gX]
     refine Lt.sp (i:=11) (λK hK=>?_);refine Dj rfl (.tmp 50) (.tmp 55) 23 (by rfl) wD.heap.size 9 i9 (.string ⟨#[]⟩) 1 16 Tryz.underlying23 xr uj ui uh rfl (by decide) gA t cA (Ar (TT.take t)) (by rfl) B9.o ⟨g1,0,none⟩ 0 0 [] (by rfl) rfl (λj u h=>by simp at h) (λu h=>by simp at h) (by unfold maxLen;omega) (by omega) ce.size ?_;intro gB cB wB ho3 hgy;have il:Below wD.heap.size wD wB:=ce.grown hgy ce.size (λj hj=>by cases hj;exact up);replace HL:=Ad (HL.o.bl aj il);obtain⟨nB,enB⟩:∃y,t+0=y:=⟨_,rfl⟩
     have vr:Hd (Ks wB w.heap.size (.slice (some ⟨gB,0,none⟩) nB cB) nB):=by
      have iz:w.heap.size≤wD.heap.size:=pc.o;refine⟨TT.take t++TT.drop (t+1),by rw[←enB,List.length_append,List.length_take,List.length_drop,W6.o.1];omega,by rw[←enB];omega,λj=>?_,?_⟩
      ·exact nx_bd (λx hx=>by rcases List.mem_append.mp hx with q|q;exact Wv W6.o.2 (List.mem_of_mem_take q);exact Wv W6.o.2 (List.mem_of_mem_drop q)) j
      ·rw[←enB];have e:Ar (TT.take t++TT.drop (t+1))=Ar (TT.take t)++[]:=by unfold Ar;simp;exact Nat.le_of_eq W6.o.1
       rw[e];exact Al ho3 iz
     rw[enB];clear enB;have lq:=Ad (HL.o.p1 aj (by omega) (by omega) vr.o);obtain⟨w9,e9⟩:∃y,wB.setCell ⟨g5,1,none⟩ (.slice (some ⟨gB,0,none⟩) nB cB)=y:=⟨_,rfl⟩;rw[e9]at lq;obtain⟨v0,v1,v2⟩:=Ab HL.o.k5;have vf:=(λj=>fH HL.o.k5 j);refine hK.out _ _ (λ_=>v1) (λ_=>?_);clear hK K ho3 hgy B9 Q6 ce il cz gu aw
     try simp only[gX]
     refine Lt.ti (i:=12) (v:=?_) v1 ?_ ?_;rotate_left 1
     ·rintro w sA
      go_simp
      first|done|with_reducible rfl
     simp only[gX];refine Lt.sp (i:=13) (λK hK=>?_);go_simp
     try rw[e9]
     refine hK.out _ _ (λh=>absurd h (by decide)) (λ_=>?_);clear hK K e9 v0 v1 v2 vf
     try simp only[gX]
     refine Lt.done (by kernel_rfl) ?_ _;replace HL:=Ad lq.o.loose;clear lq;obtain⟨b9,c9,x0,x1,x2,re,bx,cw,f0,f1,f2,ff,d6⟩:=HL.o.fin aj df (by omega) (by omega) hi;cases re;obtain⟨AN,eX⟩:∃y,((w9.setCell ⟨b,i*3,none⟩ (.slice (some ⟨cg,0,none⟩) cn cc)).setCell ⟨b,i*3+1,none⟩ (.slice la ln lc)).setCell ⟨b,i*3+2,none⟩ (.string o)=y:=⟨_,rfl⟩;obtain⟨AL,eY⟩:∃y,((AN.setCell ⟨w.heap.size+1,0,none⟩ (.int .i64 (n:Int))).setCell ⟨w.heap.size+1,1,none⟩ (.slice (some ⟨gB,0,none⟩) nB cB)).setCell ⟨w.heap.size+1,2,none⟩ (.slice (some ⟨b,0,none⟩) nr rc)=y:=⟨_,rfl⟩;obtain⟨j5,j4,jY,dm,dr⟩:=d6 AN AL eX eY;have fx:=Ad dm;have fg:=Ad dr;have xi:=Ad jY;obtain⟨u0,u1,u2⟩:=Ab HL.o.k5;obtain⟨v0,v1,v2⟩:=Ab HL.o.k7;obtain⟨y0,y1,y2⟩:=Ab j5;obtain⟨z0,z1,z2⟩:=Ab j4;have zf:=(λj=>fH j4 j);clear d6 dm dr jY j5 j4 bx cw;go_wp2;obtain⟨T',R',e1,e2⟩:=fx.o;obtain⟨q0,q1,q2⟩:=Ab xi.o;exact bR (v:=.agg #[.int .i64 (n:Int),.slice (some ⟨gB,0,none⟩) nB cB,.slice (some ⟨b,0,none⟩) nr rc]) (by simp[results,Tryz.results34,go_sem,q0,q1,q2]) rfl (by first|exact⟨(n:Int),_,_,_,_,_,_,T',R',rfl,e1,e2,fg.o.more (by omega)⟩|exact⟨(n:Int),_,_,_,_,_,_,rfl,T',R',e1,e2,fg.o.more (by omega)⟩)
    ·skip
     refine Lt.begin 13 (λw'=>w'.cell? ⟨g5,1,none⟩=some (.slice (some ⟨g1,0,none⟩) nt t2)) (by kernel_rfl) ?_;obtain⟨wD,eD⟩:∃y,w8.drew=y:=⟨_,rfl⟩;rw[eD];(have ao:Below w8.heap.size w8 wD:=by rw[←eD];exact(Below.refl _ _).drew);clear eD;replace HL:=Ad (HL.o.bl aj ao);replace gu:=Ad (gu.o.bl ao);clear ao;have aw:wD.cell? ⟨g5,1,none⟩=some (.slice (some ⟨g1,0,none⟩) nt t2):=(Ab HL.o.k5).2.1;have pc:Hd (w.heap.size≤wD.heap.size):=HL.o.rd.size;change K 1 _
     iterate 4
      refine Lt.ti (v:=?_) aw ?_ ?_;rotate_left 1
      ·rintro w sA
       go_simp
       first|done|with_reducible rfl
      simp only[gX]
     change K 6 _
     iterate 5
      refine Lt.ti (v:=?_) aw ?_ ?_;rotate_left 1
      ·rintro w sA
       go_simp
       first|done|with_reducible rfl
      simp only[gX]
     obtain⟨i9,xr,uj,ui,uh⟩:=info_parts Tryz.info9b;(have HLn:Hd ((Ar (TT.take t)).length=t*1):=by show _=_;unfold Ar;simp[W6.o.1];try omega);(have HLm:Hd ((Ar (TT.drop (t+1))).length=(nt-(t+1))*1):=by show _=_;unfold Ar;simp[W6.o.1]);refine Lt.sp (i:=0) (λK hK=>?_);go_simp;refine Bm (Q:=λx=>K _ x) ?_;intro wL bz gl
     try dsimp only
     obtain⟨dL,edL⟩:∃d,wD.heap.size=d:=⟨_,rfl⟩;rw[edL]at gl ⊢;(have hdL:wD.heap.size≤dL:=by omega);have jy:Hd (Cs wL (some ⟨g1,0,none⟩) TT):=gu.o.bl bz;have lp:Hd (wL.ownsRow wD.heap.size 9 1 (.slice (some ⟨dL,0,none⟩) 0 0) 0 []):=⟨rfl,Or.inr ⟨dL,0,#[],rfl,hdL,gl.o,Nat.le_refl _,Nat.zero_le _,rfl,rfl⟩⟩;have bj:wL.cell? ⟨g5,1,none⟩=some (.slice (some ⟨g1,0,none⟩) nt t2):=Aa bz aw;refine hK.out _ _ (λ_=>bj) (λ_=>?_);clear hK K edL gl
     try simp only[gX]
     refine Lt.sp (i:=5) (λK hK=>?_);refine Dj rfl (.tmp 45) (.tmp 49) 23 (by rfl) wD.heap.size 9 i9 (.string ⟨#[]⟩) 1 16 Tryz.underlying23 xr uj ui uh rfl (by decide) dL 0 0 [] (by rfl) lp.o ⟨g1,0,none⟩ t t2 (Ar (TT.take t)) (by rfl) HLn.o (Gh (Oo jy.o t)) (Gg _) (by unfold maxLen;omega) (by omega) bz.size ?_;intro gA cA wA ik fu;have ce:Below wD.heap.size wD wA:=bz.grown fu bz.size (λj hj=>by cases hj;exact hdL);have Q6:Hd (Cs wA (some ⟨g1,0,none⟩) TT):=gu.o.bl ce;rw[Nat.zero_add,List.nil_append]at ik;have B9:=Ad ik;have up:wD.heap.size≤gA:=(ik.lt gA rfl).1;have cz:wA.cell? ⟨g5,1,none⟩=some (.slice (some ⟨g1,0,none⟩) nt t2):=Aa ce aw;rw[Nat.zero_add];refine hK.out _ _ (λ_=>cz) (λ_=>?_);clear hK K ik fu lp jy bz bj
     try simp only[gX]
     refine Lt.sp (i:=11) (λK hK=>?_);refine Dj rfl (.tmp 50) (.tmp 55) 23 (by rfl) wD.heap.size 9 i9 (.string ⟨#[]⟩) 1 16 Tryz.underlying23 xr uj ui uh rfl (by decide) gA t cA (Ar (TT.take t)) (by rfl) B9.o ⟨g1,t+1,none⟩ (nt-(t+1)) (t2-(t+1)) (Ar (TT.drop (t+1))) (by rfl) HLm.o (Gh (by have:=Oq Q6.o (t+1);rw[Nat.zero_add]at this;exact this)) (Gg _) (by unfold maxLen;omega) (by omega) ce.size ?_;intro gB cB wB ho3 hgy;have il:Below wD.heap.size wD wB:=ce.grown hgy ce.size (λj hj=>by cases hj;exact up);replace HL:=Ad (HL.o.bl aj il);obtain⟨nB,enB⟩:∃y,t+(nt-(t+1))=y:=⟨_,rfl⟩
     have vr:Hd (Ks wB w.heap.size (.slice (some ⟨gB,0,none⟩) nB cB) nB):=by
      have iz:w.heap.size≤wD.heap.size:=pc.o;refine⟨TT.take t++TT.drop (t+1),by rw[←enB,List.length_append,List.length_take,List.length_drop,W6.o.1];omega,by rw[←enB];omega,λj=>?_,?_⟩
      ·exact nx_bd (λx hx=>by rcases List.mem_append.mp hx with q|q;exact Wv W6.o.2 (List.mem_of_mem_take q);exact Wv W6.o.2 (List.mem_of_mem_drop q)) j
      ·rw[←enB];have e:Ar (TT.take t++TT.drop (t+1))=Ar (TT.take t)++Ar (TT.drop (t+1)):=by unfold Ar;simp
       rw[e];exact Al ho3 iz
     rw[enB];clear enB;have lq:=Ad (HL.o.p1 aj (by omega) (by omega) vr.o);obtain⟨w9,e9⟩:∃y,wB.setCell ⟨g5,1,none⟩ (.slice (some ⟨gB,0,none⟩) nB cB)=y:=⟨_,rfl⟩;rw[e9]at lq;obtain⟨v0,v1,v2⟩:=Ab HL.o.k5;have vf:=(λj=>fH HL.o.k5 j);refine hK.out _ _ (λ_=>v1) (λ_=>?_);clear hK K ho3 hgy B9 Q6 ce il cz gu aw
     try simp only[gX]
     refine Lt.ti (i:=12) (v:=?_) v1 ?_ ?_;rotate_left 1
     ·rintro w sA
      go_simp
      first|done|with_reducible rfl
     simp only[gX];refine Lt.sp (i:=13) (λK hK=>?_);go_simp
     try rw[e9]
     refine hK.out _ _ (λh=>absurd h (by decide)) (λ_=>?_);clear hK K e9 v0 v1 v2 vf
     try simp only[gX]
     refine Lt.done (by kernel_rfl) ?_ _;replace HL:=Ad lq.o.loose;clear lq;obtain⟨b9,c9,x0,x1,x2,re,bx,cw,f0,f1,f2,ff,d6⟩:=HL.o.fin aj df (by omega) (by omega) hi;cases re;obtain⟨AN,eX⟩:∃y,((w9.setCell ⟨b,i*3,none⟩ (.slice (some ⟨cg,0,none⟩) cn cc)).setCell ⟨b,i*3+1,none⟩ (.slice la ln lc)).setCell ⟨b,i*3+2,none⟩ (.string o)=y:=⟨_,rfl⟩;obtain⟨AL,eY⟩:∃y,((AN.setCell ⟨w.heap.size+1,0,none⟩ (.int .i64 (n:Int))).setCell ⟨w.heap.size+1,1,none⟩ (.slice (some ⟨gB,0,none⟩) nB cB)).setCell ⟨w.heap.size+1,2,none⟩ (.slice (some ⟨b,0,none⟩) nr rc)=y:=⟨_,rfl⟩;obtain⟨j5,j4,jY,dm,dr⟩:=d6 AN AL eX eY;have fx:=Ad dm;have fg:=Ad dr;have xi:=Ad jY;obtain⟨u0,u1,u2⟩:=Ab HL.o.k5;obtain⟨v0,v1,v2⟩:=Ab HL.o.k7;obtain⟨y0,y1,y2⟩:=Ab j5;obtain⟨z0,z1,z2⟩:=Ab j4;have zf:=(λj=>fH j4 j);clear d6 dm dr jY j5 j4 bx cw;go_wp2;obtain⟨T',R',e1,e2⟩:=fx.o;obtain⟨q0,q1,q2⟩:=Ab xi.o;exact bR (v:=.agg #[.int .i64 (n:Int),.slice (some ⟨gB,0,none⟩) nB cB,.slice (some ⟨b,0,none⟩) nr rc]) (by simp[results,Tryz.results34,go_sem,q0,q1,q2]) rfl (by first|exact⟨(n:Int),_,_,_,_,_,_,T',R',rfl,e1,e2,fg.o.more (by omega)⟩|exact⟨(n:Int),_,_,_,_,_,_,rfl,T',R',e1,e2,fg.o.more (by omega)⟩)
   ·skip
    replace HL:=Ad HL.o.loose;obtain⟨b9,c9,x0,x1,x2,re,bx,cw,f0,f1,f2,ff,d6⟩:=HL.o.fin aj df (by omega) (by omega) hi;cases re;obtain⟨AN,eX⟩:∃y,((w7.setCell ⟨b,i*3,none⟩ (.slice (some ⟨cg,0,none⟩) cn cc)).setCell ⟨b,i*3+1,none⟩ (.slice la ln lc)).setCell ⟨b,i*3+2,none⟩ (.string o)=y:=⟨_,rfl⟩;obtain⟨AL,eY⟩:∃y,((AN.setCell ⟨w.heap.size+1,0,none⟩ (.int .i64 (n:Int))).setCell ⟨w.heap.size+1,1,none⟩ (.slice (some ⟨g1,0,none⟩) nt t2)).setCell ⟨w.heap.size+1,2,none⟩ (.slice (some ⟨b,0,none⟩) nr rc)=y:=⟨_,rfl⟩;obtain⟨j5,j4,jY,dm,dr⟩:=d6 AN AL eX eY;have fx:=Ad dm;have fg:=Ad dr;have xi:=Ad jY;obtain⟨u0,u1,u2⟩:=Ab HL.o.k5;obtain⟨v0,v1,v2⟩:=Ab HL.o.k7;obtain⟨y0,y1,y2⟩:=Ab j5;obtain⟨z0,z1,z2⟩:=Ab j4;have zf:=(λj=>fH j4 j);clear d6 dm dr jY j5 j4 bx cw;go_wp2;obtain⟨T',R',e1,e2⟩:=fx.o;obtain⟨q0,q1,q2⟩:=Ab xi.o;exact bR (v:=.agg #[.int .i64 (n:Int),.slice (some ⟨g1,0,none⟩) nt t2,.slice (some ⟨b,0,none⟩) nr rc]) (by simp[results,Tryz.results34,go_sem,q0,q1,q2]) rfl (by first|exact⟨(n:Int),_,_,_,_,_,_,T',R',rfl,e1,e2,fg.o.more (by omega)⟩|exact⟨(n:Int),_,_,_,_,_,_,rfl,T',R',e1,e2,fg.o.more (by omega)⟩)
  ·skip
   obtain⟨s0,s1,s2⟩:=Ab HL.o.k5;go_wp2_with fail;clear s0 s1 s2;have oa:g7<w7.heap.size:=An HL.o.k7;refine(HL.o.putX ⟨#[114,101,97,100,32,98,121,32,110,111,98,111,100,121]⟩ (by decide)).mono ?_;rintro e w8 ⟨fi,cd,wd,a1,n1,c1,a2,n2,c2,A,AG,rfl,ll⟩;obtain⟨lim,elim⟩:∃y,w7.heap.size=y:=⟨_,rfl⟩;rw[elim]at ll oa;replace HL:=Ad (HL.o.bl aj fi);clear fi elim;obtain⟨g9,nu⟩:∃g,w8.heap.size=g:=⟨_,rfl⟩;obtain⟨V,eV⟩:∃V,w8.alloc (.cells #[.int .i64 0,.int .i64 0,.slice none 0 0,.slice none 0 0,.string ⟨#[]⟩,.string ⟨#[]⟩] 31)=V:=⟨_,rfl⟩;have cr:Below w8.heap.size w8 V:=eV▸aN _ _;(have f8:Hd (V.heap[g9]?=some (.cells #[.int .i64 0,.int .i64 0,.slice none 0 0,.slice none 0 0,.string ⟨#[]⟩,.string ⟨#[]⟩] 31 (0,0))):=by show _=_;rw[←eV,←nu];exact Am _ _);(have hg9:w.heap.size≤g9:=by have:=HL.o.rd.size;omega);replace HL:=Ad (HL.o.bl aj cr);replace ll:Hd (cd=0→PX V w.heap.size nr n wd a1 n1 c1 a2 n2 c2 lim):=λq=>(ll.o q).bl cr;have n6:Hd (Ai V g9 31):=⟨_,f8.o⟩;obtain⟨V2,dg⟩:∃y,(((((V.setCell ⟨g9,0,none⟩ (.int .i64 cd)).setCell ⟨g9,1,none⟩ (.int .i64 wd)).setCell ⟨g9,2,none⟩ (.slice a1 n1 c1)).setCell ⟨g9,3,none⟩ (.slice a2 n2 c2)).setCell ⟨g9,4,none⟩ (.string A)).setCell ⟨g9,5,none⟩ (.string AG)=y:=⟨_,rfl⟩;have ip:=Ad (HL.o.s6 aj n6.o hg9 (.int .i64 cd) (.int .i64 wd) (.slice a1 n1 c1) (.slice a2 n2 c2) (.string A) (.string AG));rw[dg]at ip;have lm:Hd (cd=0→PX V2 w.heap.size nr n wd a1 n1 c1 a2 n2 c2 lim):=λq=>dg▸(ll.o q).s6 n6.o _ _ _ _ _ _;have th:Hd (V2.heap[g9]?=some (.cells #[.int .i64 cd,.int .i64 wd,.slice a1 n1 c1,.slice a2 n2 c2,.string A,.string AG] 31 (0,0))):=dg▸Pe f8.o _ _ _ _ _ _;obtain⟨k0,k1,k2,k3,k4,k5⟩:=Bx f8.o;have kf:=(λj=>fH f8.o j);clear cr n6 f8 ll HL
   go_upto_region 13 with fail
   clear eV dg nu k0 k1 k2 k3 k4 k5 kf;have HL:=Ad ip.o;clear ip
   by_cases pw:cd=0
   ·subst pw
    have ll:=Ad (lm.o rfl)
    obtain⟨V6,hq⟩:n2=nr∧∃b c,Value.slice a2 n2 c2=.slice (some ⟨b,0,none⟩) nr c:=by
     obtain⟨_,q2,_,_,xs,cvs,lvs,os,q6⟩:=ll.o;exact⟨q2,by obtain⟨b,c,q,_⟩:=q6.rcd hi;exact⟨b,c,q⟩⟩
    obtain⟨b3,c3,hq⟩:=hq;cases hq;clear lm V6;obtain⟨s0,s1,s2⟩:=Ab HL.o.k5;have sf:=(λj=>fH HL.o.k5 j);obtain⟨m0,m1,m2,m3,m4,m5⟩:=Bx th.o;obtain⟨wE,eE⟩:∃y,((V2.setCell ⟨g5,0,none⟩ (.int .i64 wd)).setCell ⟨g5,1,none⟩ (.slice a1 n1 c1)).setCell ⟨g5,2,none⟩ (.slice (some ⟨b3,0,none⟩) nr c2)=y:=⟨_,rfl⟩;have ye:=Ad (HL.o.pX aj (by omega) (by omega) oa ll.o);rw[eE]at ye;have cE:=ye.o.c3;go_wp2_with fail;clear s0 s1 s2 sf m0 m1 m2 m3 m4 m5 eE cE;refine(We ⟨#[114,101,97,100,32,98,121,32,110,111,98,111,100,121]⟩ n wE (by decide) pp ul).mono ?_;rintro e w8 ⟨so,rfl,G5,fi⟩;replace HL:=Ad (ye.o.bl aj fi);clear fi ye ll th;obtain⟨v0,v1,v2⟩:=Ab HL.o.k7;have vf:=(λj=>fH HL.o.k7 j);obtain⟨w9,e9⟩:∃y,w8.setCell ⟨g7,2,none⟩ (.string so)=y:=⟨_,rfl⟩;have lq:=Ad (HL.o.s2 aj (by omega) (by omega) (show so.size≤60000 from by omega));rw[e9]at lq
    go_upto_region 39 with fail
    clear e9 v0 v1 v2 vf;replace HL:=Ad lq.o;clear lq;obtain⟨b9,c9,x0,x1,x2,re,bx,cw,f0,f1,f2,ff,d6⟩:=HL.o.fin aj df (by omega) (by omega) hi;cases re;obtain⟨AN,eX⟩:∃y,((w9.setCell ⟨b3,i*3,none⟩ (.slice (some ⟨cg,0,none⟩) cn cc)).setCell ⟨b3,i*3+1,none⟩ (.slice la ln lc)).setCell ⟨b3,i*3+2,none⟩ (.string so)=y:=⟨_,rfl⟩;obtain⟨AL,eY⟩:∃y,((AN.setCell ⟨w.heap.size+1,0,none⟩ (.int .i64 (n:Int))).setCell ⟨w.heap.size+1,1,none⟩ (.slice a1 n1 c1)).setCell ⟨w.heap.size+1,2,none⟩ (.slice (some ⟨b3,0,none⟩) nr c2)=y:=⟨_,rfl⟩;obtain⟨j5,j4,jY,dm,dr⟩:=d6 AN AL eX eY;have fx:=Ad dm;have fg:=Ad dr;have xi:=Ad jY;obtain⟨u0,u1,u2⟩:=Ab HL.o.k5;obtain⟨v0,v1,v2⟩:=Ab HL.o.k7;obtain⟨y0,y1,y2⟩:=Ab j5;obtain⟨z0,z1,z2⟩:=Ab j4;have zf:=(λj=>fH j4 j);clear d6 dm dr jY j5 j4 bx cw;go_wp2;obtain⟨T',R',e1,e2⟩:=fx.o;obtain⟨q0,q1,q2⟩:=Ab xi.o;exact bR (v:=.agg #[.int .i64 (n:Int),.slice a1 n1 c1,.slice (some ⟨b3,0,none⟩) nr c2]) (by simp[results,Tryz.results34,go_sem,q0,q1,q2]) rfl (by first|exact⟨(n:Int),_,_,_,_,_,_,T',R',rfl,e1,e2,fg.o.more (by omega)⟩|exact⟨(n:Int),_,_,_,_,_,_,rfl,T',R',e1,e2,fg.o.more (by omega)⟩)
   ·have hcdB:(cd == 0)=false:=by simpa using pw
    obtain⟨m0,m1,m2,m3,m4,m5⟩:=Bx th.o;replace HL:=Ad HL.o.loose;obtain⟨b9,c9,x0,x1,x2,re,bx,cw,f0,f1,f2,ff,d6⟩:=HL.o.fin aj df (by omega) (by omega) hi;cases re;obtain⟨AN,eX⟩:∃y,((V2.setCell ⟨b,i*3,none⟩ (.slice (some ⟨cg,0,none⟩) cn cc)).setCell ⟨b,i*3+1,none⟩ (.slice la ln lc)).setCell ⟨b,i*3+2,none⟩ (.string o)=y:=⟨_,rfl⟩;obtain⟨AL,eY⟩:∃y,((AN.setCell ⟨w.heap.size+1,0,none⟩ (.int .i64 (n:Int))).setCell ⟨w.heap.size+1,1,none⟩ (.slice (some ⟨g1,0,none⟩) nt t2)).setCell ⟨w.heap.size+1,2,none⟩ (.slice (some ⟨b,0,none⟩) nr rc)=y:=⟨_,rfl⟩;obtain⟨j5,j4,jY,dm,dr⟩:=d6 AN AL eX eY;have fx:=Ad dm;have fg:=Ad dr;have xi:=Ad jY;obtain⟨u0,u1,u2⟩:=Ab HL.o.k5;obtain⟨v0,v1,v2⟩:=Ab HL.o.k7;obtain⟨y0,y1,y2⟩:=Ab j5;obtain⟨z0,z1,z2⟩:=Ab j4;have zf:=(λj=>fH j4 j);clear d6 dm dr jY j5 j4 bx cw;go_wp2;obtain⟨T',R',e1,e2⟩:=fx.o;obtain⟨q0,q1,q2⟩:=Ab xi.o;exact bR (v:=.agg #[.int .i64 (n:Int),.slice (some ⟨g1,0,none⟩) nt t2,.slice (some ⟨b,0,none⟩) nr rc]) (by simp[results,Tryz.results34,go_sem,q0,q1,q2]) rfl (by first|exact⟨(n:Int),_,_,_,_,_,_,T',R',rfl,e1,e2,fg.o.more (by omega)⟩|exact⟨(n:Int),_,_,_,_,_,_,rfl,T',R',e1,e2,fg.o.more (by omega)⟩)
  ·skip
   go_wp2_with fail;refine Lt.begin 7 (λw'=>w'.cell? ⟨g5,0,none⟩=some (.int .i64 (n:Int))∧w'.cell? ⟨g5,1,none⟩=some (.slice (some ⟨g1,0,none⟩) nt t2)∧w'.cell? ⟨g5,2,none⟩=some (.slice (some ⟨b,0,none⟩) nr rc)) (by kernel_rfl) ?_;obtain⟨wD,eD⟩:∃y,w7.drew=y:=⟨_,rfl⟩;rw[eD];(have ao:Below w7.heap.size w7 wD:=by rw[←eD];exact(Below.refl _ _).drew);clear eD;replace HL:=Ad (HL.o.bl aj ao);clear ao;have aw:wD.cell? ⟨g5,0,none⟩=some (.int .i64 (n:Int))∧wD.cell? ⟨g5,1,none⟩=some (.slice (some ⟨g1,0,none⟩) nt t2)∧wD.cell? ⟨g5,2,none⟩=some (.slice (some ⟨b,0,none⟩) nr rc):=Ab HL.o.k5;change K 0 _
   iterate 2
    refine Lt.ti (v:=?_) aw ?_ ?_;rotate_left 1
    ·rintro w ⟨sA,sB,sC⟩
     go_simp
     first|done|with_reducible rfl
    simp only[gX]
   refine Lt.two (i:=2) (j:=6) (oi:={ dst:=some 75,op:=Op.call { callee:=Callee.value (Operand.func 14),args:=#[Operand.tmp 74,Operand.const (Value.int IntKind.i64 2)],argTypes:=#[39,3] },type:=3,pos := "l4_draw.go:61",after:=#[{ on:=1,ground:=Ground.data }],guard:=none }) (oj:={ dst:=some 10,op:=Op.alloc 31,type:=0,pos := "l4_draw.go:61",after:=#[],guard:=none }) (by kernel_rfl) rfl rfl (λK hK=>?_) (λK hK=>?_)
   ·skip
    go_simp;refine(HL.o.rd.pick (by omega) 2 (by omega) (by omega)).mono ?_;rintro e vv ⟨z,rfl,hz,az,am⟩;replace HL:=Ad (HL.o.gb df (by omega) (by omega) az am);have bj:vv.cell? ⟨g5,0,none⟩=some (.int .i64 (n:Int))∧vv.cell? ⟨g5,1,none⟩=some (.slice (some ⟨g1,0,none⟩) nt t2)∧vv.cell? ⟨g5,2,none⟩=some (.slice (some ⟨b,0,none⟩) nr rc):=Ab HL.o.k5;refine hK.out _ _ (λ_=>bj) (λ_=>?_);clear hK K az am
    try simp only[gX]
    refine Lt.ti (i:=3) (v:=?_) bj ?_ ?_;rotate_left 1
    ·rintro w ⟨sA,sB,sC⟩
     go_simp
     first|done|with_reducible rfl
    simp only[gX];generalize ((z:Int) == 0)=zb;refine Lt.two (i:=4) (j:=6) (oi:={ dst:=some 77,op:=Op.call { callee:=Callee.value (Operand.func 56),args:=#[Operand.tmp 76],argTypes:=#[4] },type:=9,pos := "l4_draw.go:61",after:=#[{ on:=3,ground:=Ground.data },{ on:=2,ground:=Ground.chain }],guard:=none }) (oj:={ dst:=some 10,op:=Op.alloc 31,type:=0,pos := "l4_draw.go:61",after:=#[],guard:=none }) (by kernel_rfl) rfl rfl (λK hK=>?_) (λK hK=>?_)
    ·skip
     go_simp;refine(Ey _ _).mono ?_;rintro e wF ⟨rfl,rfl⟩;refine hK.out _ _ (λ_=>bj) (λ_=>?_);clear hK K 
     try simp only[gX]
     refine Lt.two (i:=5) (j:=6) (oi:={ dst:=some 78,op:=Op.call { callee:=Callee.value (Operand.func 7),args:=#[Operand.tmp 73,Operand.tmp 77],argTypes:=#[26,9] },type:=31,pos := "l4_draw.go:61",after:=#[{ on:=0,ground:=Ground.data },{ on:=4,ground:=Ground.data },{ on:=4,ground:=Ground.chain }],guard:=none }) (oj:={ dst:=some 10,op:=Op.alloc 31,type:=0,pos := "l4_draw.go:61",after:=#[],guard:=none }) (by kernel_rfl) rfl rfl (λK hK=>?_) (λK hK=>?_)
     ·skip
      have oa:g7<vv.heap.size:=An HL.o.k7;go_simp;refine(HL.o.putX (De zb) (by have:=Et zb;omega)).mono ?_;rintro e w8 ⟨fi,cd,wd,a1,n1,c1,a2,n2,c2,A,AG,rfl,ll⟩;obtain⟨lim,elim⟩:∃y,vv.heap.size=y:=⟨_,rfl⟩;rw[elim]at ll oa;replace HL:=Ad (HL.o.bl aj fi);have cz:w8.cell? ⟨g5,0,none⟩=some (.int .i64 (n:Int))∧w8.cell? ⟨g5,1,none⟩=some (.slice (some ⟨g1,0,none⟩) nt t2)∧w8.cell? ⟨g5,2,none⟩=some (.slice (some ⟨b,0,none⟩) nr rc):=Ab HL.o.k5;refine hK.out _ _ (λ_=>cz) (λ_=>?_);clear hK K fi elim
      try simp only[gX]
      refine Lt.sp (i:=6) (λK hK=>?_);go_simp;obtain⟨g9,nu⟩:∃g,w8.heap.size=g:=⟨_,rfl⟩;obtain⟨V,eV⟩:∃V,w8.alloc (.cells #[.int .i64 0,.int .i64 0,.slice none 0 0,.slice none 0 0,.string ⟨#[]⟩,.string ⟨#[]⟩] 31)=V:=⟨_,rfl⟩;have cr:Below w8.heap.size w8 V:=eV▸aN _ _;(have f8:Hd (V.heap[g9]?=some (.cells #[.int .i64 0,.int .i64 0,.slice none 0 0,.slice none 0 0,.string ⟨#[]⟩,.string ⟨#[]⟩] 31 (0,0))):=by show _=_;rw[←eV,←nu];exact Am _ _);(have hg9:w.heap.size≤g9:=by have:=HL.o.rd.size;omega);replace HL:=Ad (HL.o.bl aj cr);replace ll:Hd (cd=0→PX V w.heap.size nr n wd a1 n1 c1 a2 n2 c2 lim):=λq=>(ll.o q).bl cr
      try rw[eV]
      have o9:V.cell? ⟨g5,0,none⟩=some (.int .i64 (n:Int))∧V.cell? ⟨g5,1,none⟩=some (.slice (some ⟨g1,0,none⟩) nt t2)∧V.cell? ⟨g5,2,none⟩=some (.slice (some ⟨b,0,none⟩) nr rc):=Ab HL.o.k5;refine hK.out _ _ (λ_=>o9) (λ_=>?_)
      try rw[nu]
      clear hK K eV nu cr
      try simp only[gX]
      have n6:Hd (Ai V g9 31):=⟨_,f8.o⟩;obtain⟨V2,dg⟩:∃y,(((((V.setCell ⟨g9,0,none⟩ (.int .i64 cd)).setCell ⟨g9,1,none⟩ (.int .i64 wd)).setCell ⟨g9,2,none⟩ (.slice a1 n1 c1)).setCell ⟨g9,3,none⟩ (.slice a2 n2 c2)).setCell ⟨g9,4,none⟩ (.string A)).setCell ⟨g9,5,none⟩ (.string AG)=y:=⟨_,rfl⟩;have ip:=Ad (HL.o.s6 aj n6.o hg9 (.int .i64 cd) (.int .i64 wd) (.slice a1 n1 c1) (.slice a2 n2 c2) (.string A) (.string AG));rw[dg]at ip;have lm:Hd (cd=0→PX V2 w.heap.size nr n wd a1 n1 c1 a2 n2 c2 lim):=λq=>dg▸(ll.o q).s6 n6.o _ _ _ _ _ _;have th:Hd (V2.heap[g9]?=some (.cells #[.int .i64 cd,.int .i64 wd,.slice a1 n1 c1,.slice a2 n2 c2,.string A,.string AG] 31 (0,0))):=dg▸Pe f8.o _ _ _ _ _ _;obtain⟨k0,k1,k2,k3,k4,k5⟩:=Bx f8.o;have kf:=(λj=>fH f8.o j);clear n6 f8 ll HL;refine Lt.sp (i:=7) (λK hK=>?_);go_simp
      try rw[dg]
      refine hK.out _ _ (λh=>absurd h (by decide)) (λ_=>?_);clear hK K dg k0 k1 k2 k3 k4 k5 kf
      try simp only[gX]
      refine Lt.done (by kernel_rfl) ?_ _;have HL:=Ad ip.o;clear ip
      by_cases pw:cd=0
      ·subst pw
       have ll:=Ad (lm.o rfl)
       obtain⟨V6,hq⟩:n2=nr∧∃b c,Value.slice a2 n2 c2=.slice (some ⟨b,0,none⟩) nr c:=by
        obtain⟨_,q2,_,_,xs,cvs,lvs,os,q6⟩:=ll.o;exact⟨q2,by obtain⟨b,c,q,_⟩:=q6.rcd hi;exact⟨b,c,q⟩⟩
       obtain⟨b3,c3,hq⟩:=hq;cases hq;clear lm V6;obtain⟨s0,s1,s2⟩:=Ab HL.o.k5;have sf:=(λj=>fH HL.o.k5 j);obtain⟨m0,m1,m2,m3,m4,m5⟩:=Bx th.o;obtain⟨wE,eE⟩:∃y,((V2.setCell ⟨g5,0,none⟩ (.int .i64 wd)).setCell ⟨g5,1,none⟩ (.slice a1 n1 c1)).setCell ⟨g5,2,none⟩ (.slice (some ⟨b3,0,none⟩) nr c2)=y:=⟨_,rfl⟩;have ye:=Ad (HL.o.pX aj (by omega) (by omega) oa ll.o);rw[eE]at ye;have cE:=ye.o.c3
       go_upto_region 39 with fail
       clear s0 s1 s2 sf m0 m1 m2 m3 m4 m5 eE cE;replace HL:=Ad ye.o;clear ye ll th;obtain⟨b9,c9,x0,x1,x2,re,bx,cw,f0,f1,f2,ff,d6⟩:=HL.o.fin aj df (by omega) (by omega) hi;cases re;obtain⟨AN,eX⟩:∃y,((wE.setCell ⟨b3,i*3,none⟩ (.slice (some ⟨cg,0,none⟩) cn cc)).setCell ⟨b3,i*3+1,none⟩ (.slice la ln lc)).setCell ⟨b3,i*3+2,none⟩ (.string o)=y:=⟨_,rfl⟩;obtain⟨AL,eY⟩:∃y,((AN.setCell ⟨w.heap.size+1,0,none⟩ (.int .i64 (n:Int))).setCell ⟨w.heap.size+1,1,none⟩ (.slice a1 n1 c1)).setCell ⟨w.heap.size+1,2,none⟩ (.slice (some ⟨b3,0,none⟩) nr c2)=y:=⟨_,rfl⟩;obtain⟨j5,j4,jY,dm,dr⟩:=d6 AN AL eX eY;have fx:=Ad dm;have fg:=Ad dr;have xi:=Ad jY;obtain⟨u0,u1,u2⟩:=Ab HL.o.k5;obtain⟨v0,v1,v2⟩:=Ab HL.o.k7;obtain⟨y0,y1,y2⟩:=Ab j5;obtain⟨z0,z1,z2⟩:=Ab j4;have zf:=(λj=>fH j4 j);clear d6 dm dr jY j5 j4 bx cw;go_wp2;obtain⟨T',R',e1,e2⟩:=fx.o;obtain⟨q0,q1,q2⟩:=Ab xi.o;exact bR (v:=.agg #[.int .i64 (n:Int),.slice a1 n1 c1,.slice (some ⟨b3,0,none⟩) nr c2]) (by simp[results,Tryz.results34,go_sem,q0,q1,q2]) rfl (by first|exact⟨(n:Int),_,_,_,_,_,_,T',R',rfl,e1,e2,fg.o.more (by omega)⟩|exact⟨(n:Int),_,_,_,_,_,_,rfl,T',R',e1,e2,fg.o.more (by omega)⟩)
      ·have hcdB:(cd == 0)=false:=by simpa using pw
       obtain⟨m0,m1,m2,m3,m4,m5⟩:=Bx th.o;replace HL:=Ad HL.o.loose;obtain⟨b9,c9,x0,x1,x2,re,bx,cw,f0,f1,f2,ff,d6⟩:=HL.o.fin aj df (by omega) (by omega) hi;cases re;obtain⟨AN,eX⟩:∃y,((V2.setCell ⟨b,i*3,none⟩ (.slice (some ⟨cg,0,none⟩) cn cc)).setCell ⟨b,i*3+1,none⟩ (.slice la ln lc)).setCell ⟨b,i*3+2,none⟩ (.string o)=y:=⟨_,rfl⟩;obtain⟨AL,eY⟩:∃y,((AN.setCell ⟨w.heap.size+1,0,none⟩ (.int .i64 (n:Int))).setCell ⟨w.heap.size+1,1,none⟩ (.slice (some ⟨g1,0,none⟩) nt t2)).setCell ⟨w.heap.size+1,2,none⟩ (.slice (some ⟨b,0,none⟩) nr rc)=y:=⟨_,rfl⟩;obtain⟨j5,j4,jY,dm,dr⟩:=d6 AN AL eX eY;have fx:=Ad dm;have fg:=Ad dr;have xi:=Ad jY;obtain⟨u0,u1,u2⟩:=Ab HL.o.k5;obtain⟨v0,v1,v2⟩:=Ab HL.o.k7;obtain⟨y0,y1,y2⟩:=Ab j5;obtain⟨z0,z1,z2⟩:=Ab j4;have zf:=(λj=>fH j4 j);clear d6 dm dr jY j5 j4 bx cw;go_wp2;obtain⟨T',R',e1,e2⟩:=fx.o;obtain⟨q0,q1,q2⟩:=Ab xi.o;exact bR (v:=.agg #[.int .i64 (n:Int),.slice (some ⟨g1,0,none⟩) nt t2,.slice (some ⟨b,0,none⟩) nr rc]) (by simp[results,Tryz.results34,go_sem,q0,q1,q2]) rfl (by first|exact⟨(n:Int),_,_,_,_,_,_,T',R',rfl,e1,e2,fg.o.more (by omega)⟩|exact⟨(n:Int),_,_,_,_,_,_,rfl,T',R',e1,e2,fg.o.more (by omega)⟩)
     ·skip
      go_simp;obtain⟨g9,nu⟩:∃g,vv.heap.size=g:=⟨_,rfl⟩;obtain⟨V,eV⟩:∃V,vv.alloc (.cells #[.int .i64 0,.int .i64 0,.slice none 0 0,.slice none 0 0,.string ⟨#[]⟩,.string ⟨#[]⟩] 31)=V:=⟨_,rfl⟩;have cr:Below vv.heap.size vv V:=eV▸aN _ _;(have f8:Hd (V.heap[g9]?=some (.cells #[.int .i64 0,.int .i64 0,.slice none 0 0,.slice none 0 0,.string ⟨#[]⟩,.string ⟨#[]⟩] 31 (0,0))):=by show _=_;rw[←eV,←nu];exact Am _ _);(have hg9:w.heap.size≤g9:=by have:=HL.o.rd.size;omega);replace HL:=Ad (HL.o.bl aj cr)
      try rw[eV]
      have gj:V.cell? ⟨g5,0,none⟩=some (.int .i64 (n:Int))∧V.cell? ⟨g5,1,none⟩=some (.slice (some ⟨g1,0,none⟩) nt t2)∧V.cell? ⟨g5,2,none⟩=some (.slice (some ⟨b,0,none⟩) nr rc):=Ab HL.o.k5;refine hK.out _ _ (λ_=>gj) (λ_=>?_)
      try rw[nu]
      clear hK K eV cr
      try simp only[gX]
      (have hg9R:g9≠R:=by omega);clear nu;refine Lt.sp (i:=5) (λK hK=>?_);have oa:g7<V.heap.size:=An HL.o.k7;go_simp;refine(HL.o.putX (De zb) (by have:=Et zb;omega)).mono ?_;rintro e w8 ⟨fi,cd,wd,a1,n1,c1,a2,n2,c2,A,AG,rfl,ll⟩;obtain⟨lim,elim⟩:∃y,V.heap.size=y:=⟨_,rfl⟩;rw[elim]at ll oa;replace HL:=Ad (HL.o.bl aj fi);replace f8:=Ad (Ac f8.o fi);have hS5:w8.cell? ⟨g5,0,none⟩=some (.int .i64 (n:Int))∧w8.cell? ⟨g5,1,none⟩=some (.slice (some ⟨g1,0,none⟩) nt t2)∧w8.cell? ⟨g5,2,none⟩=some (.slice (some ⟨b,0,none⟩) nr rc):=Ab HL.o.k5;refine hK.out _ _ (λ_=>hS5) (λ_=>?_);clear hK K fi elim
      try simp only[gX]
      have n6:Hd (Ai w8 g9 31):=⟨_,f8.o⟩;obtain⟨V2,dg⟩:∃y,(((((w8.setCell ⟨g9,0,none⟩ (.int .i64 cd)).setCell ⟨g9,1,none⟩ (.int .i64 wd)).setCell ⟨g9,2,none⟩ (.slice a1 n1 c1)).setCell ⟨g9,3,none⟩ (.slice a2 n2 c2)).setCell ⟨g9,4,none⟩ (.string A)).setCell ⟨g9,5,none⟩ (.string AG)=y:=⟨_,rfl⟩;have ip:=Ad (HL.o.s6 aj n6.o hg9 (.int .i64 cd) (.int .i64 wd) (.slice a1 n1 c1) (.slice a2 n2 c2) (.string A) (.string AG));rw[dg]at ip;have lm:Hd (cd=0→PX V2 w.heap.size nr n wd a1 n1 c1 a2 n2 c2 lim):=λq=>dg▸(ll.o q).s6 n6.o _ _ _ _ _ _;have th:Hd (V2.heap[g9]?=some (.cells #[.int .i64 cd,.int .i64 wd,.slice a1 n1 c1,.slice a2 n2 c2,.string A,.string AG] 31 (0,0))):=dg▸Pe f8.o _ _ _ _ _ _;obtain⟨k0,k1,k2,k3,k4,k5⟩:=Bx f8.o;have kf:=(λj=>fH f8.o j);clear n6 f8 ll HL;refine Lt.sp (i:=7) (λK hK=>?_);go_simp
      try rw[dg]
      refine hK.out _ _ (λh=>absurd h (by decide)) (λ_=>?_);clear hK K dg k0 k1 k2 k3 k4 k5 kf
      try simp only[gX]
      refine Lt.done (by kernel_rfl) ?_ _;have HL:=Ad ip.o;clear ip
      by_cases pw:cd=0
      ·subst pw
       have ll:=Ad (lm.o rfl)
       obtain⟨V6,hq⟩:n2=nr∧∃b c,Value.slice a2 n2 c2=.slice (some ⟨b,0,none⟩) nr c:=by
        obtain⟨_,q2,_,_,xs,cvs,lvs,os,q6⟩:=ll.o;exact⟨q2,by obtain⟨b,c,q,_⟩:=q6.rcd hi;exact⟨b,c,q⟩⟩
       obtain⟨b3,c3,hq⟩:=hq;cases hq;clear lm V6;obtain⟨s0,s1,s2⟩:=Ab HL.o.k5;have sf:=(λj=>fH HL.o.k5 j);obtain⟨m0,m1,m2,m3,m4,m5⟩:=Bx th.o;obtain⟨wE,eE⟩:∃y,((V2.setCell ⟨g5,0,none⟩ (.int .i64 wd)).setCell ⟨g5,1,none⟩ (.slice a1 n1 c1)).setCell ⟨g5,2,none⟩ (.slice (some ⟨b3,0,none⟩) nr c2)=y:=⟨_,rfl⟩;have ye:=Ad (HL.o.pX aj (by omega) (by omega) oa ll.o);rw[eE]at ye;have cE:=ye.o.c3
       go_upto_region 39 with fail
       clear s0 s1 s2 sf m0 m1 m2 m3 m4 m5 eE cE;replace HL:=Ad ye.o;clear ye ll th;obtain⟨b9,c9,x0,x1,x2,re,bx,cw,f0,f1,f2,ff,d6⟩:=HL.o.fin aj df (by omega) (by omega) hi;cases re;obtain⟨AN,eX⟩:∃y,((wE.setCell ⟨b3,i*3,none⟩ (.slice (some ⟨cg,0,none⟩) cn cc)).setCell ⟨b3,i*3+1,none⟩ (.slice la ln lc)).setCell ⟨b3,i*3+2,none⟩ (.string o)=y:=⟨_,rfl⟩;obtain⟨AL,eY⟩:∃y,((AN.setCell ⟨w.heap.size+1,0,none⟩ (.int .i64 (n:Int))).setCell ⟨w.heap.size+1,1,none⟩ (.slice a1 n1 c1)).setCell ⟨w.heap.size+1,2,none⟩ (.slice (some ⟨b3,0,none⟩) nr c2)=y:=⟨_,rfl⟩;obtain⟨j5,j4,jY,dm,dr⟩:=d6 AN AL eX eY;have fx:=Ad dm;have fg:=Ad dr;have xi:=Ad jY;obtain⟨u0,u1,u2⟩:=Ab HL.o.k5;obtain⟨v0,v1,v2⟩:=Ab HL.o.k7;obtain⟨y0,y1,y2⟩:=Ab j5;obtain⟨z0,z1,z2⟩:=Ab j4;have zf:=(λj=>fH j4 j);clear d6 dm dr jY j5 j4 bx cw;go_wp2;obtain⟨T',R',e1,e2⟩:=fx.o;obtain⟨q0,q1,q2⟩:=Ab xi.o;exact bR (v:=.agg #[.int .i64 (n:Int),.slice a1 n1 c1,.slice (some ⟨b3,0,none⟩) nr c2]) (by simp[results,Tryz.results34,go_sem,q0,q1,q2]) rfl (by first|exact⟨(n:Int),_,_,_,_,_,_,T',R',rfl,e1,e2,fg.o.more (by omega)⟩|exact⟨(n:Int),_,_,_,_,_,_,rfl,T',R',e1,e2,fg.o.more (by omega)⟩)
      ·have hcdB:(cd == 0)=false:=by simpa using pw
       obtain⟨m0,m1,m2,m3,m4,m5⟩:=Bx th.o;replace HL:=Ad HL.o.loose;obtain⟨b9,c9,x0,x1,x2,re,bx,cw,f0,f1,f2,ff,d6⟩:=HL.o.fin aj df (by omega) (by omega) hi;cases re;obtain⟨AN,eX⟩:∃y,((V2.setCell ⟨b,i*3,none⟩ (.slice (some ⟨cg,0,none⟩) cn cc)).setCell ⟨b,i*3+1,none⟩ (.slice la ln lc)).setCell ⟨b,i*3+2,none⟩ (.string o)=y:=⟨_,rfl⟩;obtain⟨AL,eY⟩:∃y,((AN.setCell ⟨w.heap.size+1,0,none⟩ (.int .i64 (n:Int))).setCell ⟨w.heap.size+1,1,none⟩ (.slice (some ⟨g1,0,none⟩) nt t2)).setCell ⟨w.heap.size+1,2,none⟩ (.slice (some ⟨b,0,none⟩) nr rc)=y:=⟨_,rfl⟩;obtain⟨j5,j4,jY,dm,dr⟩:=d6 AN AL eX eY;have fx:=Ad dm;have fg:=Ad dr;have xi:=Ad jY;obtain⟨u0,u1,u2⟩:=Ab HL.o.k5;obtain⟨v0,v1,v2⟩:=Ab HL.o.k7;obtain⟨y0,y1,y2⟩:=Ab j5;obtain⟨z0,z1,z2⟩:=Ab j4;have zf:=(λj=>fH j4 j);clear d6 dm dr jY j5 j4 bx cw;go_wp2;obtain⟨T',R',e1,e2⟩:=fx.o;obtain⟨q0,q1,q2⟩:=Ab xi.o;exact bR (v:=.agg #[.int .i64 (n:Int),.slice (some ⟨g1,0,none⟩) nt t2,.slice (some ⟨b,0,none⟩) nr rc]) (by simp[results,Tryz.results34,go_sem,q0,q1,q2]) rfl (by first|exact⟨(n:Int),_,_,_,_,_,_,T',R',rfl,e1,e2,fg.o.more (by omega)⟩|exact⟨(n:Int),_,_,_,_,_,_,rfl,T',R',e1,e2,fg.o.more (by omega)⟩)
    ·skip
     go_simp;obtain⟨g9,nu⟩:∃g,vv.heap.size=g:=⟨_,rfl⟩;obtain⟨V,eV⟩:∃V,vv.alloc (.cells #[.int .i64 0,.int .i64 0,.slice none 0 0,.slice none 0 0,.string ⟨#[]⟩,.string ⟨#[]⟩] 31)=V:=⟨_,rfl⟩;have cr:Below vv.heap.size vv V:=eV▸aN _ _;(have f8:Hd (V.heap[g9]?=some (.cells #[.int .i64 0,.int .i64 0,.slice none 0 0,.slice none 0 0,.string ⟨#[]⟩,.string ⟨#[]⟩] 31 (0,0))):=by show _=_;rw[←eV,←nu];exact Am _ _);(have hg9:w.heap.size≤g9:=by have:=HL.o.rd.size;omega);replace HL:=Ad (HL.o.bl aj cr)
     try rw[eV]
     have ia:V.cell? ⟨g5,0,none⟩=some (.int .i64 (n:Int))∧V.cell? ⟨g5,1,none⟩=some (.slice (some ⟨g1,0,none⟩) nt t2)∧V.cell? ⟨g5,2,none⟩=some (.slice (some ⟨b,0,none⟩) nr rc):=Ab HL.o.k5;refine hK.out _ _ (λ_=>ia) (λ_=>?_)
     try rw[nu]
     clear hK K eV cr
     try simp only[gX]
     clear nu;refine Lt.sp (i:=4) (λK hK=>?_);go_simp;refine(Ey _ _).mono ?_;rintro e wF ⟨rfl,rfl⟩;refine hK.out _ _ (λ_=>ia) (λ_=>?_);clear hK K 
     try simp only[gX]
     refine Lt.sp (i:=5) (λK hK=>?_);have oa:g7<V.heap.size:=An HL.o.k7;go_simp;refine(HL.o.putX (De zb) (by have:=Et zb;omega)).mono ?_;rintro e w8 ⟨fi,cd,wd,a1,n1,c1,a2,n2,c2,A,AG,rfl,ll⟩;obtain⟨lim,elim⟩:∃y,V.heap.size=y:=⟨_,rfl⟩;rw[elim]at ll oa;replace HL:=Ad (HL.o.bl aj fi);replace f8:=Ad (Ac f8.o fi);have li:w8.cell? ⟨g5,0,none⟩=some (.int .i64 (n:Int))∧w8.cell? ⟨g5,1,none⟩=some (.slice (some ⟨g1,0,none⟩) nt t2)∧w8.cell? ⟨g5,2,none⟩=some (.slice (some ⟨b,0,none⟩) nr rc):=Ab HL.o.k5;refine hK.out _ _ (λ_=>li) (λ_=>?_);clear hK K fi elim
     try simp only[gX]
     have n6:Hd (Ai w8 g9 31):=⟨_,f8.o⟩;obtain⟨V2,dg⟩:∃y,(((((w8.setCell ⟨g9,0,none⟩ (.int .i64 cd)).setCell ⟨g9,1,none⟩ (.int .i64 wd)).setCell ⟨g9,2,none⟩ (.slice a1 n1 c1)).setCell ⟨g9,3,none⟩ (.slice a2 n2 c2)).setCell ⟨g9,4,none⟩ (.string A)).setCell ⟨g9,5,none⟩ (.string AG)=y:=⟨_,rfl⟩;have ip:=Ad (HL.o.s6 aj n6.o hg9 (.int .i64 cd) (.int .i64 wd) (.slice a1 n1 c1) (.slice a2 n2 c2) (.string A) (.string AG));rw[dg]at ip;have lm:Hd (cd=0→PX V2 w.heap.size nr n wd a1 n1 c1 a2 n2 c2 lim):=λq=>dg▸(ll.o q).s6 n6.o _ _ _ _ _ _;have th:Hd (V2.heap[g9]?=some (.cells #[.int .i64 cd,.int .i64 wd,.slice a1 n1 c1,.slice a2 n2 c2,.string A,.string AG] 31 (0,0))):=dg▸Pe f8.o _ _ _ _ _ _;obtain⟨k0,k1,k2,k3,k4,k5⟩:=Bx f8.o;have kf:=(λj=>fH f8.o j);clear n6 f8 ll HL;refine Lt.sp (i:=7) (λK hK=>?_);go_simp
     try rw[dg]
     refine hK.out _ _ (λh=>absurd h (by decide)) (λ_=>?_);clear hK K dg k0 k1 k2 k3 k4 k5 kf
     try simp only[gX]
     refine Lt.done (by kernel_rfl) ?_ _;have HL:=Ad ip.o;clear ip
     by_cases pw:cd=0
     ·subst pw
      have ll:=Ad (lm.o rfl)
      obtain⟨V6,hq⟩:n2=nr∧∃b c,Value.slice a2 n2 c2=.slice (some ⟨b,0,none⟩) nr c:=by
       obtain⟨_,q2,_,_,xs,cvs,lvs,os,q6⟩:=ll.o;exact⟨q2,by obtain⟨b,c,q,_⟩:=q6.rcd hi;exact⟨b,c,q⟩⟩
      obtain⟨b3,c3,hq⟩:=hq;cases hq;clear lm V6;obtain⟨s0,s1,s2⟩:=Ab HL.o.k5;have sf:=(λj=>fH HL.o.k5 j);obtain⟨m0,m1,m2,m3,m4,m5⟩:=Bx th.o;obtain⟨wE,eE⟩:∃y,((V2.setCell ⟨g5,0,none⟩ (.int .i64 wd)).setCell ⟨g5,1,none⟩ (.slice a1 n1 c1)).setCell ⟨g5,2,none⟩ (.slice (some ⟨b3,0,none⟩) nr c2)=y:=⟨_,rfl⟩;have ye:=Ad (HL.o.pX aj (by omega) (by omega) oa ll.o);rw[eE]at ye;have cE:=ye.o.c3
      go_upto_region 39 with fail
      clear s0 s1 s2 sf m0 m1 m2 m3 m4 m5 eE cE;replace HL:=Ad ye.o;clear ye ll th;obtain⟨b9,c9,x0,x1,x2,re,bx,cw,f0,f1,f2,ff,d6⟩:=HL.o.fin aj df (by omega) (by omega) hi;cases re;obtain⟨AN,eX⟩:∃y,((wE.setCell ⟨b3,i*3,none⟩ (.slice (some ⟨cg,0,none⟩) cn cc)).setCell ⟨b3,i*3+1,none⟩ (.slice la ln lc)).setCell ⟨b3,i*3+2,none⟩ (.string o)=y:=⟨_,rfl⟩;obtain⟨AL,eY⟩:∃y,((AN.setCell ⟨w.heap.size+1,0,none⟩ (.int .i64 (n:Int))).setCell ⟨w.heap.size+1,1,none⟩ (.slice a1 n1 c1)).setCell ⟨w.heap.size+1,2,none⟩ (.slice (some ⟨b3,0,none⟩) nr c2)=y:=⟨_,rfl⟩;obtain⟨j5,j4,jY,dm,dr⟩:=d6 AN AL eX eY;have fx:=Ad dm;have fg:=Ad dr;have xi:=Ad jY;obtain⟨u0,u1,u2⟩:=Ab HL.o.k5;obtain⟨v0,v1,v2⟩:=Ab HL.o.k7;obtain⟨y0,y1,y2⟩:=Ab j5;obtain⟨z0,z1,z2⟩:=Ab j4;have zf:=(λj=>fH j4 j);clear d6 dm dr jY j5 j4 bx cw;go_wp2;obtain⟨T',R',e1,e2⟩:=fx.o;obtain⟨q0,q1,q2⟩:=Ab xi.o;exact bR (v:=.agg #[.int .i64 (n:Int),.slice a1 n1 c1,.slice (some ⟨b3,0,none⟩) nr c2]) (by simp[results,Tryz.results34,go_sem,q0,q1,q2]) rfl (by first|exact⟨(n:Int),_,_,_,_,_,_,T',R',rfl,e1,e2,fg.o.more (by omega)⟩|exact⟨(n:Int),_,_,_,_,_,_,rfl,T',R',e1,e2,fg.o.more (by omega)⟩)
     ·have hcdB:(cd == 0)=false:=by simpa using pw
      obtain⟨m0,m1,m2,m3,m4,m5⟩:=Bx th.o;replace HL:=Ad HL.o.loose;obtain⟨b9,c9,x0,x1,x2,re,bx,cw,f0,f1,f2,ff,d6⟩:=HL.o.fin aj df (by omega) (by omega) hi;cases re;obtain⟨AN,eX⟩:∃y,((V2.setCell ⟨b,i*3,none⟩ (.slice (some ⟨cg,0,none⟩) cn cc)).setCell ⟨b,i*3+1,none⟩ (.slice la ln lc)).setCell ⟨b,i*3+2,none⟩ (.string o)=y:=⟨_,rfl⟩;obtain⟨AL,eY⟩:∃y,((AN.setCell ⟨w.heap.size+1,0,none⟩ (.int .i64 (n:Int))).setCell ⟨w.heap.size+1,1,none⟩ (.slice (some ⟨g1,0,none⟩) nt t2)).setCell ⟨w.heap.size+1,2,none⟩ (.slice (some ⟨b,0,none⟩) nr rc)=y:=⟨_,rfl⟩;obtain⟨j5,j4,jY,dm,dr⟩:=d6 AN AL eX eY;have fx:=Ad dm;have fg:=Ad dr;have xi:=Ad jY;obtain⟨u0,u1,u2⟩:=Ab HL.o.k5;obtain⟨v0,v1,v2⟩:=Ab HL.o.k7;obtain⟨y0,y1,y2⟩:=Ab j5;obtain⟨z0,z1,z2⟩:=Ab j4;have zf:=(λj=>fH j4 j);clear d6 dm dr jY j5 j4 bx cw;go_wp2;obtain⟨T',R',e1,e2⟩:=fx.o;obtain⟨q0,q1,q2⟩:=Ab xi.o;exact bR (v:=.agg #[.int .i64 (n:Int),.slice (some ⟨g1,0,none⟩) nt t2,.slice (some ⟨b,0,none⟩) nr rc]) (by simp[results,Tryz.results34,go_sem,q0,q1,q2]) rfl (by first|exact⟨(n:Int),_,_,_,_,_,_,T',R',rfl,e1,e2,fg.o.more (by omega)⟩|exact⟨(n:Int),_,_,_,_,_,_,rfl,T',R',e1,e2,fg.o.more (by omega)⟩)
   ·skip
    go_simp;obtain⟨g9,nu⟩:∃g,wD.heap.size=g:=⟨_,rfl⟩;obtain⟨V,eV⟩:∃V,wD.alloc (.cells #[.int .i64 0,.int .i64 0,.slice none 0 0,.slice none 0 0,.string ⟨#[]⟩,.string ⟨#[]⟩] 31)=V:=⟨_,rfl⟩;have cr:Below wD.heap.size wD V:=eV▸aN _ _;(have f8:Hd (V.heap[g9]?=some (.cells #[.int .i64 0,.int .i64 0,.slice none 0 0,.slice none 0 0,.string ⟨#[]⟩,.string ⟨#[]⟩] 31 (0,0))):=by show _=_;rw[←eV,←nu];exact Am _ _);(have hg9:w.heap.size≤g9:=by have:=HL.o.rd.size;omega);replace HL:=Ad (HL.o.bl aj cr)
    try rw[eV]
    have fw:V.cell? ⟨g5,0,none⟩=some (.int .i64 (n:Int))∧V.cell? ⟨g5,1,none⟩=some (.slice (some ⟨g1,0,none⟩) nt t2)∧V.cell? ⟨g5,2,none⟩=some (.slice (some ⟨b,0,none⟩) nr rc):=Ab HL.o.k5;refine hK.out _ _ (λ_=>fw) (λ_=>?_)
    try rw[nu]
    clear hK K eV cr
    try simp only[gX]
    clear nu;refine Lt.sp (i:=2) (λK hK=>?_);go_simp;refine(HL.o.rd.pick (by omega) 2 (by omega) (by omega)).mono ?_;rintro e vv ⟨z,rfl,hz,az,am⟩;replace HL:=Ad (HL.o.gb df (by omega) (by omega) az am);replace f8:=Ad (Az f8.o am (by omega));have iy:vv.cell? ⟨g5,0,none⟩=some (.int .i64 (n:Int))∧vv.cell? ⟨g5,1,none⟩=some (.slice (some ⟨g1,0,none⟩) nt t2)∧vv.cell? ⟨g5,2,none⟩=some (.slice (some ⟨b,0,none⟩) nr rc):=Ab HL.o.k5;refine hK.out _ _ (λ_=>iy) (λ_=>?_);clear hK K az am
    try simp only[gX]
    refine Lt.ti (i:=3) (v:=?_) iy ?_ ?_;rotate_left 1
    ·rintro w ⟨sA,sB,sC⟩
     go_simp
     first|done|with_reducible rfl
    simp only[gX];generalize ((z:Int) == 0)=zb;refine Lt.sp (i:=4) (λK hK=>?_);go_simp;refine(Ey _ _).mono ?_;rintro e wF ⟨rfl,rfl⟩;refine hK.out _ _ (λ_=>iy) (λ_=>?_);clear hK K 
    try simp only[gX]
    refine Lt.sp (i:=5) (λK hK=>?_);have oa:g7<vv.heap.size:=An HL.o.k7;go_simp;refine(HL.o.putX (De zb) (by have:=Et zb;omega)).mono ?_;rintro e w8 ⟨fi,cd,wd,a1,n1,c1,a2,n2,c2,A,AG,rfl,ll⟩;obtain⟨lim,elim⟩:∃y,vv.heap.size=y:=⟨_,rfl⟩;rw[elim]at ll oa;replace HL:=Ad (HL.o.bl aj fi);replace f8:=Ad (Ac f8.o fi);have hS10:w8.cell? ⟨g5,0,none⟩=some (.int .i64 (n:Int))∧w8.cell? ⟨g5,1,none⟩=some (.slice (some ⟨g1,0,none⟩) nt t2)∧w8.cell? ⟨g5,2,none⟩=some (.slice (some ⟨b,0,none⟩) nr rc):=Ab HL.o.k5;refine hK.out _ _ (λ_=>hS10) (λ_=>?_);clear hK K fi elim
    try simp only[gX]
    have n6:Hd (Ai w8 g9 31):=⟨_,f8.o⟩;obtain⟨V2,dg⟩:∃y,(((((w8.setCell ⟨g9,0,none⟩ (.int .i64 cd)).setCell ⟨g9,1,none⟩ (.int .i64 wd)).setCell ⟨g9,2,none⟩ (.slice a1 n1 c1)).setCell ⟨g9,3,none⟩ (.slice a2 n2 c2)).setCell ⟨g9,4,none⟩ (.string A)).setCell ⟨g9,5,none⟩ (.string AG)=y:=⟨_,rfl⟩;have ip:=Ad (HL.o.s6 aj n6.o hg9 (.int .i64 cd) (.int .i64 wd) (.slice a1 n1 c1) (.slice a2 n2 c2) (.string A) (.string AG));rw[dg]at ip;have lm:Hd (cd=0→PX V2 w.heap.size nr n wd a1 n1 c1 a2 n2 c2 lim):=λq=>dg▸(ll.o q).s6 n6.o _ _ _ _ _ _;have th:Hd (V2.heap[g9]?=some (.cells #[.int .i64 cd,.int .i64 wd,.slice a1 n1 c1,.slice a2 n2 c2,.string A,.string AG] 31 (0,0))):=dg▸Pe f8.o _ _ _ _ _ _;obtain⟨k0,k1,k2,k3,k4,k5⟩:=Bx f8.o;have kf:=(λj=>fH f8.o j);clear n6 f8 ll HL;refine Lt.sp (i:=7) (λK hK=>?_);go_simp
    try rw[dg]
    refine hK.out _ _ (λh=>absurd h (by decide)) (λ_=>?_);clear hK K dg k0 k1 k2 k3 k4 k5 kf
    try simp only[gX]
    refine Lt.done (by kernel_rfl) ?_ _;have HL:=Ad ip.o;clear ip
    by_cases pw:cd=0
    ·subst pw
     have ll:=Ad (lm.o rfl)
     obtain⟨V6,hq⟩:n2=nr∧∃b c,Value.slice a2 n2 c2=.slice (some ⟨b,0,none⟩) nr c:=by
      obtain⟨_,q2,_,_,xs,cvs,lvs,os,q6⟩:=ll.o;exact⟨q2,by obtain⟨b,c,q,_⟩:=q6.rcd hi;exact⟨b,c,q⟩⟩
     obtain⟨b3,c3,hq⟩:=hq;cases hq;clear lm V6;obtain⟨s0,s1,s2⟩:=Ab HL.o.k5;have sf:=(λj=>fH HL.o.k5 j);obtain⟨m0,m1,m2,m3,m4,m5⟩:=Bx th.o;obtain⟨wE,eE⟩:∃y,((V2.setCell ⟨g5,0,none⟩ (.int .i64 wd)).setCell ⟨g5,1,none⟩ (.slice a1 n1 c1)).setCell ⟨g5,2,none⟩ (.slice (some ⟨b3,0,none⟩) nr c2)=y:=⟨_,rfl⟩;have ye:=Ad (HL.o.pX aj (by omega) (by omega) oa ll.o);rw[eE]at ye;have cE:=ye.o.c3
     go_upto_region 39 with fail
     clear s0 s1 s2 sf m0 m1 m2 m3 m4 m5 eE cE;replace HL:=Ad ye.o;clear ye ll th;obtain⟨b9,c9,x0,x1,x2,re,bx,cw,f0,f1,f2,ff,d6⟩:=HL.o.fin aj df (by omega) (by omega) hi;cases re;obtain⟨AN,eX⟩:∃y,((wE.setCell ⟨b3,i*3,none⟩ (.slice (some ⟨cg,0,none⟩) cn cc)).setCell ⟨b3,i*3+1,none⟩ (.slice la ln lc)).setCell ⟨b3,i*3+2,none⟩ (.string o)=y:=⟨_,rfl⟩;obtain⟨AL,eY⟩:∃y,((AN.setCell ⟨w.heap.size+1,0,none⟩ (.int .i64 (n:Int))).setCell ⟨w.heap.size+1,1,none⟩ (.slice a1 n1 c1)).setCell ⟨w.heap.size+1,2,none⟩ (.slice (some ⟨b3,0,none⟩) nr c2)=y:=⟨_,rfl⟩;obtain⟨j5,j4,jY,dm,dr⟩:=d6 AN AL eX eY;have fx:=Ad dm;have fg:=Ad dr;have xi:=Ad jY;obtain⟨u0,u1,u2⟩:=Ab HL.o.k5;obtain⟨v0,v1,v2⟩:=Ab HL.o.k7;obtain⟨y0,y1,y2⟩:=Ab j5;obtain⟨z0,z1,z2⟩:=Ab j4;have zf:=(λj=>fH j4 j);clear d6 dm dr jY j5 j4 bx cw;go_wp2;obtain⟨T',R',e1,e2⟩:=fx.o;obtain⟨q0,q1,q2⟩:=Ab xi.o;exact bR (v:=.agg #[.int .i64 (n:Int),.slice a1 n1 c1,.slice (some ⟨b3,0,none⟩) nr c2]) (by simp[results,Tryz.results34,go_sem,q0,q1,q2]) rfl (by first|exact⟨(n:Int),_,_,_,_,_,_,T',R',rfl,e1,e2,fg.o.more (by omega)⟩|exact⟨(n:Int),_,_,_,_,_,_,rfl,T',R',e1,e2,fg.o.more (by omega)⟩)
    ·have hcdB:(cd == 0)=false:=by simpa using pw
     obtain⟨m0,m1,m2,m3,m4,m5⟩:=Bx th.o;replace HL:=Ad HL.o.loose;obtain⟨b9,c9,x0,x1,x2,re,bx,cw,f0,f1,f2,ff,d6⟩:=HL.o.fin aj df (by omega) (by omega) hi;cases re;obtain⟨AN,eX⟩:∃y,((V2.setCell ⟨b,i*3,none⟩ (.slice (some ⟨cg,0,none⟩) cn cc)).setCell ⟨b,i*3+1,none⟩ (.slice la ln lc)).setCell ⟨b,i*3+2,none⟩ (.string o)=y:=⟨_,rfl⟩;obtain⟨AL,eY⟩:∃y,((AN.setCell ⟨w.heap.size+1,0,none⟩ (.int .i64 (n:Int))).setCell ⟨w.heap.size+1,1,none⟩ (.slice (some ⟨g1,0,none⟩) nt t2)).setCell ⟨w.heap.size+1,2,none⟩ (.slice (some ⟨b,0,none⟩) nr rc)=y:=⟨_,rfl⟩;obtain⟨j5,j4,jY,dm,dr⟩:=d6 AN AL eX eY;have fx:=Ad dm;have fg:=Ad dr;have xi:=Ad jY;obtain⟨u0,u1,u2⟩:=Ab HL.o.k5;obtain⟨v0,v1,v2⟩:=Ab HL.o.k7;obtain⟨y0,y1,y2⟩:=Ab j5;obtain⟨z0,z1,z2⟩:=Ab j4;have zf:=(λj=>fH j4 j);clear d6 dm dr jY j5 j4 bx cw;go_wp2;obtain⟨T',R',e1,e2⟩:=fx.o;obtain⟨q0,q1,q2⟩:=Ab xi.o;exact bR (v:=.agg #[.int .i64 (n:Int),.slice (some ⟨g1,0,none⟩) nt t2,.slice (some ⟨b,0,none⟩) nr rc]) (by simp[results,Tryz.results34,go_sem,q0,q1,q2]) rfl (by first|exact⟨(n:Int),_,_,_,_,_,_,T',R',rfl,e1,e2,fg.o.more (by omega)⟩|exact⟨(n:Int),_,_,_,_,_,_,rfl,T',R',e1,e2,fg.o.more (by omega)⟩)
end Go.Proofs.YtoihflimijabjaaGreatDoor
