import Derived.Test.YtoihflimijabjaaGreatDoorBaP
import Derived.Test.YtoihflimijabjaaGreatDoorPuD
namespace Go.Proofs.YtoihflimijabjaaGreatDoor
open Value renaming slice->J,string->S,bool->F,agg->G,pointer->D,tuple->Y
open Option renaming some->M,none->N
open Obj renaming cells->O
open Go renaming Value->Z,World->E
open Ending renaming returned->H
open _root_ renaming List->L,Nat->X
set_option maxHeartbeats 8000000
set_option maxRecDepth 100000
open _root_.Go.Proofs.Tryz Go.RowKit Go.Deep
set_option linter.unusedVariables false
set_option linter.unusedSimpArgs false
variable {w':E} {n cd wd:Int} {ts ts':L By} {rs:L T3} {x A B:By} {lo' hi' R hi:X} {v:Z}
theorem Ih.after{ob:Option X}{w w1:E}(h:Ih ob w1 w')(hb:Bw w w1):Ih ob w w':=λb hl aq=>by
 rw[h b (Nat.lt_of_lt_of_le hl hb.size) aq];exact hb.block b hl
theorem Qbe(b off cap:X)(is:L G3)(w:E)(hc:Kb w (M ⟨b,off,N⟩) is)(hl:is.length≤1048576):Calls prog 79 #[J (M ⟨b,off,N⟩) is.length cap] w λe w'=>Bw w w'∧∃g cp,e=H (J (p_ g) is.length cp)∧w'.ownsRow w.heap.size 79 3 (J (p_ g) is.length cp) is.length (Ix is):=by
 obtain⟨i0,hi,bm,bg,bi⟩:=info_parts Tryz.info88b;have de:(w.alloc (O #[] 79)).ownsRow w.heap.size 79 3 (J (p_ w.heap.size) 0 0) 0 []:=World.ownsRow_lit (base:=w.heap.size) (e:=79) (size:=3) w #[] 0 (Nat.le_refl _) qn qi;have hn:=Tz (hc.bl ((Below.refl w.heap.size w).alloc (Nat.le_refl _) (O #[] 79)));have HL:Hd ((Ix is).length=is.length*3):=Ln is;have HO:Hd (∀u∈Ix is,u.oneCell'=true):=Xs is;generalize Ix is=xs at *;clear hc;have hq:∀W:E,(binOp .eql 54 (J (M ⟨b,off,N⟩) is.length cap) nS).run prog W=.ok (F false) W:=λW=>Lib.run_eql_slice_nil W 54 79 _ _ _ 0 0 underlying54;go_enter func79,ntmps79
 go_wp2_with (at_builtin;refine wpList_append_own _ rfl (.tmp 5) (.tmp 6) 54 rfl w.heap.size 79 i0 (G #[ze,F false,ze]) 3 40 underlying54 hi bm bg bi rfl qh _ 0 [] rfl de ⟨b,off,N⟩ is.length cap xs rfl HL.o hn HO.o qn qg qi ?_;intro v' w2 af ae bn)
 exact qdz

def Hr(lo:X)(w:E)(e:Ending)(n:Int)(ts:L By)(rs:L T3)(x:By):Prop:=∃cd wd ts' my A B v1 v2,e=H (G #[I cd,I wd,v1,v2,S A,S B])∧Og n ts rs x cd wd ts' my A B∧Cn w lo w.heap.size v1 ts'∧Ct w lo w.heap.size v2 my
theorem Hr.zero{lo:X}{w:E}(h:Og n ts rs x cd 0 [] [] A B):Hr lo w (H (G #[I cd,I 0,nS,nS,S A,S B])) n ts rs x:=
 ⟨cd,0,[],[],A,B,_,_,rfl,h,Cn.nil _ _ _,Ct.nil _ _ _⟩
theorem Cz.recs(h:Cz n ts rs):∀i,i<rs.length→1≤(qx rs i).code.length∧(qx rs i).code.length≤1048576∧(qx rs i).looks.length≤1048576:=λi hi=>by
 have h1:=h.2.2.2.2 i hi;have h2:=Fz h1.1;have h3:=h1.2.2.1;exact⟨h2.1,qg,qg⟩

theorem Hr.full{lo:X}{w:E}{my:L T3}{v1 v2:Z}(h:Og n ts rs x cd wd ts' my A B)(h1:Cn w lo' hi' v1 ts')(h2:Ct w lo' hi' v2 my)(hR:R<lo')(hl:lo≤lo')(hh:hi'≤w.heap.size)(u1 u2 u3 u4 u5 u6:Z):Hr lo ((((((w.setCell ⟨R,0,N⟩ u1).setCell ⟨R,1,N⟩ u2).setCell ⟨R,2,N⟩ u3).setCell ⟨R,3,N⟩ u4).setCell ⟨R,4,N⟩ u5).setCell ⟨R,5,N⟩ u6) (H (G #[I cd,I wd,v1,v2,S A,S B])) n ts rs x:=
 ⟨cd,wd,ts',my,A,B,v1,v2,rfl,h,(h1.set6 hR _ _ _ _ _ _).wide hl (by simpa using hh),(h2.set6 hR _ _ _ _ _ _).wide hl (by simpa using hh)⟩

theorem Cn.set6T{w:E}{lo:X}(h:Cn w lo hi v ts)(ht:Ai w R 31)(u1 u2 u3 u4 u5 u6:Z):Cn ((((((w.setCell ⟨R,0,N⟩ u1).setCell ⟨R,1,N⟩ u2).setCell ⟨R,2,N⟩ u3).setCell ⟨R,3,N⟩ u4).setCell ⟨R,4,N⟩ u5).setCell ⟨R,5,N⟩ u6) lo hi v ts:=
 (((((h.setT ht qh _).setT (ht.set _) qh _).setT ((ht.set _).set _) qh _).setT (((ht.set _).set _).set _) qh _).setT ((((ht.set _).set _).set _).set _) qh _).setT (((((ht.set _).set _).set _).set _).set _) qh _
theorem Ct.set6T{w:E}{lo:X}(h:Ct w lo hi v rs)(ht:Ai w R 31)(u1 u2 u3 u4 u5 u6:Z):Ct ((((((w.setCell ⟨R,0,N⟩ u1).setCell ⟨R,1,N⟩ u2).setCell ⟨R,2,N⟩ u3).setCell ⟨R,3,N⟩ u4).setCell ⟨R,4,N⟩ u5).setCell ⟨R,5,N⟩ u6) lo hi v rs:=
 (((((h.setT ht qh qh qh _).setT (ht.set _) qh qh qh _).setT ((ht.set _).set _) qh qh qh _).setT (((ht.set _).set _).set _) qh qh qh _).setT ((((ht.set _).set _).set _).set _) qh qh qh _).setT (((((ht.set _).set _).set _).set _).set _) qh qh qh _
theorem Qaz(w:E):Calls prog 60 #[nS] w λe w'=>e=H nS∧w'=w:=by
 have hq:∀W:E,(binOp .eql 23 nS nS).run prog W=.ok (F true) W:=λW=>Lib.run_eql_slice_nil W 23 9 _ _ _ 0 0 underlying23;go_enter func60,ntmps60;exact qan
theorem Qbc(b off cap:X)(is:L I3)(w:E)(hc:Dl w (M ⟨b,off,N⟩) is)(hl:is.length≤1048576):Calls prog 90 #[J (M ⟨b,off,N⟩) is.length cap] w λe w'=>Bw w w'∧∃g cp,e=H (J (p_ g) is.length cp)∧w'.ownsRow w.heap.size 103 3 (J (p_ g) is.length cp) is.length (Cy is):=by
 obtain⟨i0,hi,bm,bg,bi⟩:=info_parts Tryz.info165b;have de:(w.alloc (O #[] 103)).ownsRow w.heap.size 103 3 (J (p_ w.heap.size) 0 0) 0 []:=World.ownsRow_lit (base:=w.heap.size) (e:=103) (size:=3) w #[] 0 (Nat.le_refl _) qn qi;have hn:=Lw (hc.bl ((Below.refl w.heap.size w).alloc (Nat.le_refl _) (O #[] 103)));have HL:Hd ((Cy is).length=is.length*3):=Gc is;have HO:Hd (∀u∈Cy is,u.oneCell'=true):=Nq is;generalize Cy is=xs at *;clear hc;have hq:∀W:E,(binOp .eql 51 (J (M ⟨b,off,N⟩) is.length cap) nS).run prog W=.ok (F false) W:=λW=>Lib.run_eql_slice_nil W 51 103 _ _ _ 0 0 underlying51;go_enter func90,ntmps90
 go_wp2_with (at_builtin;refine wpList_append_own _ rfl (.tmp 5) (.tmp 6) 51 rfl w.heap.size 103 i0 (G #[I 0,ze,I 0]) 3 32 underlying51 hi bm bg bi rfl qh _ 0 [] rfl de ⟨b,off,N⟩ is.length cap xs rfl HL.o hn HO.o qn qg qi ?_;intro v' w2 af ae bn)
 exact qdz
theorem Pd(b off cap:X)(is:L I3)(w:E)(hc:Dl w (M ⟨b,off,N⟩) is)(hl:is.length≤1048576):Calls prog 78 #[G #[J (M ⟨b,off,N⟩) is.length cap]] w λe w'=>Bw w w'∧∃g cp,e=H (G #[J (p_ g) is.length cp])∧w'.ownsRow w.heap.size 103 3 (J (p_ g) is.length cp) is.length (Cy is):=by
 have ba:Bw w ((w.alloc (O #[J (M ⟨b,off,N⟩) is.length cap] 53)).alloc (O #[nS] 53)):=(aN _ _).alloc qi _;go_enter func78,ntmps78;go_wp2_with fail;refine(Qbc b off cap is _ (hc.bl ba) hl).mono ?_;rintro e w1 ⟨ah,g,cp,rfl,ak⟩;have hg:=(ak.lt g rfl).1;simp at hg;have hb:=bt ba ah;have gh:=Al ak (B':=w.heap.size) qj;have c1:w1.cell? ⟨w.heap.size+1,0,N⟩=M nS:=Aa ah qr;have f1:w1.frozen? ⟨w.heap.size+1,0,N⟩=false:=by rw[ah.frozen (p:=⟨w.heap.size+1,0,N⟩) qi];simp[go_sem]
 clear ba ah ak;go_wp2;exact bR (v:=G #[J (p_ g) is.length cp]) (by simp[results,results78,go_sem,c1]) rfl ⟨hb.setCell (p:=⟨w.heap.size+1,0,N⟩) qi _,g,cp,rfl,Ld gh qg _⟩
theorem Qbd(w:E):Calls prog 79 #[nS] w λe w'=>e=H nS∧w'=w:=by
 have hq:∀W:E,(binOp .eql 54 nS nS).run prog W=.ok (F true) W:=λW=>Lib.run_eql_slice_nil W 54 79 _ _ _ 0 0 underlying54;go_enter func79,ntmps79;exact qan
theorem Qbf{B:X}{us:L Z}(la:Option Addr)(lc:X)(gs:L G3)(w:E)(hr:w.ownsRow B 79 3 (J la gs.length lc) gs.length us)(hf:Be gs gs.length us)(hl:gs.length≤1048576):Calls prog 79 #[J la gs.length lc] w λe w'=>Bw w w'∧∃d zs,e=H d∧w'.ownsRow w.heap.size 79 3 d gs.length zs∧Be gs gs.length zs:=by
 have hr':=hr
 rcases Dc hr with⟨e,h0⟩|⟨g,c,e⟩
 ·simp only[Value.slice.injEq]at e
  obtain⟨rfl,h1,rfl⟩:=e;obtain rfl:gs=[]:=List.eq_nil_of_length_eq_zero h0;refine(Qbd w).mono ?_;rintro e w' ⟨rfl,rfl⟩;exact⟨Below.refl _ _,_,[],rfl,World.ownsRow_nil _ _ _ _,λi hi=>absurd hi (Nat.not_lt_zero _)⟩
 ·obtain⟨a,cp,q,rg⟩:=Hl hr' hf
  simp only[Value.slice.injEq]at e;obtain⟨rfl,_,rfl⟩:=e;cases q;refine(Qbe g 0 _ gs w rg hl).mono ?_;rintro e w' ⟨hb,g2,cp,rfl,ho⟩;exact⟨hb,_,_,rfl,ho,Lo _⟩
theorem Qba(xa:Option Addr)(tc:X)(ts:L By)(w:E)(pj:∀a,xa=M a→∃b off,a=⟨b,off,N⟩)(n9:xa=N→ts=[]∧tc=0)(hc:Cs w xa ts)(hl:ts.length≤1048576):Calls prog 60 #[J xa ts.length tc] w λe w'=>Bw w w'∧∃ga cp,e=H (J ga ts.length cp)∧w'.ownsRow w.heap.size 9 1 (J ga ts.length cp) ts.length (ts.map Value.string):=by
 cases xa with
 | none=>
   obtain⟨rfl,rfl⟩:=n9 rfl;refine(Qaz w).mono ?_;rintro e w' ⟨rfl,rfl⟩;exact⟨Below.refl _ _,N,0,rfl,World.ownsRow_nil _ _ _ _⟩
 | some a=>
   obtain⟨b,off,rfl⟩:=pj a rfl;refine(Qbb b off tc ts w hc hl).mono ?_;rintro e w' ⟨hb,g,cp,rfl,ho⟩;exact⟨hb,_,_,rfl,ho⟩
def RecOutW(lo:X)(w:E)(e:Ending)(is:L I3)(gs:L G3)(out:By):Prop:=∃g1 p1 d us,e=H (G #[J (p_ g1) is.length p1,d,S out])∧w.ownsRow lo 103 3 (J (p_ g1) is.length p1) is.length (Cy is)∧w.ownsRow lo 79 3 d gs.length us∧Be gs gs.length us
theorem Qj{B2:X}{us2:L Z}(b off cap:X)(la:Option Addr)(lc:X)(is:L I3)(gs:L G3)(out:By)(w:E)(rc:Dl w (M ⟨b,off,N⟩) is)(rg:w.ownsRow B2 79 3 (J la gs.length lc) gs.length us2)(rf:Be gs gs.length us2)(hl:is.length≤1048576)(hg:gs.length≤1048576):Calls prog 61 #[G #[J (M ⟨b,off,N⟩) is.length cap,J la gs.length lc,S out]] w λe w'=>Bw w w'∧RecOutW w.heap.size w' e is gs out:=by
 obtain⟨W,eW⟩:=Aj ((w.alloc (O #[J (M ⟨b,off,N⟩) is.length cap,J la gs.length lc,S out] 56)).alloc (O #[nS,nS,ze] 56));have ba:Bw w W:=by rw[←eW];exact(aN _ _).alloc qi _
 have fe:W.heap[w.heap.size]?=M (O #[J (M ⟨b,off,N⟩) is.length cap,J la gs.length lc,S out] 56 (0,0)):=qap;have fh:W.heap[w.heap.size+1]?=M (O #[nS,nS,ze] 56 (0,0)):=qaq;have sy:w.heap.size+1+1≤W.heap.size:=qai;obtain⟨c0,c1,c2⟩:=Ab fe;have iq:Hd (W.heap[w.heap.size+1]?=M (O #[nS,nS,ze] 56 (0,0))):=fh;have HA:Hd (∀W':E,Bw W W'→Calls prog 78 #[G #[J (M ⟨b,off,N⟩) is.length cap]] W' λe w'=>Bw W' w'∧∃g cp,e=H (G #[J (p_ g) is.length cp])∧w'.ownsRow W'.heap.size 103 3 (J (p_ g) is.length cp) is.length (Cy is)):=λW' hW=>Pd b off cap is W' (rc.bl (bt ba hW)) hl;have HG:Hd (∀W':E,Bw W W'→Calls prog 79 #[J la gs.length lc] W' λe w'=>Bw W' w'∧∃d zs,e=H d∧w'.ownsRow W'.heap.size 79 3 d gs.length zs∧Be gs gs.length zs):=λW' hW=>Qbf la lc gs W' (Ce rg (bt ba hW)) rf hg;have i6:Bw W W.drew:=(Below.refl _ _).drew;clear rc rg rf fe fh;go_enter func61,ntmps61;go_wp2_with fail;clear eW
 go_region_held3 (λw'=>w'.cell? ⟨w.heap.size,0,N⟩=M (J (M ⟨b,off,N⟩) is.length cap)∧w'.cell? ⟨w.heap.size,1,N⟩=M (J la gs.length lc)∧w'.cell? ⟨w.heap.size,2,N⟩=M (S out))
  (first|exact⟨c0,c1,c2⟩|(with_reducible exact⟨t0,t1,t2⟩)|(with_reducible exact⟨s0,s1,s2⟩)|(refine⟨?_,?_,?_⟩<;>(rw[World.cell?_setCell_far _ _ _ _ qi,World.cell?_setCell_far _ _ _ _ qi,World.cell?_setCell_far _ _ _ _ qi];assumption)))
  (first|(go_at_call 78;refine(HA.o _ i6).mono ?_;rintro e w2 ⟨a9,g1,p1,rfl,l6⟩;have bp:=bt i6 a9;have s0:=Aa bp c0;have s1:=Aa bp c1;have s2:=Aa bp c2;have fc:Hd (w2.ownsRow W.heap.size 103 3 (J (p_ g1) is.length p1) is.length (Cy is)):=l6)|(go_at_call 79;refine(HG.o _ bp).mono ?_;rintro e w3 ⟨bh,dv,us3,rfl,ik,hf2⟩;have dp:Hd (Be gs gs.length us3):=hf2;obtain⟨da,dc,rfl⟩:=Ax ik;have fm:=bt bp bh;have t0:=Aa fm c0;have t1:=Aa fm c1;have t2:=Aa fm c2;have vh:Hd (w3.ownsRow W.heap.size 103 3 (J (p_ g1) is.length p1) is.length (Cy is)):=Ae fc.o bh;have oq:Hd (w3.ownsRow W.heap.size 79 3 (J da gs.length dc) gs.length us3):=Al ik bp.size;have wb:=Ac iq.o fm;obtain⟨r0,r1,r2⟩:=Ab wb;have rf:=(λj=>fH wb j)))
 have am:=(vh.o.lt g1 rfl).1;have hB:=bt ba fm;go_wp2_with fail;refine bR (v:=G #[J (p_ g1) is.length p1,J da gs.length dc,S out]) (by simp[results,results61,go_sem,r0,r1,r2]) rfl ⟨?_,g1,p1,_,us3,rfl,?_,?_,dp.o⟩
 ·exact qec
 ·exact Ld (Ld (Ld (Al vh.o qg) qg _) qg _) qg _
 ·exact Al (Ak (Ak (Ak oq.o ⟨_,wb⟩ qh _) (Ai.set ⟨_,wb⟩ _) qh _) (Ai.set (Ai.set ⟨_,wb⟩ _) _) qh _) qg
theorem Sc(wd:Int)(xa:Option Addr)(tc:X)(ra:Option Addr)(rc:X)(ts:L By)(rs:L T3)(w:E)(pj:∀a,xa=M a→∃b off,a=⟨b,off,N⟩)(n9:xa=N→ts=[]∧tc=0)(st:Cs w xa ts)(rp:Hy w ra rs)(ht:ts.length≤1048576)(hr:rs.length≤1048576)(hk:∀i,i<rs.length→(qx rs i).code.length≤1048576∧(qx rs i).looks.length≤1048576):Calls prog 37 #[G #[I wd,J xa ts.length tc,J ra rs.length rc]] w λe w'=>Bw w w'∧∃(g1:Option Addr)(p1:X)(v2:Z),e=H (G #[I wd,J g1 ts.length p1,v2])∧Cn w' w.heap.size w'.heap.size (J g1 ts.length p1) ts∧Ct w' w.heap.size w'.heap.size v2 rs:=by
 obtain⟨W,eW⟩:=Aj ((w.alloc (O #[I wd,J xa ts.length tc,J ra rs.length rc] 26)).alloc (O #[I 0,nS,nS] 26));have ba:Bw w W:=by rw[←eW];exact(aN _ _).alloc qi _
 have fe:W.heap[w.heap.size]?=M (O #[I wd,J xa ts.length tc,J ra rs.length rc] 26 (0,0)):=qap;have fh:W.heap[w.heap.size+1]?=M (O #[I 0,nS,nS] 26 (0,0)):=qaq;have sy:w.heap.size+1+1≤W.heap.size:=qai;obtain⟨c0,c1,c2⟩:=Ab fe;have xh:Hd (W.heap[w.heap.size]?=M (O #[I wd,J xa ts.length tc,J ra rs.length rc] 26 (0,0))):=fe;have iq:Hd (W.heap[w.heap.size+1]?=M (O #[I 0,nS,nS] 26 (0,0))):=fh;have wy:Hd (Hy w ra rs):=rp;have HKK:Hd (∀i,i<rs.length→(qx rs i).code.length≤1048576∧(qx rs i).looks.length≤1048576):=hk;have i6:Bw W W.drew:=(Below.refl _ _).drew;have HX:Hd (∀W':E,Bw W W'→Calls prog 60 #[J xa ts.length tc] W' λe w'=>Bw W' w'∧∃ga cp,e=H (J ga ts.length cp)∧w'.ownsRow W'.heap.size 9 1 (J ga ts.length cp) ts.length (ts.map Value.string)):=λW' hW=>Qba xa tc ts W' pj n9 (st.bl (bt ba hW)) ht;clear st rp hk fe fh;go_enter func37,ntmps37;go_wp2_with fail;clear eW
 go_cut [3] (λp wx=>∃(P:X)(g1:Option Addr)(p1:X),p=D (p_ P)∧Hd (wx.heap[P]?=M (O #[I wd,J g1 ts.length p1,nS] 26 (0,0)))∧Hd (wx.ownsRow W.heap.size 9 1 (J g1 ts.length p1) ts.length (ts.map Value.string))∧W.heap.size≤P∧Bw W wx)
 case first=>
  go_region_held3 (λw'=>w'.cell? ⟨w.heap.size,0,N⟩=M (I wd)∧w'.cell? ⟨w.heap.size,1,N⟩=M (J xa ts.length tc))
   (first|(with_reducible exact⟨s0,s1⟩)|(with_reducible exact⟨Bn s0,Bn s1⟩)|(refine⟨?_,?_⟩<;>(rw[World.cell?_setCell_far _ _ _ _ qj,World.cell?_setCell_far _ _ _ _ qj,World.cell?_setCell_far _ _ _ _ qj];assumption))|exact⟨c0,c1⟩|exact⟨Bn c0,Bn c1⟩)
   (first|(go_at_call 60;(first|(refine(HX.o _ i6).mono ?_;rintro e w2 ⟨a9,g1,p1,rfl,l6⟩;have bp:=bt i6 a9;have fc:Hd (w2.ownsRow W.heap.size 9 1 (J g1 ts.length p1) ts.length (ts.map Value.string)):=l6)|(refine(HX.o _ (i6.alloc qi _)).mono ?_;rintro e w2 ⟨a9,g1,p1,rfl,l6⟩;have bp:=bt (i6.alloc qi _) a9;have z2:w2.heap[W.heap.size]?=_:=Ac (Am W.drew _) a9;obtain⟨k0,k1,k2⟩:=Ab z2;have kf:=(λj=>fH z2 j);have fc:Hd (w2.ownsRow W.heap.size 9 1 (J g1 ts.length p1) ts.length (ts.map Value.string)):=Al l6 qi));have s0:=Aa bp c0;have s1:=Aa bp c1))
  all_goals
   go_wp2_with fail;go_meet
   first
    | exact⟨W.heap.size,g1,p1,rfl,Cv z2 _ _ _,Ak (Ak (Ak fc.o ⟨_,z2⟩ qh _) (Ai.set ⟨_,z2⟩ _) qh _) (Ai.set (Ai.set ⟨_,z2⟩ _) _) qh _,Nat.le_refl _,((bp.setCell (p:=⟨W.heap.size,0,N⟩) (Nat.le_refl _) _).setCell (p:=⟨W.heap.size,1,N⟩) (Nat.le_refl _) _).setCell (p:=⟨W.heap.size,2,N⟩) (Nat.le_refl _) _⟩
    | exact⟨w2.heap.size,g1,p1,rfl,Am _ _,fc.o.alloc _,bp.size,bp.alloc bp.size _⟩
 case rest=>
  obtain⟨P,g1,p1,rfl,HP,fc,U8,ks⟩:=hcut;have E5:=bt ba ks;have d2:wc.cell? ⟨w.heap.size,2,N⟩=M (J ra rs.length rc):=Aa ks c2;have o5:Hd (CS wc P W.heap.size wd (J g1 ts.length p1) nS ts rs 0):=CS.zero rs HP.o fc.o;have vk:Hd (Bw W wc):=ks;clear HP fc c0 c1 c2 i6 ks HX;go_wp2
  go_loopw [15] (λi wr=>∃(k:X)(v2:Z),k≤rs.length∧i=I k∧Hd (CS wr P W.heap.size wd (J g1 ts.length p1) v2 ts rs k)∧Bw W wr) (λi _=>rs.length-(intOf i).toNat)
  case atStart=>exact⟨0,_,Nat.zero_le _,rfl,o5.o,vk.o⟩
  case round=>
   obtain⟨k,v2,hk,rfl,HW,bu⟩:=hrel;have hw:Bw w wr:=bt ba bu;clear o5 d2
   by_cases au:k<rs.length
   ·obtain⟨rb,ro,rfl,ca,cc,la,lc,B2,us2,mu,ml,uy,r1,fh,r2,r3⟩:=(wy.o.bl hw) k au
    obtain⟨cb,cf,rfl⟩:∃cb cf,ca=M ⟨cb,cf,N⟩:=by
     rcases fh with h|⟨b,off,h⟩
     ·obtain⟨b,off,e,_⟩:=r1 0 qg
      exact⟨b,off,e⟩
     ·exact⟨b,off,h⟩
    obtain⟨sw,o7⟩:=HKK.o k au;have gi:(k:Int)<(rs.length:Int):=qg;obtain⟨AN,eX⟩:=Aj (wr.alloc (O #[J (M ⟨cb,cf,N⟩) (qx rs k).code.length cc,J la (qx rs k).looks.length lc,S (qx rs k).out] 56));obtain⟨q,eq⟩:=Aj wr.heap.size;have d0:AN.cell? ⟨q,0,N⟩=M (J (M ⟨cb,cf,N⟩) (qx rs k).code.length cc):=qgd;have d1:AN.cell? ⟨q,1,N⟩=M (J la (qx rs k).looks.length lc):=qgd;have d2:AN.cell? ⟨q,2,N⟩=M (S (qx rs k).out):=qgd;have xu:=aB eX;have F2:Hd (CS AN P W.heap.size wd (J g1 ts.length p1) v2 ts rs k):=HW.o.bl xu;have dP:=F2.o.cell.2.2;(have hXq:AN.heap.size=q+1:=by rw[←eX,←eq];simp);have hXq1:q+1≤AN.heap.size:=qg;have hXW:W.heap.size≤AN.heap.size:=Nat.le_trans bu.size xu.size;(have hPq:P<q:=by rw[←eq];exact An HW.o.blk);obtain⟨ys0,cv0,lv0,nd,_⟩:=HW.o.t;(have HVQ:Hd (M q≠v2.ownBlock):=λe=>by have:=(nd.lt q e.symm).2;omega);have vd:Hd (M P≠v2.ownBlock):=λe=>Ai.ne (T:=26) ⟨_,HW.o.blk⟩ nd qh e.symm;have hbP:Bw W AN:=bt bu xu;have I0:Hd (∀W':E,Bw AN W'→Calls prog 61 #[G #[J (M ⟨cb,cf,N⟩) (qx rs k).code.length cc,J la (qx rs k).looks.length lc,S (qx rs k).out]] W' λe w'=>Bw W' w'∧RecOutW W'.heap.size w' e (qx rs k).code (qx rs k).looks (qx rs k).out):=λW' P1=>Qj cb cf cc la lc (qx rs k).code (qx rs k).looks (qx rs k).out W' ((r1.bl xu).bl P1) (Ce (Ce r2 xu) P1) r3 sw o7;have HQ:Hd (AN.heap.size=q+1):=hXq;clear hXq nd HW bu xu r1 r2 r3 fh hw;obtain⟨ys,cv,lv,mz,vm⟩:=F2.o.t;have mw:Hd (AN.ownsRow W.heap.size 56 3 v2 k ys):=mz;have M0:Hd (Ep AN W.heap.size rs k ys cv lv):=vm;have rj:Hd (∀(AL AF:E)(nv c d:Z)(zs us:L Z),Bw AN AL→AL.ownsRow AN.heap.size 103 3 c (qx rs k).code.length zs→Cf (qx rs k).code (qx rs k).code.length zs→AL.ownsRow AN.heap.size 79 3 d (qx rs k).looks.length us→Be (qx rs k).looks (qx rs k).looks.length us→(∃g cap,c=J (p_ g) (qx rs k).code.length cap)→AL.grownBy AF v2.ownBlock→AF.ownsRow W.heap.size 56 3 nv (k+1) (ys++[c,d,S (qx rs k).out])→CS (AF.setCell ⟨P,2,N⟩ nv) P W.heap.size wd (J g1 ts.length p1) nv ts rs (k+1)):=λAL AF nv c d zs us j1 j2 j3 j4 j5 j6 j7 j8=>CS.put F2.o j1 hXW mw.o M0.o j2 j3 j4 j5 j6 j7 j8;clear mz vm;generalize qx rs k=s at *;go_wp2_with fail;refine Lt.begin 7 (λw'=>w'.cell? ⟨P,2,N⟩=M v2∧w'.cell? ⟨q,0,N⟩=M (J (M ⟨cb,cf,N⟩) s.code.length cc)∧w'.cell? ⟨q,1,N⟩=M (J la s.looks.length lc)∧w'.cell? ⟨q,2,N⟩=M (S s.out)) qk ?_;have aw:AN.drew.cell? ⟨P,2,N⟩=M v2∧AN.drew.cell? ⟨q,0,N⟩=M (J (M ⟨cb,cf,N⟩) s.code.length cc)∧AN.drew.cell? ⟨q,1,N⟩=M (J la s.looks.length lc)∧AN.drew.cell? ⟨q,2,N⟩=M (S s.out):=⟨dP,d0,d1,d2⟩;change K 0 _
    iterate 3
     refine Lt.ti (v:=?_) aw ?_ ?_;rotate_left 1
     ·exact qbn
     simp only[gX]
    refine Lt.sp (i:=3) (λK hK=>?_);go_simp;refine(I0.o _ ((Below.refl _ _).drew)).mono ?_;rintro e w6 ⟨cj,gc,cpc,dv,us6,rfl,zz,U0,hfd⟩;obtain⟨da,dc,rfl⟩:=Ax U0;have Io:Hd (Be s.looks s.looks.length us6):=hfd;have bv:Bw AN w6:=(Below.drew (Below.refl _ _)).trans (cj.mono qi);have t7:Hd (w6.ownsRow AN.heap.size 103 3 (J (p_ gc) s.code.length cpc) s.code.length (Cy s.code)):=Al zz qi;have HOD:Hd (w6.ownsRow AN.heap.size 79 3 (J da s.looks.length dc) s.looks.length us6):=Al U0 qi;refine hK.out _ _ (λ_=>⟨Aa bv dP,Aa bv d0,Aa bv d1,Aa bv d2⟩) (λia=>?_);replace ia:=ia qh;clear hK K aw cj zz U0 hfd;refine Lt.sp (i:=4) (λK hK=>?_);go_simp;refine hK.out _ _ (λ_=>⟨Bn ia.1,Bn ia.2.1,Bn ia.2.2.1,Bn ia.2.2.2⟩) (λfw=>?_);replace fw:=fw qh;clear hK K ia;refine Lt.sp (i:=5) (λK hK=>?_);refine Ot rfl qo W.heap.size v2 _ ys qo ((Ae mw.o bv).alloc _) w6.heap.size (J (p_ gc) s.code.length cpc) (J da s.looks.length dc) s.out rfl rfl qo (Am _ _) (by have:=bv.size;simp;omega) qg ?_;intro g' ai w7 bw ae;have J1:=bv.size;(have x0:w7.cell? ⟨P,2,N⟩=M v2:=by rw[ae.cell_far ⟨P,2,N⟩ qj vd.o];exact fw.1);(have x1:w7.cell? ⟨q,0,N⟩=M (J (M ⟨cb,cf,N⟩) s.code.length cc):=by rw[ae.cell_far ⟨q,0,N⟩ qj HVQ.o];exact fw.2.1);(have x2:w7.cell? ⟨q,1,N⟩=M (J la s.looks.length lc):=by rw[ae.cell_far ⟨q,1,N⟩ qj HVQ.o];exact fw.2.2.1);(have x3:w7.cell? ⟨q,2,N⟩=M (S s.out):=by rw[ae.cell_far ⟨q,2,N⟩ qj HVQ.o];exact fw.2.2.2);have ou:Hd (CS (w7.setCell ⟨P,2,N⟩ (J (p_ g') (k+1) ai)) P W.heap.size wd (J g1 ts.length p1) (J (p_ g') (k+1) ai) ts rs (k+1)):=rj.o _ w7 _ _ _ _ _ (bv.alloc qg _) (t7.o.alloc _) (Ez _) (HOD.o.alloc _) Io.o ⟨_,_,rfl⟩ ae bw;have uq:Bw W w7:=((hbP.trans (bv.mono qg)).alloc qg _).grown ae qj (λm hm=>by have:=(mw.o.lt m hm).1;omega);(have fz:w7.frozen? ⟨P,2,N⟩=false:=by rw[ae.frozen_far ⟨P,2,N⟩ qj vd.o];exact fH (by rw[Lib.alloc_old _ _ _ qg];exact(F2.o.bl bv).blk) 2);refine hK.out _ _ (λ_=>⟨x0,x1,x2,x3⟩) (λiy=>?_);replace iy:=iy qh;clear hK K fw ae bw;simp only[gX];refine Lt.ti (i:=6) (v:=?_) iy ?_ ?_;rotate_left 1
    ·exact qbn
    simp only[gX];refine Lt.sp (i:=7) (λK hK=>?_);go_simp;refine hK.out _ _ (λh=>absurd rfl h) (λ_=>?_);clear hK K iy;refine Lt.done qk ?_ _;go_wp2;go_roundw
    case rel=>exact⟨k+1,_,qg,qp,ou.o,uq.setCell (p:=⟨P,2,N⟩) U8 _⟩
    case measure=>simp[intOf];omega
   ·have ek:k=rs.length:=qg
    subst ek;have kbr:wr.heap[w.heap.size+1]?=M (O #[I 0,nS,nS] 26 (0,0)):=Ac iq.o bu;obtain⟨r0,r1,r2⟩:=Ab kbr;have fr:=fZ kbr;obtain⟨d0,d1,d2⟩:=HW.o.cell;obtain⟨o1,o2⟩:=HW.o.own (lo:=W.heap.size) (hi:=wr.heap.size) (Nat.le_refl _) (Nat.le_refl _);have fc:Hd (Cn wr W.heap.size wr.heap.size (J g1 ts.length p1) ts):=o1;have oq:Hd (Ct wr W.heap.size wr.heap.size v2 rs):=o2;obtain⟨a2,p2,rfl,_⟩:=o2.sl;clear kbr bu o1 o2 HW;go_wp2;refine bR (v:=G #[I wd,J g1 ts.length p1,J a2 rs.length p2]) (by simp[results,results37,go_sem,r0,r1,r2]) rfl ⟨((hw.setCell (p:=⟨w.heap.size+1,0,N⟩) qi _).setCell (p:=⟨w.heap.size+1,1,N⟩) qi _).setCell (p:=⟨w.heap.size+1,2,N⟩) qi _,_,_,_,rfl,?_,?_⟩
    ·exact qen
    ·exact qem
def Yg(w:E)(g lo n:X)(qv:Z)(ts:L By)(rs:L T3)(x:By)(e:Ending)(w':E):Prop:=
 ∃r cd ts' A B sv' ga' Gt,e=H (G #[I cd,I 0,nS,nS,S A,S B])∧Oe n ts (Ap n x) r∧Hc n ts x r cd ts' A B∧Below lo w w'∧ShO w' g lo w'.heap.size n sv' (J ga' ts'.length Gt) qv ts' rs
theorem Yg.mk{w:E}{g lo n r Gt:X}{ga':Option Addr}{sv' qv:Z}(ji:lo≤w.heap.size)(hB:Below lo w w')(hR:Ai w' w.heap.size 31)(hp:Oe n ts (Ap n x) r)(hr:Hc n ts x r cd ts' A B)(hg:g<w.heap.size)(dx:ShO w' g lo w'.heap.size n sv' (J ga' ts'.length Gt) qv ts' rs)(u1 u2 u3 u4 u5 u6:Z):Yg w g lo n qv ts rs x (H (G #[I cd,I 0,nS,nS,S A,S B])) ((((((w'.setCell ⟨w.heap.size,0,N⟩ u1).setCell ⟨w.heap.size,1,N⟩ u2).setCell ⟨w.heap.size,2,N⟩ u3).setCell ⟨w.heap.size,3,N⟩ u4).setCell ⟨w.heap.size,4,N⟩ u5).setCell ⟨w.heap.size,5,N⟩ u6):=
 ⟨r,cd,ts',A,B,sv',ga',Gt,rfl,hp,hr,Dh hB ji _ _ _ _ _ _,Jz.wide (Jz.set6T dx hR qg u1 u2 u3 u4 u5 u6) (Nat.le_refl _) qi⟩
theorem put_nil(g lo hi n p1:X)(ga:Option Addr)(sv qv:Z)(ts:L By)(rs:L T3)(x:By)(w:E)(h1:1≤n)(h8:n≤8)(hx:x.size≤1048576)(hl:ts.length≤5000)(l8:Fg (ts.map (Ap n)))(hlg:lo≤g)(hh:hi≤w.heap.size)(dx:ShO w g lo hi n sv (J ga ts.length p1) qv ts rs):Calls prog 21 #[D (p_ g),S x] w λe w'=>Yg w g lo n qv ts rs x e w':=by
 obtain⟨sa,sc,esv,hss⟩:=Cn.sl dx.sx;rw[List.length_map]at esv;subst esv;obtain⟨qa,qc,rfl,_⟩:=dx.qs.sl;have uo:g<w.heap.size:=Jz.lt dx;have ji:lo≤w.heap.size:=qg;obtain⟨W,eW⟩:=Aj (w.alloc (O #[I 0,I 0,nS,nS,ze,ze] 31));have ba:=aB eW;have HK:Hd (W.heap[w.heap.size]?=M (O #[I 0,I 0,nS,nS,ze,ze] 31 (0,0))):=by show _=_;rw[←eW];exact Am _ _
 have te:Hd (Jz w g lo hi n (J sa ts.length sc) (J ga ts.length p1) (J qa rs.length qc) (ts.map (Ap n)) ts rs):=dx;have rz:Hd (Fg (ts.map (Ap n))):=l8;have HSS:Hd (Cs w sa (ts.map (Ap n))):=hss;obtain⟨c0,c1,c2,c3,cf⟩:=Lp (te.o.bl ba).blk;obtain⟨sm,esm⟩:=Aj (Ap n x);have mx:Hd (∀W':E,Calls prog 11 #[S x,I (n:Int)] W' λe w'=>e=H (S sm)∧Bw W' w'):=λW'=>by rw[←esm];exact Lm x n W' hx h1 h8
 have ESM:Hd (Ap n x=sm):=esm
 have HBS:Hd (∀W':E,Cs W' sa (ts.map (Ap n))→Calls prog 38 #[J sa ts.length sc,S sm] W' λe w'=>W'=w'∧∃(r:X)(b:Bool),e=H (Y #[I r,F b])∧Oe n ts sm r∧(b=true↔(r<ts.length∧Ap n (nx ts r)=sm))):=λW' hW=>by
  have h:=Qk sa sc (ts.map (Ap n)) sm W' hW (by rw[List.length_map];omega) rz.o;rw[List.length_map]at h;refine h.mono ?_;rintro e w' ⟨rfl,r,b,rfl,k1,k2,k3,k4⟩;refine⟨rfl,r,b,rfl,⟨k1,λj hj=>?_,λhj=>?_⟩,?_⟩
  ·rw[←Gj n ts j qg];exact k2 j hj
  ·rw[←Gj n ts r hj];exact k3 r (Nat.le_refl _) hj
  ·rcases k4 with⟨rfl,k5,k6⟩|⟨rfl,k5⟩
   ·exact⟨λ_=>⟨k5,by rw[←Gj n ts r k5];exact k6⟩,λ_=>rfl⟩
   ·exact⟨λh=>absurd h qh,λh=>absurd ⟨h.1,by rw[Gj n ts r h.1];exact h.2⟩ k5⟩
 clear esm dx l8 hss;go_enter func21,ntmps21;go_wp2_with fail;clear eW;refine(mx.o _).mono ?_;rintro e w1 ⟨rfl,ah⟩;have db:Bw w w1:=bt ba ah;have iq:Hd (w1.heap[w.heap.size]?=M (O #[I 0,I 0,nS,nS,ze,ze] 31 (0,0))):=Ac HK.o ah;have xy:Hd (Jz w1 g lo hi n (J sa ts.length sc) (J ga ts.length p1) (J qa rs.length qc) (ts.map (Ap n)) ts rs):=te.o.bl db;have gm:w.heap.size<w1.heap.size:=An iq.o;clear c0 c1 c2 c3 cf ba ah HK;obtain⟨c0,c1,c2,c3,cf⟩:=Lp xy.o.blk;go_wp2_with fail;refine(HBS.o _ (HSS.o.bl db)).mono ?_;rintro e w2 ⟨hw2,r,t,rfl,hp,hr⟩;subst hw2;have pe:Hd (Oe n ts (Ap n x) r):=by show Oe _ _ _ _;rw[ESM.o];exact hp
 have ju:Hd (t=true↔Eh n ts x r):=by show _↔_;unfold Eh;rw[ESM.o];exact hr
 have D0:r≤ts.length:=hp.le;clear hp hr HBS mx;obtain⟨r0,r1,r2,r3,r4,r5⟩:=Bx iq.o;have rf:=(λj=>fH iq.o j);have C3:Hd (Ai w1 w.heap.size 31):=⟨_,iq.o⟩;have X1:Hd (ShO w1 g lo w1.heap.size n (J sa ts.length sc) (J ga ts.length p1) (J qa rs.length qc) ts rs):=Jz.wide xy.o (Nat.le_refl _) qg;cases t
 ·have M3:Hd (¬ Eh n ts x r):=λh=>by have:=ju.o.2 h;cases this
  by_cases h5:5000≤ts.length
  ·have HP:Hd (Hc n ts x r 3 ts ⟨#[]⟩ ⟨#[]⟩):=Or.inr (Or.inr (Or.inl ⟨M3.o,h5,rfl,rfl,rfl,rfl⟩))
   have e5:ts.length=5000:=qg;(have d5:(((ts.length:X):Int) == 5000)=true:=by rw[e5];rfl);clear e5 ju;go_wp2;refine bR (v:=G #[I 3,I 0,nS,nS,ze,ze]) qdf rfl (Yg.mk ji (db.mono ji) C3.o pe.o HP.o uo X1.o _ _ _ _ _ _)
  ·have HP:Hd (Hc n ts x r 0 (Fp ts x r) ⟨#[]⟩ ⟨#[]⟩):=Or.inr (Or.inr (Or.inr ⟨M3.o,h5,rfl,rfl,rfl,rfl⟩))
   (have d5:(((ts.length:X):Int) == 5000)=false:=by rw[beq_eq_false_iff_ne];omega);clear ju M3 X1 C3;obtain⟨w2,e2⟩:=Aj (w1.alloc (O #[S sm] 9));have a9:=aB e2;(have ww:Hd (w2.heap[w1.heap.size]?=M (O #[S sm] 9 (0,0))):=by show _=_;rw[←e2];exact Am _ _);have fl:w1.heap.size<w2.heap.size:=An ww.o
   have No:Hd (Calls prog 39 #[J sa ts.length sc,I r,J (p_ w1.heap.size) 1 1] w2 λe w'=>∃g' cp,e=H (J (p_ g') (ts.length+1) cp)∧w'.ownsRow lo 9 1 (J (p_ g') (ts.length+1) cp) (ts.length+1) ((Fp (ts.map (Ap n)) sm r).map Value.string)∧Below lo w2 w'∧Ih (Value.slice sa ts.length sc).ownBlock w2 w'∧((Value.slice sa ts.length sc).ownBlock=M g'∨g'=w2.heap.size)):=by
    have ho:w2.ownsRow lo 9 1 (J sa ts.length sc) ts.length ((ts.map (Ap n)).map Value.string):=by
     have:=Ck.own (xy.o.bl a9).sx;rw[List.length_map]at this;exact this
    rw[Np];exact Pv lo ts.length r w1.heap.size _ _ (S sm) w2 ho qg D0 qg ww.o (λe=>by have:=Ck.top xy.o.sx _ e;omega) (Gg _) qao
   have ke:Hd (Bw w1 w2):=a9;clear a9;go_wp2_with fail;clear e2;refine No.o.mono ?_;rintro e w3 ⟨g3,p3,rfl,ho3,bh,o7,hl3⟩;have O2:w2.heap.size≤w3.heap.size:=bh.size;have H7:=(xy.o.bl ke.o).blk
   have kg3:w3.heap[g]?=M (O #[I (n:Int),J ga ts.length p1,J qa rs.length qc,J sa ts.length sc] 62 (0,0)):=by
    rw[o7 g qg (λe=>Ai.ne (T:=62) ⟨_,H7⟩ (Ck.own (xy.o.bl ke.o).sx) qh e.symm)];exact H7
   have ky:Hd (w3.heap[w.heap.size]?=M (O #[I 0,I 0,nS,nS,ze,ze] 31 (0,0))):=by
    show _=_;rw[o7 _ qg (λe=>by have:=Ck.top xy.o.sx _ e.symm;omega)];exact Ac iq.o ke.o
   have HSI:Hd (Jz (w3.setCell ⟨g,3,N⟩ (J (p_ g3) (ts.length+1) p3)) g lo w3.heap.size n (J (p_ g3) (ts.length+1) p3) (J ga ts.length p1) (J qa rs.length qc) (Fp (ts.map (Ap n)) sm r) ts rs):=
    Jz.insS xy.o qg ke.o (by rw[Hm _ _ _ (by rw[List.length_map];exact D0),List.length_map]) ho3 o7 O2 hl3
   have HBL3:Hd (Below lo w w3):=(db.mono ji).trans ((ke.o.mono qg).trans bh);clear c0 c1 c2 c3 cf r0 r1 r2 r3 r4 r5 rf H7 ho3 bh o7 hl3 No ww;obtain⟨c0,c1,c2,c3,cf⟩:=Lp kg3;obtain⟨w4,e4⟩:=Aj (w3.setCell ⟨g,3,N⟩ (J (p_ g3) (ts.length+1) p3));(have i8:Hd (Jz w4 g lo w3.heap.size n (J (p_ g3) (ts.length+1) p3) (J ga ts.length p1) (J qa rs.length qc) (Fp (ts.map (Ap n)) sm r) ts rs):=by show Jz _ _ _ _ _ _ _ _ _ _ _;rw[←e4];exact HSI.o);have hs4:w3.heap.size≤w4.heap.size∧w4.heap.size≤w3.heap.size:=by rw[←e4];simp
   have F4:Hd (w4.heap[w.heap.size]?=M (O #[I 0,I 0,nS,nS,ze,ze] 31 (0,0))):=by
    show _=_;rw[←e4,hC w3 ⟨g,3,N⟩ _ w.heap.size (by show w.heap.size≠g;omega)];exact ky.o
   (have HBL4:Hd (Below lo w w4):=by show Below _ _ _;rw[←e4];exact HBL3.o.setCell (p:=⟨g,3,N⟩) hlg _);obtain⟨x0,x1,x2,x3,xf⟩:=Lp i8.o.blk;obtain⟨w5,e5⟩:=Aj (w4.alloc (O #[S x] 9));(have HB5:Hd (Bw w4 w5):=by show Below _ _ _;rw[←e5];exact aN _ _);(have HV5:Hd (w5.heap[w4.heap.size]?=M (O #[S x] 9 (0,0))):=by show _=_;rw[←e5];exact Am _ _);have hs5:w4.heap.size<w5.heap.size:=An HV5.o
   have No:Hd (Calls prog 39 #[J ga ts.length p1,I r,J (p_ w4.heap.size) 1 1] w5 λe w'=>∃g' cp,e=H (J (p_ g') (ts.length+1) cp)∧w'.ownsRow lo 9 1 (J (p_ g') (ts.length+1) cp) (ts.length+1) ((Fp ts x r).map Value.string)∧Below lo w5 w'∧Ih (Value.slice ga ts.length p1).ownBlock w5 w'∧((Value.slice ga ts.length p1).ownBlock=M g'∨g'=w5.heap.size)):=by
    rw[Np];exact Pv lo ts.length r w4.heap.size _ _ (S x) w5 (Ck.own (i8.o.bl HB5.o).tx) qg D0 qg HV5.o (λe=>by have:=Ck.top i8.o.tx _ e;omega) (Gg _) qao
   go_wp2_with fail;clear e4 e5;refine No.o.mono ?_;rintro e w6 ⟨g6,p6,rfl,ho6,cj,hk6,hl6⟩;have hs6:w5.heap.size≤w6.heap.size:=cj.size;have O6:=(i8.o.bl HB5.o).blk
   have kg6:w6.heap[g]?=M (O #[I (n:Int),J ga ts.length p1,J qa rs.length qc,J (p_ g3) (ts.length+1) p3] 62 (0,0)):=by
    rw[hk6 g qg (λe=>Ai.ne (T:=62) ⟨_,O6⟩ (Ck.own (i8.o.bl HB5.o).tx) qh e.symm)];exact O6
   have kr6:w6.heap[w.heap.size]?=M (O #[I 0,I 0,nS,nS,ze,ze] 31 (0,0)):=by
    rw[hk6 _ qg (λe=>by have:=Ck.top te.o.tx _ e.symm;omega)];exact Ac F4.o HB5.o
   have HSJ:Hd (Jz (w6.setCell ⟨g,1,N⟩ (J (p_ g6) (ts.length+1) p6)) g lo w6.heap.size n (J (p_ g3) (ts.length+1) p3) (J (p_ g6) (ts.length+1) p6) (J qa rs.length qc) (Fp (ts.map (Ap n)) sm r) (Fp ts x r) rs):=
    Jz.insT i8.o qg HB5.o (Hm _ _ _ D0).symm ho6 hk6 hs6 hl6
   have HBL6:Hd (Below lo w (w6.setCell ⟨g,1,N⟩ (J (p_ g6) (ts.length+1) p6))):=(HBL4.o.trans ((HB5.o.mono qg).trans cj)).setCell (p:=⟨g,1,N⟩) hlg _;have HHT6:Hd (Ai (w6.setCell ⟨g,1,N⟩ (J (p_ g6) (ts.length+1) p6)) w.heap.size 31):=Ai.set ⟨_,kr6⟩ _
   have X1:Hd (ShO (w6.setCell ⟨g,1,N⟩ (J (p_ g6) (ts.length+1) p6)) g lo (w6.setCell ⟨g,1,N⟩ (J (p_ g6) (ts.length+1) p6)).heap.size n (J (p_ g3) (ts.length+1) p3) (J (p_ g6) (Fp ts x r).length p6) (J qa rs.length qc) (Fp ts x r) rs):=by
    unfold ShO;show Jz _ _ _ _ _ _ _ _ _ _ _;rw[map_insX,ESM.o,Hm _ _ _ D0];exact Jz.wide HSJ.o (Nat.le_refl _) qi
   have aq:w.heap.size≠g:=qg;clear c0 c1 c2 c3 cf x0 x1 x2 x3 xf O6 ho6 cj hk6 hl6 No HV5 HSJ;obtain⟨c0,c1,c2,c3,cf⟩:=Lp kg6;obtain⟨r0,r1,r2,r3,r4,r5⟩:=Bx kr6;have rf:=(λj=>fH kr6 j);go_wp2;refine bR (v:=G #[I 0,I 0,nS,nS,ze,ze]) qdf rfl (Yg.mk ji HBL6.o HHT6.o pe.o HP.o uo X1.o _ _ _ _ _ _)
 ·obtain⟨h3,h4⟩:=ju.o.1 rfl
  have W9:Hd (Eh n ts x r):=⟨h3,h4⟩;have hrI:(r:Int)<(ts.length:Int):=qg;obtain⟨a',c',ea,du⟩:=Cn.sl xy.o.tx;cases ea;obtain⟨b',bq,rfl,k1⟩:=du.nx r h3;clear du
  by_cases aq:nx ts r=x
  ·have HP:Hd (Hc n ts x r 0 ts ⟨#[]⟩ ⟨#[]⟩):=Or.inr (Or.inl ⟨W9.o,aq,rfl,rfl,rfl,rfl⟩)
   have jj:=Eu aq;clear ju W9 h4 aq;generalize nx ts r=z at k1 jj;go_wp2;refine bR (v:=G #[I 0,I 0,nS,nS,ze,ze]) qdf rfl (Yg.mk ji (db.mono ji) C3.o pe.o HP.o uo X1.o _ _ _ _ _ _)
  ·have HP:Hd (Hc n ts x r 2 ts (nx ts r) x):=Or.inl ⟨W9.o,aq,rfl,rfl,rfl,rfl⟩
   have jj:=Fx aq;clear ju W9 h4 aq;generalize nx ts r=z at k1 jj HP;go_wp2;refine bR (v:=G #[I 2,I 0,nS,nS,S z,S x]) qdf rfl (Yg.mk ji (db.mono ji) C3.o pe.o HP.o uo X1.o _ _ _ _ _ _)
def KpN(lo:X)(w:E)(e:Ending)(n:Int)(ts:L By)(x:By):Prop:=∃cd wd ts' my A B a1 c1,e=H (G #[I cd,I wd,J a1 ts'.length c1,nS,S A,S B])∧Og n ts [] x cd wd ts' my A B∧Cn w lo w.heap.size (J a1 ts'.length c1) ts'
theorem KpN.zero{lo:X}{w:E}(h:Og n ts [] x cd 0 [] [] A B):KpN lo w (H (G #[I cd,I 0,nS,nS,S A,S B])) n ts x:=
 ⟨cd,0,[],[],A,B,N,0,rfl,h,Cn.nil _ _ _⟩
theorem KpN.full{lo c1:X}{a1:Option Addr}{w:E}(h:Og n ts [] x cd wd ts' [] A B)(h1:Cn w lo' hi' (J a1 ts'.length c1) ts')(hR:R<lo')(hl:lo≤lo')(hh:hi'≤w.heap.size)(u1 u2 u3 u4 u5 u6:Z):KpN lo ((((((w.setCell ⟨R,0,N⟩ u1).setCell ⟨R,1,N⟩ u2).setCell ⟨R,2,N⟩ u3).setCell ⟨R,3,N⟩ u4).setCell ⟨R,4,N⟩ u5).setCell ⟨R,5,N⟩ u6) (H (G #[I cd,I wd,J a1 ts'.length c1,nS,S A,S B])) n ts x:=
 ⟨cd,wd,ts',[],A,B,a1,c1,rfl,h,(h1.set6 hR _ _ _ _ _ _).wide hl (by simpa using hh)⟩
theorem Uy(n:Int)(xa:Option Addr)(tc:X)(ra:Option Addr)(rc:X)(ts:L By)(rs:L T3)(w:E)(pj:∀a,xa=M a→∃b off,a=⟨b,off,N⟩)(n9:xa=N→ts=[]∧tc=0)(hT:Tf w)(h:Jy w xa ts ra rs)(rp:Hy w ra rs):Calls prog 20 #[G #[I n,J xa ts.length tc,J ra rs.length rc]] w λe w'=>Bw w w'∧((¬ Cz n ts rs∧e=H (Y #[D N,F false]))∨(Cz n ts rs∧∃(g:X)(g1:Option Addr)(p1:X)(sv qv:Z),e=H (Y #[D (p_ g),F true])∧w.heap.size≤g∧ShO w' g w.heap.size w'.heap.size n.toNat sv (J g1 ts.length p1) qv ts rs)):=by
 have ba:Bw w (w.alloc (O #[I n,J xa ts.length tc,J ra rs.length rc] 26)):=aN _ _;have k0:(w.alloc (O #[I n,J xa ts.length tc,J ra rs.length rc] 26)).cell? ⟨w.heap.size,0,N⟩=M (I n):=qr;have k1:(w.alloc (O #[I n,J xa ts.length tc,J ra rs.length rc] 26)).cell? ⟨w.heap.size,1,N⟩=M (J xa ts.length tc):=qr;have k2:(w.alloc (O #[I n,J xa ts.length tc,J ra rs.length rc] 26)).cell? ⟨w.heap.size,2,N⟩=M (J ra rs.length rc):=qr;have HI:Hd (Jy w xa ts ra rs):=h;have wy:Hd (Hy w ra rs):=rp;have gz:=h.lt;have HT:Hd (Tf w):=hT;clear h hT rp;go_enter func20,ntmps20;go_wp2_with fail;refine(Me n _ ra tc rc ts rs _ (HT.o.bl ba) (HI.o.bl ba)).mono ?_;rintro e w1 ⟨ah,⟨hw,v,rfl⟩|⟨hw,g,sg,rfl,dx,_,H0,T9⟩⟩
 ·have HW:Hd (¬ Cz n ts rs):=hw
  have db:=bt ba ah;clear hw ah ba;go_wp2_with fail;exact bR (results_tmp2 rfl _ _ _) rfl ⟨db,Or.inl ⟨HW.o,rfl⟩⟩
 ·obtain⟨m,rfl⟩:=Int.eq_ofNat_of_zero_le (show 0≤n by have:=hw.1;omega)
  have HW:Hd (Cz m ts rs):=hw;have db:=bt ba ah;have c0:=Aa ah k0;have c1:=Aa ah k1;have c2:=Aa ah k2;have hge':w.heap.size≤g:=Nat.le_trans ba.size H0;have te:Hd (w1.heap[g]?=M (O #[I (m:Int),J xa ts.length tc,J ra rs.length rc,J (p_ sg) ts.length ts.length] 62 (0,0))):=dx
  have lp:Hd (Cn w1 w.heap.size w1.heap.size (J (p_ sg) ts.length ts.length) (ts.map (Ap m))):=by
   have h:=Ck.new (Al T9 ba.size);unfold Cn;rw[List.length_map];exact h
  have HCY:Hd (∀_:Unit,Calls prog 37 #[G #[I (m:Int),J xa ts.length tc,J ra rs.length rc]] w1 λe w'=>Bw w1 w'∧∃(g1:Option Addr)(p1:X)(v2:Z),e=H (G #[I (m:Int),J g1 ts.length p1,v2])∧Cn w' w1.heap.size w'.heap.size (J g1 ts.length p1) ts∧Ct w' w1.heap.size w'.heap.size v2 rs):=λ_=>Sc m xa tc ra rc ts rs w1 pj n9 (HI.o.st.bl db) (wy.o.bl db) gz (zo hw.2.2.2.1) (λi hi=>(hw.recs i hi).2);have gm:w.heap.size≤w1.heap.size:=db.size;clear hw dx T9 ba ah k0 k1 k2 H0;go_wp2_with fail;refine(HCY.o ()).mono ?_;rintro e w2 ⟨a9,g1,p1,v2,rfl,o1,o2⟩;obtain⟨a2,p2,rfl,_⟩:=o2.sl;have kg:=Ac te.o a9;have HKG:Hd (w2.heap[g]?=M (O #[I (m:Int),J xa ts.length tc,J ra rs.length rc,J (p_ sg) ts.length ts.length] 62 (0,0))):=kg;have ht:Ai w2 g 62:=⟨_,kg⟩;have fl:w1.heap.size≤w2.heap.size:=a9.size;have bp:=bt db a9;have jm:Hd (Cn w2 w.heap.size w2.heap.size (J (p_ sg) ts.length ts.length) (ts.map (Ap m))):=(lp.o.bl a9).wide (Nat.le_refl _) fl;have jl:Hd (Cn w2 w.heap.size w2.heap.size (J g1 ts.length p1) ts):=o1.wide gm (Nat.le_refl _);have HQX:Hd (Ct w2 w.heap.size w2.heap.size (J a2 rs.length p2) rs):=o2.wide gm (Nat.le_refl _)
  have F6:Hd (∀b,(Value.slice (p_ sg) ts.length ts.length).ownBlock=M b→(Value.slice g1 ts.length p1).ownBlock≠M b):=λb e e'=>by
   have h1:=lp.o.top b e;have h2:=((Ck.own o1).lt b e').1;omega
  obtain⟨q0,q1,q2,q3,qf⟩:=Lp kg;have C3:Hd (Ai w2 g 62):=ht;clear o1 o2 kg ht a9 c0 c1 c2 HCY;go_wp2_with fail;refine bR (results_tmp2 rfl _ _ _) rfl ?_;refine⟨Eg bp hge' _ _ _,Or.inr ⟨HW.o,g,g1,p1,J (p_ sg) ts.length ts.length,J a2 rs.length p2,rfl,hge',?_⟩⟩;have iz:(((w2.setCell ⟨g,0,N⟩ (I (m:Int))).setCell ⟨g,1,N⟩ (J g1 ts.length p1)).setCell ⟨g,2,N⟩ (J a2 rs.length p2)).heap.size=w2.heap.size:=qi;exact⟨blk4_set3 HKG.o _ _ _,by rw[iz];exact((jm.o.setT C3.o qh _).setT (C3.o.set _) qh _).setT ((C3.o.set _).set _) qh _,by rw[iz];exact((jl.o.setT C3.o qh _).setT (C3.o.set _) qh _).setT ((C3.o.set _).set _) qh _,by rw[iz];exact((HQX.o.setT C3.o qh qh qh _).setT (C3.o.set _) qh qh qh _).setT ((C3.o.set _).set _) qh qh qh _,F6.o⟩
theorem Ns(n:Int)(xa:Option Addr)(tc:X)(ra:Option Addr)(rc:X)(ts:L By)(rs:L T3)(x:By)(w:E)(pj:∀a,xa=M a→∃b off,a=⟨b,off,N⟩)(n9:xa=N→ts=[]∧tc=0)(hT:Tf w)(h:Jy w xa ts ra rs)(rp:Hy w ra rs)(hx:x.size≤1048576):Calls prog 6 #[G #[I n,J xa ts.length tc,J ra rs.length rc],S x] w λe w'=>Bw w w'∧Hr w.heap.size w' e n ts rs x:=by
 obtain⟨W,eW⟩:=Aj ((w.alloc (O #[I n,J xa ts.length tc,J ra rs.length rc] 26)).alloc (O #[I 0,I 0,nS,nS,ze,ze] 31));have ba:Bw w W:=by rw[←eW];exact(aN _ _).alloc qi _
 have fe:W.heap[w.heap.size]?=M (O #[I n,J xa ts.length tc,J ra rs.length rc] 26 (0,0)):=qap;have fh:W.heap[w.heap.size+1]?=M (O #[I 0,I 0,nS,nS,ze,ze] 31 (0,0)):=qaq;have sy:w.heap.size+1+1≤W.heap.size:=qai;obtain⟨c0,c1,c2⟩:=Ab fe;have iq:Hd (W.heap[w.heap.size+1]?=M (O #[I 0,I 0,nS,nS,ze,ze] 31 (0,0))):=fh;have HI:Hd (Jy w xa ts ra rs):=h;have wy:Hd (Hy w ra rs):=rp;have HT:Hd (Tf w):=hT;clear hT h rp fe fh;go_enter func6,ntmps6;go_wp2_with fail;clear eW;refine(Uy n xa tc ra rc ts rs W pj n9 (HT.o.bl ba) (HI.o.bl ba) (wy.o.bl ba)).mono ?_;rintro e w1 ⟨ah,hcs⟩;have db:=bt ba ah;have kz:Hd (w1.heap[w.heap.size+1]?=M (O #[I 0,I 0,nS,nS,ze,ze] 31 (0,0))):=Ac iq.o ah;have D9:W.heap.size≤w1.heap.size:=ah.size;clear ah c0 c1 c2 iq ba;obtain⟨r0,r1,r2,r3,r4,r5⟩:=Bx kz.o;have rf:=(λj=>fH kz.o j)
 rcases hcs with⟨hw,rfl⟩|⟨hw,g,g1,p1,sv,qv,rfl,H0,dx⟩
 ·have Q9:Hd (Og n ts rs x 1 0 [] [] ⟨#[]⟩ ⟨#[]⟩):=Or.inl ⟨λh=>hw h.1,rfl,rfl,rfl,rfl,rfl,rfl⟩
  clear hw;exact qil
 ·by_cases hx2:x.size≤2002
  ·have d20:decide ((2002:Int)<(x.size:Int))=false:=qj
   obtain⟨m,rfl⟩:=Int.eq_ofNat_of_zero_le (show 0≤n by have:=hw.1;omega);have te:Hd (ShO w1 g W.heap.size w1.heap.size m sv (J g1 ts.length p1) qv ts rs):=dx;have rj:Hd (Calls prog 21 #[D (p_ g),S x] w1 λe w'=>Yg w1 g W.heap.size m qv ts rs x e w'):=put_nil g W.heap.size w1.heap.size m p1 g1 sv qv ts rs x w1 (zo hw.1) (zo hw.2.1) hx hw.2.2.1.1 hw.2.2.1.2.2 H0 (Nat.le_refl _) dx;have im:Hd (Cz m ts rs∧x.size≤2002):=⟨hw,hx2⟩;clear hw dx;go_wp2_with fail;refine rj.o.mono ?_;rintro e w2 ⟨r,cd,ts',A,B,sv',g1',Gt,rfl,hp,hr,di,G5⟩;have Q9:Hd ((cd=0∧A=⟨#[]⟩∧B=⟨#[]⟩∧Og (m:Int) ts rs x 0 m ts' rs ⟨#[]⟩ ⟨#[]⟩)∨(cd≠0∧Og (m:Int) ts rs x cd 0 [] [] A B)):=Og.put im.o hp hr;have X1:Hd (Jz w2 g W.heap.size w2.heap.size m sv' (J g1' ts'.length Gt) qv (ts'.map (Ap m)) ts' rs):=G5;have fl:w1.heap.size≤w2.heap.size:=di.size;have ke:Hd (Bw w w2):=db.trans (di.mono qg);(have L7:Hd (w2.heap[w.heap.size+1]?=M (O #[I 0,I 0,nS,nS,ze,ze] 31 (0,0))):=by show _=_;rw[di.block _ qg];exact kz.o);obtain⟨qa,qc,rfl,_⟩:=G5.qs.sl;clear r0 r1 r2 r3 r4 r5 rf hp hr di G5 rj;obtain⟨w3,e3⟩:=Aj (w2.alloc (O #[I cd,I 0,nS,nS,S A,S B] 31));have bh:Bw w2 w3:=qcn;(have kk:w3.heap[w2.heap.size]?=M (O #[I cd,I 0,nS,nS,S A,S B] 31 (0,0)):=by rw[←e3];exact Am _ _);have kr:=Ac L7.o bh;have L4:Hd (Jz w3 g W.heap.size w2.heap.size m sv' (J g1' ts'.length Gt) (J qa rs.length qc) (ts'.map (Ap m)) ts' rs):=X1.o.bl bh;have Ge:Hd (Bw w w3):=bt ke.o bh;have O2:w2.heap.size<w3.heap.size:=An kk;obtain⟨r0,r1,r2,r3,r4,r5⟩:=Bx kr;have rf:=(λj=>fH kr j);obtain⟨q0,q1,q2,q3,q4,q5⟩:=Bx kk;have qf:=(λj=>fH kk j);have HTK:Hd (Ai w3 w2.heap.size 31):=⟨_,kk⟩;have ju:Hd (Ai w3 (w.heap.size+1) 31):=⟨_,kr⟩;obtain⟨c0,c1,c2,c3,cf⟩:=Lp L4.o.blk;clear kk kr bh
   go_upto_region 5 with fail
   clear e3
   rcases Q9.o with⟨hc,hA,hB,tr⟩|⟨hc,tr⟩
   ·subst hc hA hB
    have HK:Hd (Og (m:Int) ts rs x 0 m ts' rs ⟨#[]⟩ ⟨#[]⟩):=tr;clear tr Q9;have aq:w.heap.size+1≠w2.heap.size:=qg;have uo:g<w2.heap.size:=Jz.lt X1.o;go_wp2_with fail;have HX:Hd (Cn (((w3.setCell ⟨w2.heap.size,1,N⟩ (I (m:Int))).setCell ⟨w2.heap.size,2,N⟩ (J g1' ts'.length Gt)).setCell ⟨w2.heap.size,3,N⟩ (J qa rs.length qc)) W.heap.size w2.heap.size (J g1' ts'.length Gt) ts'):=((L4.o.tx.setT HTK.o qh _).setT (HTK.o.set _) qh _).setT ((HTK.o.set _).set _) qh _;have HQ:Hd (Ct (((w3.setCell ⟨w2.heap.size,1,N⟩ (I (m:Int))).setCell ⟨w2.heap.size,2,N⟩ (J g1' ts'.length Gt)).setCell ⟨w2.heap.size,3,N⟩ (J qa rs.length qc)) W.heap.size w2.heap.size (J qa rs.length qc) rs):=((L4.o.qs.setT HTK.o qh qh qh _).setT (HTK.o.set _) qh qh qh _).setT ((HTK.o.set _).set _) qh qh qh _;have HB4:Hd (Bw w (((w3.setCell ⟨w2.heap.size,1,N⟩ (I (m:Int))).setCell ⟨w2.heap.size,2,N⟩ (J g1' ts'.length Gt)).setCell ⟨w2.heap.size,3,N⟩ (J qa rs.length qc))):=((Ge.o.setCell (p:=⟨w2.heap.size,1,N⟩) qft _).setCell (p:=⟨w2.heap.size,2,N⟩) qft _).setCell (p:=⟨w2.heap.size,3,N⟩) qft _;refine bR (v:=G #[I 0,I (m:Int),J g1' ts'.length Gt,J qa rs.length qc,ze,ze]) qfb rfl ⟨Dh HB4.o (Nat.le_succ _) _ _ _ _ _ _,Hr.full HK.o HX.o HQ.o qg qg qj _ _ _ _ _ _⟩
   ·have HK:Hd (Og (m:Int) ts rs x cd 0 [] [] A B):=tr
    have dc:(cd == 0)=false:=qbj;clear tr Q9 hc;go_wp2;refine bR (v:=G #[I cd,I 0,nS,nS,S A,S B]) qfb rfl ⟨Dh Ge.o (Nat.le_succ _) _ _ _ _ _ _,Hr.zero HK.o⟩
  ·have Q9:Hd (Og n ts rs x 1 0 [] [] ⟨#[]⟩ ⟨#[]⟩):=Or.inl ⟨λh=>hx2 h.2,rfl,rfl,rfl,rfl,rfl,rfl⟩
   have d20:decide ((2002:Int)<(x.size:Int))=true:=qj;clear hw dx;exact qil
theorem kps_out{lo:X}{w0:E}{e:Ending}{m g1:X}{a2:Option Addr}{p2:X}(h:KpS lo w0 e w' m g1 a2 rs.length p2 ts x)(cm:Cz m ts rs∧x.size≤2002)(o2:Ct w0 lo w0.heap.size (J a2 rs.length p2) rs)(hb:Bw w0 w'):Hr lo w' e m ts rs x:=by
 obtain⟨r,cd,T',A,B,hp,hr,h⟩:=h
 rcases Og.put cm hp hr with⟨rfl,rfl,rfl,k⟩|⟨aq,k⟩
 ·rcases h with⟨hc,_⟩|⟨_,_,_,g,p,rfl,ho,_⟩
  ·exact absurd rfl hc
  ·exact⟨0,m,T',rs,_,_,_,_,rfl,k,Ck.new ho,(o2.bl hb).wide (Nat.le_refl _) hb.size⟩
 ·rcases h with⟨_,rfl⟩|⟨h0,_⟩
  ·exact Hr.zero k
  ·exact absurd h0 aq
theorem Na(n:Int)(xa:Option Addr)(tc:X)(ra:Option Addr)(rc:X)(ts:L By)(rs:L T3)(x:By)(w:E)(pj:∀a,xa=M a→∃b off,a=⟨b,off,N⟩)(n9:xa=N→ts=[]∧tc=0)(h:Jy w xa ts ra rs)(rp:Hy w ra rs)(hx:x.size≤1048576):Calls prog 7 #[G #[I n,J xa ts.length tc,J ra rs.length rc],S x] w λe w'=>Bw w w'∧Hr w.heap.size w' e n ts rs x:=by
 obtain⟨W,eW⟩:=Aj ((w.alloc (O #[I n,J xa ts.length tc,J ra rs.length rc] 26)).alloc (O #[I 0,I 0,nS,nS,ze,ze] 31));have ba:Bw w W:=by rw[←eW];exact(aN _ _).alloc qi _
 have fe:W.heap[w.heap.size]?=M (O #[I n,J xa ts.length tc,J ra rs.length rc] 26 (0,0)):=qap;have fh:W.heap[w.heap.size+1]?=M (O #[I 0,I 0,nS,nS,ze,ze] 31 (0,0)):=qaq;have sy:w.heap.size+1+1≤W.heap.size:=qai;obtain⟨c0,c1,c2⟩:=Ab fe;have xh:Hd (W.heap[w.heap.size]?=M (O #[I n,J xa ts.length tc,J ra rs.length rc] 26 (0,0))):=fe;have iq:Hd (W.heap[w.heap.size+1]?=M (O #[I 0,I 0,nS,nS,ze,ze] 31 (0,0))):=fh;have HI:Hd (Jy w xa ts ra rs):=h;have wy:Hd (Hy w ra rs):=rp;have gz:=h.lt;clear h rp fe fh;go_enter func7,ntmps7;go_wp2_with fail;clear eW;refine(Ei n _ ra tc rc ts rs W (HI.o.bl ba)).mono ?_;rintro e w1 ⟨ah,v,rfl,hv⟩;have db:=bt ba ah;have kz:Hd (w1.heap[w.heap.size+1]?=M (O #[I 0,I 0,nS,nS,ze,ze] 31 (0,0))):=Ac iq.o ah;have N9:Hd (w1.heap[w.heap.size]?=M (O #[I n,J xa ts.length tc,J ra rs.length rc] 26 (0,0))):=Ac xh.o ah;have D9:W.heap.size≤w1.heap.size:=ah.size;clear ah c0 c1 c2 xh iq;obtain⟨r0,r1,r2,r3,r4,r5⟩:=Bx kz.o;have rf:=(λj=>fH kz.o j);obtain⟨c0,c1,c2⟩:=Ab N9.o
 by_cases cm:Cz n ts rs∧x.size≤2002
 ·obtain⟨pn,hok2⟩:=cm
  have dv:v=true:=hv.2 pn;subst dv;have d20:decide ((2002:Int)<(x.size:Int))=false:=qj;have im:Hd (Cz n ts rs):=pn;obtain⟨m,rfl⟩:=Int.eq_ofNat_of_zero_le (show 0≤n by have:=pn.1;omega);have U2:1≤m:=zo pn.1;have hm8:m≤8:=zo pn.2.1;have hl5:ts.length≤5000:=pn.2.2.1.1;have hr2:rs.length≤2000:=pn.2.2.2.1;have pc:Hd (∀i,i<ts.length→(nx ts i).size≤2002):=pn.2.2.1.2.1;have rz:Hd (Fg (ts.map (Ap m))):=pn.2.2.1.2.2
  have Q9:Hd (∀(cd wd:Int)(ts':L By)(my:L T3)(A B:By)(r:X),Oe m ts (Ap m x) r→
   ((Eh m ts x r∧nx ts r≠x∧cd=2∧wd=0∧ts'=[]∧my=[]∧A=nx ts r∧B=x)∨
    (Eh m ts x r∧nx ts r=x∧cd=0∧wd=m∧ts'=ts∧my=rs∧A=⟨#[]⟩∧B=⟨#[]⟩)∨
    (¬ Eh m ts x r∧5000≤ts.length∧cd=3∧wd=0∧ts'=[]∧my=[]∧A=⟨#[]⟩∧B=⟨#[]⟩)∨
    (¬ Eh m ts x r∧¬ 5000≤ts.length∧cd=0∧wd=m∧ts'=Fp ts x r∧my=rs∧A=⟨#[]⟩∧B=⟨#[]⟩))→Og (m:Int) ts rs x cd wd ts' my A B):=λcd wd ts' my A B r h1 h2=>Or.inr ⟨⟨pn,hok2⟩,r,h1,h2⟩
  have HX2:Hd (x.size≤2002):=hok2;clear hv pn hok2;have HCY:Hd (Calls prog 23 #[G #[I (m:Int),J xa ts.length tc,J ra rs.length rc]] w1 λe w'=>Bw w1 w'∧∃g1 p1 v2,e=H (G #[I (m:Int),J (p_ g1) ts.length p1,v2])∧Cn w' w1.heap.size w'.heap.size (J (p_ g1) ts.length p1) ts∧Ct w' w1.heap.size w'.heap.size v2 rs):=Gy m xa tc ra rc ts rs w1 pj n9 (HI.o.st.bl db) (wy.o.bl db) gz qg (λi hi=>(im.o.recs i hi).2);have hx2:x.size≤2002:=HX2.o;clear Q9 pc rz HX2;go_wp2_with fail;clear d20;refine HCY.o.mono ?_;rintro e w2 ⟨a9,g1,p1,v2,rfl,o1,o2⟩;obtain⟨a2,p2,rfl,_⟩:=o2.sl;have bp:=bt db a9;have L7:Hd (w2.heap[w.heap.size+1]?=M (O #[I 0,I 0,nS,nS,ze,ze] 31 (0,0))):=Ac kz.o a9;have fl:w1.heap.size≤w2.heap.size:=a9.size;clear r0 r1 r2 r3 r4 r5 rf c0 c1 c2 a9 kz N9 HCY;have rj:Hd (Calls prog 22 #[G #[I (m:Int),J (p_ g1) ts.length p1,J a2 rs.length p2],S x] w2 λe w'=>Bw w2 w'∧Hr w1.heap.size w' e m ts rs x):=(l4Put_b m w1.heap.size g1 p1 a2 rs.length p2 ts x w2 (Ck.own o1) fl U2 hm8 im.o.2.2.1 hx2).mono λe w' k=>⟨k.1,kps_out k.2 ⟨im.o,hx2⟩ o2 k.1⟩;clear o1 o2;go_wp2_with fail;refine rj.o.mono ?_;rintro e w3 ⟨bh,cd,wd,ts',my,A,B,v1,v2,rfl,hk,o1,o2⟩;obtain⟨a1,q1,rfl,_⟩:=o1.sl;obtain⟨a3,q2,rfl,_⟩:=o2.sl;have fm:=bt bp bh;have kr:=Ac L7.o bh;obtain⟨r0,r1,r2,r3,r4,r5⟩:=Bx kr;have rf:=(λj=>fH kr j);have HK:Hd (Og (m:Int) ts rs x cd wd ts' my A B):=hk;have fc:Hd (Cn w3 w1.heap.size w3.heap.size (J a1 ts'.length q1) ts'):=o1;have oq:Hd (Ct w3 w1.heap.size w3.heap.size (J a3 my.length q2) my):=o2;clear bh o1 o2 hk kr rj;go_wp2;refine bR (v:=G #[I cd,I wd,J a1 ts'.length q1,J a3 my.length q2,S A,S B]) (by simp[results,results7,go_sem,r0,r1,r2,r3,r4,r5]) rfl ⟨Dh fm (Nat.le_succ _) _ _ _ _ _ _,Hr.full HK.o fc.o oq.o qg qg (Nat.le_refl _) _ _ _ _ _ _⟩
 ·have Q9:Hd (Og n ts rs x 1 0 [] [] ⟨#[]⟩ ⟨#[]⟩):=Or.inl ⟨cm,rfl,rfl,rfl,rfl,rfl,rfl⟩
  cases v
  ·exact qii
  ·have d20:decide ((2002:Int)<(x.size:Int))=true:=by
    have:¬ x.size≤2002:=λh=>cm ⟨hv.1 rfl,h⟩;simp;omega
   exact qii
end Go.Proofs.YtoihflimijabjaaGreatDoor
