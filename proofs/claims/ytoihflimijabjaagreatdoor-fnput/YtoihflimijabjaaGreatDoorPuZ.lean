import Derived.Test.YtoihflimijabjaaGreatDoorPuS
import Derived.Test.YtoihflimijabjaaGreatDoorPuY
namespace Go.Proofs.YtoihflimijabjaaGreatDoor
open _root_.Go.Proofs.Tryz Go.RowKit Go.Deep
open Value renaming slice->J,string->S,agg->G
open Option renaming some->M,none->N
open Obj renaming cells->O
open Go renaming Value->Z,World->E
open Ending renaming returned->H
open _root_ renaming List->L,Nat->X
set_option linter.unusedVariables false
set_option linter.unusedSimpArgs false
set_option maxHeartbeats 8000000
set_option maxRecDepth 100000
variable {ops:Array Oper} {a:Act} {Q:Exit→Act→E→Prop} {x:By} {w2 wr V w4 w5:E} {g cp m g' cp' n g7:X} {AE:L By} {qv:Z}
theorem Pk{w:E}{rest:L Oper}{o:Oper}(mg:o.guard=N)(s x:Operand)(ho:o.op=.call { callee:=.builtin .append,args:=#[s,x],argTypes:=#[23,23] })(base g n c:X)(xs:L Z)(hs:a.eval s=J (p_ g) n c)(ak:w.ownsRow base 9 1 (J (p_ g) n c) n xs)(xa:Option Addr)(tc:X)(T:L By)(hx:a.eval x=J xa T.length tc)(pj:∀a,xa=M a→∃b off,a=⟨b,off,N⟩)(n9:xa=N→T=[]∧tc=0)(du:Cs w xa T)(hn:n+T.length≤1000000)(hb:base≤w.heap.size)(h:∀g' c' w',w'.ownsRow base 9 1 (J (p_ g') (n+T.length) c') (n+T.length) (xs++Ar T)→w.grownBy w' (M g)→wpList prog ops Q rest (a.put o.dst (J (p_ g') (n+T.length) c')) w'):wpList prog ops Q (o::rest) a w:=by
 obtain⟨i0,hi,bm,bg,bi⟩:=info_parts Tryz.info9b
 rcases xa with _|ad
 ·obtain⟨rfl,rfl⟩:=n9 rfl
  exact wpList_append_own_none mg s x 23 ho base 9 i0 1 underlying23 hi _ n xs hs ak hx (h g c w (by simpa [Ar] using ak) (Im w g))
 ·obtain⟨b,off,rfl⟩:=pj _ rfl
  refine wpList_append_own w mg s x 23 ho base 9 i0 ze 1 16 underlying23 hi bm bg bi rfl qh _ n xs hs ak ⟨b,off,N⟩ T.length tc (Ar T) hx qbi (Gh du) (Gg T) qn qg hb ?_;intro v' w' As hg bn
  rcases Dc As with⟨q,_⟩|⟨g',c',rfl⟩
  ·exact absurd (bn.1 q).1 qi
  ·exact h g' c' w' As hg
theorem Lu{s x:Operand}{W:E}{o:Oper}{K:Act→E→Prop}{AG:Prop}(mg:o.guard=N)(ho:o.op=.call { callee:=.builtin .append,args:=#[s,x],argTypes:=#[23,23] })(B:X)(v:Z)(nn:X)(xs:L Z)(hs:a.eval s=v)(ak:W.ownsRow B 9 1 v nn xs)(d:X)(u:By)(hx:a.eval x=J (p_ d) 1 1)(hc:W.heap[d]?=M (O #[S u] 9 (0,0)))(hB:B≤W.heap.size)(hn:nn≤100000)(h:∀g' ai w',w'.ownsRow B 9 1 (J (p_ g') (nn+1) ai) (nn+1) (xs++[S u])→W.grownBy w' v.ownBlock→(v.ownBlock=M g'∨g'=W.heap.size)→K (a.put o.dst (J (p_ g') (nn+1) ai)) w'):if Region.wanted o (yielded ops a.tmps)=true then Oper.wp prog o a W K Q else AG:=by
 obtain⟨i0,hi,bm,bg,bi⟩:=info_parts Tryz.info9b
 refine step_append_lies (w:=W) mg s x 23 ho B 9 i0 ze 1 16 underlying23 hi bm bg bi rfl qh _ nn xs hs ak ⟨d,0,N⟩ 1 1 [S u] hx rfl
  (World.news_of_block (cs:=#[S u]) (t:=9) (fr:=(0,0)) hc) (by intro y hy;simp at hy;rw[hy];rfl) qg qn qg hB W.heap.size rfl ?_
 exact qcy
structure FlO (w2 wr:E) (g cp m:X) (AE:L By):Prop where
 len:AE.length=m
 own:wr.ownsRow w2.heap.size 9 1 (J (p_ g) m cp) m (Ar AE)
 sz:∀x∈AE,x.size≤2002
 bel:Bw w2 wr
theorem FlO.bl{w3:E}(h:FlO w2 wr g cp m AE)(hb:Bw wr w3):FlO w2 w3 g cp m AE:=⟨h.len,Ce h.own hb,h.sz,bt h.bel hb⟩
theorem FlO.app(h:FlO w2 V g cp m AE)(hx:x.size≤2002)(ho:w4.ownsRow w2.heap.size 9 1 (J (p_ g') (m+1) cp') (m+1) (Ar AE++[S x]))(hg:V.grownBy w4 (M g)):FlO w2 w4 g' cp' (m+1) (AE++[x]):=
 ⟨by rw[List.length_append,h.len];rfl,by rw[show Ar (AE++[x])=Ar AE++[S x] from qbi];exact ho,λy hy=>by rcases List.mem_append.mp hy with h1|h1;exact h.sz y h1;rw[List.mem_singleton.mp h1];exact hx,h.bel.grown hg h.bel.size (λj hj=>by cases hj;exact(h.own.lt g rfl).1)⟩
theorem FlO.lo(h:FlO w2 wr g cp m AE):w2.heap.size≤g:=(h.own.lt g rfl).1
structure FlJ (w4 wr:E) (n g7:X) (qv:Z) (g cp m:X) (AE:L By):Prop where
 k7:wr.heap[g7]?=M (O #[I (n:Int),J (p_ g) m cp,qv] 26 (0,0))
 o:FlO w4 wr g cp m AE
theorem FlJ.bl(h:FlJ w4 wr n g7 qv g cp m AE)(hb:Bw wr w5):FlJ w4 w5 n g7 qv g cp m AE:=⟨Ac h.k7 hb,h.o.bl hb⟩
theorem FlJ.app(h:FlJ w4 V n g7 qv g cp m AE)(hl:w4.heap.size≤g7)(hx:x.size≤2002)(ho:w5.ownsRow w4.heap.size 9 1 (J (p_ g') (m+1) cp') (m+1) (Ar AE++[S x]))(hg:V.grownBy w5 (M g)):FlJ w4 (w5.setCell ⟨g7,1,N⟩ (J (p_ g') (m+1) cp')) n g7 qv g' cp' (m+1) (AE++[x]):=by
 have h7:w5.heap[g7]?=M (O #[I (n:Int),J (p_ g) m cp,qv] 26 (0,0)):=Ao h.k7 hg (λq=>Ah h.o.own qh h.k7 q);have ha:=h.o.app hx ho hg;exact⟨qga,ha.len,Ak ha.own ⟨_,h7⟩ qh _,ha.sz,ha.bel.setCell (p:=⟨g7,1,N⟩) hl _⟩
theorem Qat:FilC:=by
 intro w lo n k tv qv T Rr h1 h8 cm hd hk
 obtain⟨xa,tc,qa,qc,rfl,rfl,jd⟩:=hd.rd cm.rbd
 have hT5:T.length≤5000:=cm.2.2.1.1
 obtain⟨W,eW⟩:=Aj ((w.alloc (O #[I (n:Int),J xa T.length tc,J qa Rr.length qc] 26)).alloc (O #[I 0,nS,nS] 26))
 have f7:Bw w W:=eW▸(aN _ _).alloc qi _
 have sy:w.heap.size+2≤W.heap.size:=qai
 have lu:Hd (W.heap[w.heap.size]?=M (O #[I (n:Int),J xa T.length tc,J qa Rr.length qc] 26 (0,0))):=qbr
 have d9:Hd (W.heap[w.heap.size+1]?=M (O #[I 0,nS,nS] 26 (0,0))):=qbs
 have kd:=Ad (jd.bl f7)
 have im:=Ad cm
 have ir:=Ad f7
 clear jd hd cm f7
 obtain⟨V,eV⟩:=Aj (W.alloc (O #[] 9))
 have cr:Bw W V:=eV▸aN _ _
 have ue:Hd (FlO W V W.heap.size 0 0 []):=⟨rfl,⟨rfl,Or.inr ⟨W.heap.size,0,#[],rfl,Nat.le_refl _,by rw[←eV];exact Am _ _,Nat.le_refl _,Nat.zero_le _,rfl,rfl⟩⟩,λx hx=>absurd hx qi,cr⟩
 obtain⟨p0,p1,p2⟩:=Ab (Ac lu.o cr)
 have gu:=Ad (kd.o.st.st.bl cr)
 go_enter func32,ntmps32
 go_wp2_with (first|(at_builtin;refine Pk rfl (.tmp 14) (.tmp 16) rfl W.heap.size W.heap.size 0 0 [] rfl ue.o.own xa tc T rfl kd.o.xs kd.o.xn gu.o qg cr.size ?_;intro g cp w5 ak ae;have HF:Hd (FlO W w5 g cp T.length T):=⟨rfl,by rw[Nat.zero_add,List.nil_append]at ak;exact ak,(by intro x hx;obtain⟨i,hi,e⟩:=Oz hx;rw[←e];exact im.o.2.2.1.2.1 i hi),ue.o.bel.grown ae ue.o.bel.size (λj hj=>by cases hj;exact Nat.le_refl _)⟩;clear ak ae;rw[Nat.zero_add]))
 clear eW eV cr ue gu p0 p1 p2
 go_loopw [5,6] (λl i wr=>∃(iN m g cp:X)(AE:L By),iN≤5000∧Hd (m=T.length+iN)∧l=J (p_ g) m cp∧i=I iN∧Hd (FlO W wr g cp m AE)) (λ_ i _=>5000-(intOf i).toNat)
 case atStart=>exact⟨0,T.length,g,cp,T,qg,rfl,rfl,rfl,HF⟩
 case round=>
  clear HF;obtain⟨iN,m,g,cp,AE,hiN,HM,rfl,rfl,HF⟩:=hrel
  by_cases au:m<k
  ·have um:(m:Int)<(k:Int):=qg
   have hi5:iN<5000:=zo HM.o;have hm5:m≤5000:=qg;go_wp2_with fail;refine(Gz iN wr qg).mono ?_;rintro e w3 ⟨rfl,bh⟩;have oe:(Lib.decDigits iN).length≤4:=En 3 iN qg;obtain⟨q,eq⟩:=Aj ((⟨(Lib.decDigits iN).toArray⟩:By));(have hq:q.size≤4:=by rw[←eq];show(Lib.decDigits iN).toArray.size≤4;simpa using oe);rw[eq];have hq9:¬ 9223372036854775807<3+q.size:=qg;replace HF:=Ad (HF.o.bl bh);(have iz:((⟨#[48,58,102]⟩:By)++q).size≤2002:=by rw[ByteArray.size_append];show 3+q.size≤2002;omega);clear eq oe bh;obtain⟨nq,enq⟩:=Aj ((⟨#[48,58,102]⟩:By)++q);rw[enq]at iz;obtain⟨i0,hi,bm,bg,bi⟩:=info_parts Tryz.info9b;obtain⟨V3,sj⟩:=Aj (w3.alloc (O #[S nq] 9));have X8:Hd (V3.heap[w3.heap.size]?=M (O #[S nq] 9 (0,0))):=qdi;have sq:Hd (FlO W V3 g cp m AE):=HF.o.bl (sj▸aN _ _);clear HF
   go_wp2_with (first|(at_builtin;refine wpList_append_own _ rfl (.tmp 24) (.tmp 28) 23 rfl W.heap.size 9 i0 ze 1 16 underlying23 hi bm bg bi rfl qh _ _ _ rfl sq.o.own ⟨w3.heap.size,0,N⟩ 1 1 [S nq] rfl rfl (World.news_of_block (cs:=#[S nq]) (t:=9) (fr:=(0,0)) X8.o) qao qn qg sq.o.bel.size ?_;intro v' w5 af ae bn;clear bn;obtain⟨g',cp',rfl⟩:=Db af qg;have C0:=Ad (FlO.app sq.o iz af ae);clear af ae))
   go_roundw
   case rel=>exact⟨iN+1,m+1,g',cp',AE++[nq],qg,by have:=HM.o;show _=_;omega,rfl,qp,C0⟩
   case measure=>simp[intOf];omega
  ·have um:¬ (m:Int)<(k:Int):=qg
   have hm20:m≤20000:=zo HM.o;obtain⟨p0,p1,p2⟩:=Ab (Ac lu.o HF.o.bel)
   have HS:Hd (Calls prog 52 #[J (p_ g) m cp,I n] wr (SrtP wr AE)):=by
    have hl:=HF.o.len;have:=Zx n h1 h8 AE.length AE (p_ g) cp wr (Nat.le_refl _) qg (Lf HF.o.own).2 (Gx (by rw[hl];exact HF.o.own)) ⟨by rw[hl];exact(Lf HF.o.own).1,Or.inr ⟨g,0,rfl⟩⟩ (λx hx=>by have:=HF.o.sz x hx;omega);rw[hl]at this;exact this
   go_wp2_with fail;refine HS.o.mono ?_;rintro e w3 ⟨bh,la,lc,AM,rfl,hsL,hlL,hmL,hfL⟩;have HZ:Hd (∀x∈AM,x.size≤2002):=λx hx=>HF.o.sz x (hmL x hx);have In:=Ad hsL;obtain⟨nl,enl⟩:=Aj AM.length;have wz:=Ad enl;have hnl:nl≤20000:=zo HF.o.len;rw[enl];have Ge:=Ad (bt HF.o.bel bh);clear hsL hlL hmL hfL enl bh HS HF HM p0 p1 p2;replace kd:=Ad (kd.o.bl Ge.o);replace lu:=Ad (Ac lu.o Ge.o);replace d9:=Ad (Ac d9.o Ge.o);replace ir:=Ad (bt ir.o Ge.o);have O2:w.heap.size+2≤w3.heap.size:=Nat.le_trans sy Ge.o.size;clear Ge sy;obtain⟨p0,p1,p2⟩:=Ab lu.o;go_wp2_with fail;refine(Gy (n:Int) xa tc qa qc T Rr w3 kd.o.xs kd.o.xn kd.o.st.st kd.o.rw qg kd.o.hr kd.o.hk).mono ?_;rintro e w4 ⟨bx,g1,q1,v2,rfl,xm,yu⟩;obtain⟨xs,cv,lv,tp⟩:=yu.rx im.o.rbd;have fj:=Ad (tp.base (show w.heap.size≤w3.heap.size from qg));obtain⟨ra,rc,rfl⟩:=Ax tp.row;replace kd:=Ad (kd.o.bl bx);replace lu:=Ad (Ac lu.o bx);replace d9:=Ad (Ac d9.o bx);replace ir:=Ad (bt ir.o bx);replace In:=Ad (In.o.bl bx);have hs4:w.heap.size+2≤w4.heap.size:=Nat.le_trans O2 bx.size;clear bx xm yu tp O2 p0 p1 p2;obtain⟨g7,E6⟩:=Aj w4.heap.size;obtain⟨V,eV⟩:=Aj (w4.alloc (O #[I 0,nS,nS] 26));have cr:Bw w4 V:=eV▸aN _ _;have jo:Hd (V.heap[g7]?=M (O #[I 0,nS,nS] 26 (0,0))):=qfi;obtain⟨r0,r1,r2⟩:=Ab jo.o;have rf:=(λj=>fH jo.o j);obtain⟨V2,dg⟩:=Aj (((V.setCell ⟨g7,0,N⟩ (I (n:Int))).setCell ⟨g7,1,N⟩ (J (p_ g1) T.length q1)).setCell ⟨g7,2,N⟩ (J ra Rr.length rc));have HK72:Hd (V2.heap[g7]?=M (O #[I (n:Int),J (p_ g1) T.length q1,J ra Rr.length rc] 26 (0,0))):=dg▸Cv jo.o _ _ _;have a9:Bw w4 V2:=dg▸Eg cr qg _ _ _;obtain⟨V3,sj⟩:=Aj (V2.alloc (O #[] 9));obtain⟨g8,B3⟩:=Aj V2.heap.size;have hg8:g7<g8:=zo (An HK72.o);have X9:Hd (V3.heap[g7]?=M (O #[I (n:Int),J (p_ g1) T.length q1,J ra Rr.length rc] 26 (0,0))):=sj▸Ac HK72.o (aN _ _);(have HK8:Hd (V3.heap[g8]?=M (O #[] 9 (0,0))):=by show _=_;rw[←sj,←B3];exact Am _ _);obtain⟨s0,s1,s2⟩:=Ab X9.o;have sf:=(λj=>fH X9.o j);obtain⟨U,eU⟩:=Aj (V3.setCell ⟨g7,1,N⟩ (J (p_ g8) 0 0))
   have HJ:Hd (FlJ w4 U n g7 (J ra Rr.length rc) g8 0 0 []):=by
    have bh:Bw w4 V3:=sj▸a9.alloc (by rw[E6];omega) _;refine⟨by rw[←eU,jB X9.o];rfl,rfl,⟨rfl,Or.inr ⟨g8,0,#[],rfl,qg,by rw[←eU];exact Af HK8.o qg _,Nat.le_refl _,Nat.zero_le _,rfl,rfl⟩⟩,λx hx=>absurd hx qi,by rw[←eU];exact bh.setCell (p:=⟨g7,1,N⟩) (by show _≤g7;omega) _⟩
   obtain⟨p0,p1,p2⟩:=Ab (Ac lu.o cr);clear cr jo HK72 X9 HK8 a9;go_wp2_with fail;clear eV dg sj eU B3 r0 r1 r2 rf s0 s1 s2 sf p0 p1 p2 hg8
   go_loopw [8,9] (λl i wr=>∃(iN m g cp:X)(lst:By)(AE:L By),iN≤nl∧m≤iN∧l=S lst∧i=I iN∧Hd (FlJ w4 wr n g7 (J ra Rr.length rc) g cp m AE)) (λ_ i _=>nl-(intOf i).toNat)
   case atStart=>exact⟨0,0,g8,0,_,[],Nat.zero_le _,Nat.le_refl _,rfl,rfl,HJ⟩
   case round=>
    clear HJ;obtain⟨iN,m,g,cp,lst,AE,hiN,hmi,rfl,rfl,HJ⟩:=hrel
    by_cases au:iN<nl
    ·have um:(iN:Int)<(nl:Int):=qg
     have O5:(0:Int)≤(iN:Int):=qg;obtain⟨b1,o1,rfl,cA⟩:=In.o iN (by rw[wz.o];exact au);have HC4':Hd (w4.cell? ⟨b1,o1+iN,N⟩=M (S (nx AM iN))):=cA;replace cA:wr.cell? ⟨b1,o1+iN,N⟩=M (S (nx AM iN)):=Aa HJ.o.o.bel cA;have G2:(nx AM iN).size≤2002:=HZ.o _ (Kh (by rw[wz.o];exact au));have B6:Hd (∀W:E,Calls prog 18 #[S (nx AM iN),I n] W λe w'=>e=H (S (Ap n (nx AM iN)))∧Bw W w'):=λW=>Cl _ n W qg h1 h8;generalize nx AM iN=x at *;obtain⟨sx,esx⟩:=Aj (Ap n x);rw[esx]at B6;clear esx;have jr:=Ad cA;have yi:Hd (w4.cell? ⟨b1,o1+iN,N⟩=M (S x)):=HC4'.o;have pg:Hd (b1<w4.heap.size):=World.block_lt_of_cell? w4 _ yi.o;have cB:=(Ab (Ac lu.o HJ.o.o.bel)).1;clear cA cB;go_wp2_with fail;refine Lt.begin 99 (λw'=>w'.cell? ⟨b1,o1+iN,N⟩=M (S x)∧w'.cell? ⟨w.heap.size,0,N⟩=M (I (n:Int))) qk ?_;obtain⟨wD,eD⟩:=Aj wr.drew;rw[eD];have ao:Bw wr wD:=qq;clear eD;replace HJ:=Ad (HJ.o.bl ao);replace jr:=Ad (Aa ao jr.o);clear ao;have aw:wD.cell? ⟨b1,o1+iN,N⟩=M (S x)∧wD.cell? ⟨w.heap.size,0,N⟩=M (I (n:Int)):=⟨jr.o,(Ab (Ac lu.o HJ.o.o.bel)).1⟩;change K 0 _
     iterate 6
      refine Lt.ti (v:=?_) aw ?_ ?_;rotate_left 1
      ·exact qy
      simp only[gX]
     refine Lt.sp (i:=6) (λK hK=>?_);go_simp;refine(B6.o _).mono ?_;rintro e w3 ⟨rfl,bh⟩;replace HJ:=Ad (HJ.o.bl bh);replace jr:=Ad (Aa bh jr.o);have bj:w3.cell? ⟨b1,o1+iN,N⟩=M (S x)∧w3.cell? ⟨w.heap.size,0,N⟩=M (I (n:Int)):=⟨jr.o,Aa bh aw.2⟩;refine hK.out _ _ (λ_=>bj) (λ_=>?_);clear hK K bh aw
     try simp only[gX]
     refine Lt.ti (i:=7) (v:=?_) bj ?_ ?_;rotate_left 1
     ·exact qy
     simp only[gX];refine Lt.done qk ?_ _;clear bj;have zd:=HJ.o.o.bel;obtain⟨p0,p1,p2⟩:=Ab (Ac lu.o zd);have HGT:Hd (Calls prog 53 #[G #[I n,J xa T.length tc,J qa Rr.length qc],S sx] w3 λe w'=>Bw w3 w'∧∃A ok,e=H (.tuple #[S A,.bool ok])∧Dt n T sx A ok):=Tu n xa qa tc Rr.length qc T sx w3 h1 h8 (kd.o.st.st.bl zd) qg im.o.2.2.1.2.1 im.o.2.2.1.2.2;clear zd;go_wp2_with fail;refine HGT.o.mono ?_;rintro e w6 ⟨cj,A,ok,rfl,_⟩;replace HJ:=Ad (HJ.o.bl cj);replace jr:=Ad (Aa cj jr.o);clear cj p0 p1 p2 HGT;have HBOTH:Hd (∀(w8:E)(own:Bool),True):=λ_ _=>trivial;cases ok
     ·go_wp2_with fail
      go_quiet (fail)
      obtain⟨wx,ewx⟩:=Aj (w6.drewN nq);have ks:Bw w6 wx:=ewx▸below_drewN (Below.refl _ _) _;rw[ewx];replace HJ:=Ad (HJ.o.bl ks);replace jr:=Ad (Aa ks jr.o);clear ewx ks
      by_cases tm:(0:Int)<(iN:Int)
      ·by_cases hq:sx=lst
       ·exact qjn
       ·have hqt:(sx.toList == lst.toList)=false:=beq_eq_false_iff_ne.2 λq=>hq (by rw[ByteArray.toList_eq,ByteArray.toList_eq]at q;exact ByteArray.ext (Array.toList_inj.1 q))
        exact qgm
      ·skip
       exact qgm
     ·go_wp2_with fail
      refine Lt.begin 99 (λw'=>w'.cell? ⟨b1,o1+iN,N⟩=M (S x)∧w'.cell? ⟨w.heap.size,0,N⟩=M (I (n:Int))∧w'.cell? ⟨w.heap.size,1,N⟩=M (J xa T.length tc)∧w'.cell? ⟨w.heap.size,2,N⟩=M (J qa Rr.length qc)) qk ?_;obtain⟨wD,eD⟩:=Aj w6.drew;rw[eD];have ao:Bw w6 wD:=qq;clear eD;replace HJ:=Ad (HJ.o.bl ao);replace jr:=Ad (Aa ao jr.o);clear ao;have aw:wD.cell? ⟨b1,o1+iN,N⟩=M (S x)∧wD.cell? ⟨w.heap.size,0,N⟩=M (I (n:Int))∧wD.cell? ⟨w.heap.size,1,N⟩=M (J xa T.length tc)∧wD.cell? ⟨w.heap.size,2,N⟩=M (J qa Rr.length qc):=⟨jr.o,Ab (Ac lu.o HJ.o.o.bel)⟩;have lp:Hd (Calls prog 54 #[G #[I n,J xa T.length tc,J qa Rr.length qc],S x] wD λe w'=>Bw wD w'∧∃b,e=H (.bool b)):=l4Own_any (n:Int) xa qa tc Rr.length qc T x wD (kd.o.st.st.bl HJ.o.o.bel) qg;change K 0 _
      iterate 7
       refine Lt.ti (v:=?_) aw ?_ ?_;rotate_left 1
       ·exact qcm
       simp only[gX]
      refine Lt.sp (i:=7) (λK hK=>?_);go_simp;refine lp.o.mono ?_;rintro e w7 ⟨bv,own,rfl⟩;replace HJ:=Ad (HJ.o.bl bv);replace jr:=Ad (Aa bv jr.o);have bj:w7.cell? ⟨b1,o1+iN,N⟩=M (S x)∧w7.cell? ⟨w.heap.size,0,N⟩=M (I (n:Int))∧w7.cell? ⟨w.heap.size,1,N⟩=M (J xa T.length tc)∧w7.cell? ⟨w.heap.size,2,N⟩=M (J qa Rr.length qc):=⟨jr.o,Ab (Ac lu.o HJ.o.o.bel)⟩;refine hK.out _ _ (λ_=>bj) (λ_=>?_);clear hK K bv aw lp
      try simp only[gX]
      change K 8 _
      iterate 2
       refine Lt.ti (v:=?_) bj ?_ ?_;rotate_left 1
       ·exact qcm
       simp only[gX]
      refine Lt.done qk ?_ _;clear bj;cases own
      ·go_wp2
       go_roundw
       case rel=>exact⟨iN+1,m,g,cp,lst,AE,qg,qg,rfl,qp,HJ⟩
       case measure=>simp[intOf];omega
      ·skip
       by_cases tm:(0:Int)<(iN:Int)
       ·by_cases hq:sx=lst
        ·exact qjn
        ·have hqt:(sx.toList == lst.toList)=false:=beq_eq_false_iff_ne.2 λq=>hq (by rw[ByteArray.toList_eq,ByteArray.toList_eq]at q;exact ByteArray.ext (Array.toList_inj.1 q))
         exact qgn
       ·skip
        exact qgn
    ·have um:¬ (iN:Int)<(nl:Int):=qg
     obtain⟨a0,a1,a2⟩:=Ab HJ.o.k7;obtain⟨b0,b1,b2⟩:=Ab (Ac d9.o HJ.o.o.bel);have bf:=(λj=>fH (Ac d9.o HJ.o.o.bel) j);obtain⟨AN,eX⟩:=Aj (((wr.setCell ⟨w.heap.size+1,0,N⟩ (I (n:Int))).setCell ⟨w.heap.size+1,1,N⟩ (J (p_ g) m cp)).setCell ⟨w.heap.size+1,2,N⟩ (J ra Rr.length rc));have HKX:Hd (AN.heap[w.heap.size+1]?=M (O #[I (n:Int),J (p_ g) m cp,J ra Rr.length rc] 26 (0,0))):=eX▸Cv (Ac d9.o HJ.o.o.bel) _ _ _
     have N1:Hd (Bw w AN∧∃T' R',Di AN w.heap.size (J (p_ g) m cp) (J ra Rr.length rc) T' R'∧Qs T' R'):=by
      have ht:Ai wr (w.heap.size+1) 26:=⟨_,Ac d9.o HJ.o.o.bel⟩;refine⟨eX▸Eg (bt ir.o HJ.o.o.bel) qg _ _ _,?_⟩
      have htx:Ks wr w.heap.size (J (p_ g) m cp) m:=⟨AE,HJ.o.o.len,qg,λi=>by
       rcases Nat.lt_or_ge i AE.length with q|q
       ·have:=HJ.o.o.sz _ (Kh q);omega
       ·have:nx AE i=ByteArray.empty:=by unfold nx;rw[gG,List.getElem?_eq_none qg];rfl
        rw[this];exact Nat.zero_le _,Al HJ.o.o.own qg⟩
      have tp:=fj.o.bl HJ.o.o.bel;rw[←eX];exact RX.dst (((htx.setT ht qh _).setT (ht.set _) qh _).setT ((ht.set _).set _) qh _) (((tp.setT ht qh qh qh _).setT (ht.set _) qh qh qh _).setT ((ht.set _).set _) qh qh qh _) (Nat.le_refl _)
     obtain⟨c0,c1,c2⟩:=Ab HKX.o;go_wp2;obtain⟨q1,T',R',q2,q3⟩:=N1.o;exact bR (v:=G #[I (n:Int),J (p_ g) m cp,J ra Rr.length rc]) (by simp[results,results32,go_sem,c0,c1,c2]) rfl (by first|exact⟨q1,(n:Int),_,_,_,_,_,_,T',R',rfl,q2,q3⟩|exact⟨q1,(n:Int),_,_,_,_,_,_,rfl,T',R',q2,q3⟩)
theorem spoil_any:DrC 33:=by
 intro B R a len cap p w n tv qv T Rr h aj hp pp ul cm hd
 have P8:=h.lt
 have df:R<w.heap.size:=qg
 obtain⟨xa,tc,qa,qc,rfl,rfl,jd⟩:=hd.rd cm.rbd
 obtain⟨W,eW⟩:=Aj ((w.alloc (O #[I (n:Int),J xa T.length tc,J qa Rr.length qc] 26)).alloc (O #[I 0,nS,nS] 26))
 have f7:Bw w W:=eW▸(aN _ _).alloc qi _
 have sy:w.heap.size+2≤W.heap.size:=qai
 have oy:Hd (W.heap[w.heap.size]?=M (O #[I (n:Int),J xa T.length tc,J qa Rr.length qc] 26 (0,0))):=qbr
 have d9:Hd (W.heap[w.heap.size+1]?=M (O #[I 0,nS,nS] 26 (0,0))):=qbs
 have fg:Hd (Ba B R a len cap p 0 w W):=Ba.bl ⟨Im _ _,p,Nat.le_refl _,h⟩ aj f7
 have kd:=Ad (jd.bl f7)
 have im:=Ad cm
 obtain⟨p0,p1,p2⟩:=Ab oy.o
 clear jd hd cm f7 h
 go_enter func33,ntmps33
 go_wp2_with fail
 clear eW p0 p1 p2
 refine(Gy (n:Int) xa tc qa qc T Rr W kd.o.xs kd.o.xn kd.o.st.st kd.o.rw kd.o.st.lt kd.o.hr kd.o.hk).mono ?_
 rintro e w4 ⟨bx,g1,t2,v2,rfl,xm,yu⟩
 obtain⟨xs,cvs,lvs,tp,dx,hcg⟩:=yu.rx3 im.o
 have te:=Ad dx
 have HCG:Hd (∀i,i<Rr.length→CdG w4 w.heap.size (cvs i)):=λi hi=>(hcg i hi).kept λ_ _ oo=>Al oo qg
 have hnt5:T.length≤5000:=im.o.2.2.1.1
 have hnr2:Rr.length≤2000:=im.o.2.2.2.1
 clear dx hcg
 have fj:=Ad (tp.base (show w.heap.size≤W.heap.size from qg))
 have jl:=Ad ((xm.tx im.o.rbd).base (show w.heap.size≤W.heap.size from qg))
 obtain⟨ra,rc,rfl⟩:=Ax tp.row
 have If:Hd (0<Rr.length→∃b c o,Value.slice ra Rr.length rc=J (p_ b) Rr.length c∧w.heap.size≤b∧w4.cell? ⟨b,2,N⟩=M (S o)∧o.size≤8):=λh0=>by
  obtain⟨b,c,e,_,_,c2,_,ji⟩:=fj.o.rcd h0;simp only[Nat.zero_mul,Nat.zero_add]at c2;exact⟨b,c,_,e,ji,c2,by have:=(im.o.2.2.2.2 0 h0).2.1;omega⟩
 replace oy:=Ad (Ac oy.o bx)
 replace d9:=Ad (Ac d9.o bx)
 replace fg:=Ad (fg.o.bl aj bx)
 have hs4:w.heap.size+2≤w4.heap.size:=Nat.le_trans sy bx.size
 clear bx xm yu tp kd im sy
 generalize (λi=>(qx Rr i).out)=os at fj
 generalize Rr.length=nr at fj oy te HCG hnr2 If ⊢
 generalize T.length=nt at jl oy hnt5 ⊢
 obtain⟨g5,Q3⟩:=Aj w4.heap.size
 obtain⟨V,eV⟩:=Aj (w4.alloc (O #[I 0,nS,nS] 26))
 have cr:Bw w4 V:=eV▸aN _ _
 have d8:Hd (V.heap[g5]?=M (O #[I 0,nS,nS] 26 (0,0))):=qfj
 obtain⟨r0,r1,r2⟩:=Ab d8.o
 have rf:=(λj=>fH d8.o j)
 obtain⟨V2,dg⟩:=Aj (((V.setCell ⟨g5,0,N⟩ (I (n:Int))).setCell ⟨g5,1,N⟩ (J (p_ g1) nt t2)).setCell ⟨g5,2,N⟩ (J ra nr rc))
 have s9:Hd (Ai V g5 26):=⟨_,d8.o⟩
 replace d8:Hd (V2.heap[g5]?=M (O #[I (n:Int),J (p_ g1) nt t2,J ra nr rc] 26 (0,0))):=dg▸Cv d8.o _ _ _
 replace oy:Hd (V2.heap[w.heap.size]?=M (O #[I (n:Int),J xa nt tc,J qa nr qc] 26 (0,0))):=dg▸Da (Ac oy.o cr) qg _ _ _
 replace d9:Hd (V2.heap[w.heap.size+1]?=M (O #[I 0,nS,nS] 26 (0,0))):=dg▸Da (Ac d9.o cr) qg _ _ _
 replace jl:Hd (Ks V2 w.heap.size (J (p_ g1) nt t2) nt):=dg▸(((jl.o.bl cr).setT s9.o qh _).setT (s9.o.set _) qh _).setT ((s9.o.set _).set _) qh _
 replace fj:Hd (RX V2 w.heap.size (J ra nr rc) nr True nr xs cvs lvs os):=dg▸(((fj.o.bl cr).setT s9.o qh qh qh _).setT (s9.o.set _) qh qh qh _).setT ((s9.o.set _).set _) qh qh qh _
 replace fg:Hd (Ba B R a len cap p 0 w V2):=dg▸(((fg.o.bl aj cr).set aj qg _).set aj qg _).set aj qg _
 have O6:w.heap.size+1<g5:=qg
 have U1:nt≤20000:=by obtain⟨_,_,q,_⟩:=jl.o;exact q
 have hnr:nr≤20000:=fj.o.nb
 replace HCG:Hd (∀i,i<nr→CdG V2 w.heap.size (cvs i)):=λi hi=>dg▸(((HCG.o i hi).kept λ_ _ oo=>Ce oo cr).kept λ_ _ oo=>Tq oo s9.o qh _ _ _)
 have a9:Bw w4 V2:=dg▸Eg cr qg _ _ _
 replace If:Hd (0<nr→∃b c o,Value.slice ra nr rc=J (p_ b) nr c∧w.heap.size≤b∧V2.cell? ⟨b,2,N⟩=M (S o)∧o.size≤8):=λh0=>by obtain⟨b,c,o,e,ji,c2,ho⟩:=If.o h0;exact⟨b,c,o,e,ji,Aa a9 c2,ho⟩
 clear s9 cr a9
 have HS:Hd (Hx w B R a len cap p n g5 nr 0 True V2 (n:Int) (J (p_ g1) nt t2) nt (J ra nr rc) cvs lvs):=⟨⟨_,_,oy.o⟩,d9.o,d8.o,jl.o,⟨xs,os,fj.o⟩,fg.o⟩
 clear oy d9 d8 jl fj fg
 go_wp2_with fail
 clear eV dg r0 r1 r2 rf Q3 hs4
 refine(HS.o.rd.pick qg 9 qg qg).mono ?_
 rintro e w7 ⟨y,rfl,hy,az,am⟩
 replace HS:=Ad (HS.o.gb df qg az am)
 replace HCG:Hd (∀i,i<nr→CdG w7 w.heap.size (cvs i)):=λi hi=>(HCG.o i hi).kept λ_ _ oo=>Mp oo am df
 replace If:Hd (0<nr→∃b c o,Value.slice ra nr rc=J (p_ b) nr c∧w.heap.size≤b∧w7.cell? ⟨b,2,N⟩=M (S o)∧o.size≤8):=λh0=>by obtain⟨b,c,o,e,ji,c2,ho⟩:=If.o h0;exact⟨b,c,o,e,ji,Qq c2 am qg,ho⟩
 clear az am
 rcases(show y=0∨y=1∨y=2∨y=3∨y=4∨y=5∨y=6∨y=7∨y=8 from qg)with rfl|rfl|rfl|rfl|rfl|rfl|rfl|rfl|rfl
 ·skip
  obtain⟨gA,eA⟩:=Aj w7.heap.size;obtain⟨V,eV⟩:=Aj (w7.alloc (O #[I 0,I 9,I (-1),I 3] 3));have cr:Bw w7 V:=eV▸aN _ _;have HKA:Hd (V.heap[gA]?=M (O #[I 0,I 9,I (-1),I 3] 3 (0,0))):=by show _=_;rw[←eV,←eA];exact Am _ _
  have up:gA≠R:=zo HS.o.rd.size;replace HS:=Ad (HS.o.bl aj cr);clear cr;go_wp2_with fail;clear eV eA;refine(HS.o.rd.pick qg 4 qg qg).mono ?_;rintro e w8 ⟨z,rfl,hz,az,am⟩;replace HS:=Ad (HS.o.gb df qg az am);replace HKA:=Ad (Az HKA.o am up);clear az am;obtain⟨d0,d1,d2,d3,_⟩:=Lp HKA.o;obtain⟨v0,v1,v2⟩:=Ab HS.o.k5;have vf:=(λj=>fH HS.o.k5 j)
  rcases(show z=0∨z=1∨z=2∨z=3 from qg)with rfl|rfl|rfl|rfl
  ·skip
   obtain⟨w9,e9⟩:=Aj (w8.setCell ⟨g5,0,N⟩ (I 0));have fa:=Ad (HS.o.s0 aj qg 0);rw[e9]at fa
   go_upto_region 33 with fail
   clear e9 v0 v1 v2 vf d0 d1 d2 d3;replace HS:=Ad fa.o;clear fa;obtain⟨AL,eY⟩:=Aj (((w9.setCell ⟨w.heap.size+1,0,N⟩ (I 0)).setCell ⟨w.heap.size+1,1,N⟩ (J (p_ g1) nt t2)).setCell ⟨w.heap.size+1,2,N⟩ (J ra nr rc));have jq:=Ad (HS.o.fin aj df qg AL eY);obtain⟨u0,u1,u2⟩:=Ab HS.o.k5;obtain⟨z0,z1,z2⟩:=Ab HS.o.k4;have zf:=(λj=>fH HS.o.k4 j);go_wp2;obtain⟨jY,⟨T',R',e1,e2⟩,dr⟩:=jq.o;obtain⟨q0,q1,q2⟩:=Ab jY;exact bR (v:=G #[I 0,J (p_ g1) nt t2,J ra nr rc]) qaf rfl (by first|exact⟨_,_,_,_,_,_,_,T',R',rfl,e1,e2,dr.more qg⟩|exact⟨_,_,_,_,_,_,_,rfl,T',R',e1,e2,dr.more qg⟩)
  ·skip
   obtain⟨w9,e9⟩:=Aj (w8.setCell ⟨g5,0,N⟩ (I 9));have fa:=Ad (HS.o.s0 aj qg 9);rw[e9]at fa
   go_upto_region 33 with fail
   clear e9 v0 v1 v2 vf d0 d1 d2 d3;replace HS:=Ad fa.o;clear fa;obtain⟨AL,eY⟩:=Aj (((w9.setCell ⟨w.heap.size+1,0,N⟩ (I 9)).setCell ⟨w.heap.size+1,1,N⟩ (J (p_ g1) nt t2)).setCell ⟨w.heap.size+1,2,N⟩ (J ra nr rc));have jq:=Ad (HS.o.fin aj df qg AL eY);obtain⟨u0,u1,u2⟩:=Ab HS.o.k5;obtain⟨z0,z1,z2⟩:=Ab HS.o.k4;have zf:=(λj=>fH HS.o.k4 j);go_wp2;obtain⟨jY,⟨T',R',e1,e2⟩,dr⟩:=jq.o;obtain⟨q0,q1,q2⟩:=Ab jY;exact bR (v:=G #[I 9,J (p_ g1) nt t2,J ra nr rc]) qaf rfl (by first|exact⟨_,_,_,_,_,_,_,T',R',rfl,e1,e2,dr.more qg⟩|exact⟨_,_,_,_,_,_,_,rfl,T',R',e1,e2,dr.more qg⟩)
  ·skip
   obtain⟨w9,e9⟩:=Aj (w8.setCell ⟨g5,0,N⟩ (I (-1)));have fa:=Ad (HS.o.s0 aj qg (-1));rw[e9]at fa
   go_upto_region 33 with fail
   clear e9 v0 v1 v2 vf d0 d1 d2 d3;replace HS:=Ad fa.o;clear fa;obtain⟨AL,eY⟩:=Aj (((w9.setCell ⟨w.heap.size+1,0,N⟩ (I (-1))).setCell ⟨w.heap.size+1,1,N⟩ (J (p_ g1) nt t2)).setCell ⟨w.heap.size+1,2,N⟩ (J ra nr rc));have jq:=Ad (HS.o.fin aj df qg AL eY);obtain⟨u0,u1,u2⟩:=Ab HS.o.k5;obtain⟨z0,z1,z2⟩:=Ab HS.o.k4;have zf:=(λj=>fH HS.o.k4 j);go_wp2;obtain⟨jY,⟨T',R',e1,e2⟩,dr⟩:=jq.o;obtain⟨q0,q1,q2⟩:=Ab jY;exact bR (v:=G #[I (-1),J (p_ g1) nt t2,J ra nr rc]) qaf rfl (by first|exact⟨_,_,_,_,_,_,_,T',R',rfl,e1,e2,dr.more qg⟩|exact⟨_,_,_,_,_,_,_,rfl,T',R',e1,e2,dr.more qg⟩)
  ·skip
   obtain⟨w9,e9⟩:=Aj (w8.setCell ⟨g5,0,N⟩ (I 3));have fa:=Ad (HS.o.s0 aj qg 3);rw[e9]at fa
   go_upto_region 33 with fail
   clear e9 v0 v1 v2 vf d0 d1 d2 d3;replace HS:=Ad fa.o;clear fa;obtain⟨AL,eY⟩:=Aj (((w9.setCell ⟨w.heap.size+1,0,N⟩ (I 3)).setCell ⟨w.heap.size+1,1,N⟩ (J (p_ g1) nt t2)).setCell ⟨w.heap.size+1,2,N⟩ (J ra nr rc));have jq:=Ad (HS.o.fin aj df qg AL eY);obtain⟨u0,u1,u2⟩:=Ab HS.o.k5;obtain⟨z0,z1,z2⟩:=Ab HS.o.k4;have zf:=(λj=>fH HS.o.k4 j);go_wp2;obtain⟨jY,⟨T',R',e1,e2⟩,dr⟩:=jq.o;obtain⟨q0,q1,q2⟩:=Ab jY;exact bR (v:=G #[I 3,J (p_ g1) nt t2,J ra nr rc]) qaf rfl (by first|exact⟨_,_,_,_,_,_,_,T',R',rfl,e1,e2,dr.more qg⟩|exact⟨_,_,_,_,_,_,_,rfl,T',R',e1,e2,dr.more qg⟩)
 ·skip
  obtain⟨s0,s1,s2⟩:=Ab HS.o.k5
  by_cases tm:(1:Int)<(nt:Int)
  ·obtain⟨t0,ct0,O1⟩:=HS.o.tx.at (i:=0) qg
   obtain⟨tx1,ct1,S9⟩:=HS.o.tx.at (i:=1) qg;have h0I:(0:Int)<(nt:Int):=qg;have h0N:0<nt:=qg;have h1N:1<nt:=qg;have gw:=Ad ct1;clear ct1;go_wp2_with fail;clear s0 s1 s2 ct0;refine Lt.begin 7 (λw'=>w'.cell? ⟨g5,1,N⟩=M (J (p_ g1) nt t2)∧w'.cell? ⟨g1,1,N⟩=M (S tx1)) qk ?_;obtain⟨wD,eD⟩:=Aj w7.drew;rw[eD];have ao:Bw w7 wD:=qq;clear eD;replace HS:=Ad (HS.o.bl aj ao);replace gw:=Ad (Aa ao gw.o);clear ao;have aw:wD.cell? ⟨g5,1,N⟩=M (J (p_ g1) nt t2)∧wD.cell? ⟨g1,1,N⟩=M (S tx1):=⟨(Ab HS.o.k5).2.1,gw.o⟩;change K 0 _
   iterate 6
    refine Lt.ti (v:=?_) aw ?_ ?_;rotate_left 1
    ·exact qy
    simp only[gX]
   refine Lt.sp (i:=6) (λK hK=>?_);go_simp;refine hK.out _ _ (λ_=>aw) (λ_=>?_);clear hK K 
   try simp only[gX]
   (have gf:∀j,wD.frozen? ⟨g1,j,N⟩=false:=λj=>by obtain⟨T0,_,_,_,q⟩:=HS.o.tx;obtain⟨_,cs,q2⟩:=Bh q (b:=g1) rfl;exact fH q2 j);obtain⟨tx0,ct0,_⟩:=HS.o.tx.at (i:=0) qg;obtain⟨w9,e9⟩:=Aj (wD.setCell ⟨g1,0,N⟩ (S tx1));have fa:=Ad (HS.o.st (i:=0) aj S9);rw[e9]at fa;refine Lt.sp (i:=7) (λK hK=>?_);go_simp
   try rw[e9]
   refine hK.out _ _ (λh=>absurd h qh) (λ_=>?_);clear hK K e9 gf ct0
   try simp only[gX]
   refine Lt.done qk ?_ _;replace HS:=Ad fa.o;clear fa gw aw;(have gf:∀j,w9.frozen? ⟨g1,j,N⟩=false:=λj=>by obtain⟨T0,_,_,_,q⟩:=HS.o.tx;obtain⟨_,cs,q2⟩:=Bh q (b:=g1) rfl;exact fH q2 j);obtain⟨tx2,ct1,_⟩:=HS.o.tx.at (i:=1) qg;obtain⟨s0,s1,s2⟩:=Ab HS.o.k5;obtain⟨wX,eX⟩:=Aj (w9.setCell ⟨g1,1,N⟩ (S t0));have jm:=Ad (HS.o.st (i:=1) aj O1);rw[eX]at jm
   go_upto_region 33 with fail
   clear eX gf ct1 s0 s1 s2;replace HS:=Ad jm.o;clear jm;obtain⟨AL,eY⟩:=Aj (((wX.setCell ⟨w.heap.size+1,0,N⟩ (I (n:Int))).setCell ⟨w.heap.size+1,1,N⟩ (J (p_ g1) nt t2)).setCell ⟨w.heap.size+1,2,N⟩ (J ra nr rc));have jq:=Ad (HS.o.fin aj df qg AL eY);obtain⟨u0,u1,u2⟩:=Ab HS.o.k5;obtain⟨z0,z1,z2⟩:=Ab HS.o.k4;have zf:=(λj=>fH HS.o.k4 j);go_wp2;obtain⟨jY,⟨T',R',e1,e2⟩,dr⟩:=jq.o;obtain⟨q0,q1,q2⟩:=Ab jY;exact bR (v:=G #[I (n:Int),J (p_ g1) nt t2,J ra nr rc]) qaf rfl (by first|exact⟨_,_,_,_,_,_,_,T',R',rfl,e1,e2,dr.more qg⟩|exact⟨_,_,_,_,_,_,_,rfl,T',R',e1,e2,dr.more qg⟩)
  ·skip
   exact qbm
 ·skip
  go_wp2_with fail;refine Lt.begin 9 (λw'=>w'.cell? ⟨g5,1,N⟩=M (J (p_ g1) nt t2)) qk ?_;obtain⟨wD,eD⟩:=Aj w7.drew;rw[eD];have ao:Bw w7 wD:=qq;clear eD;replace HS:=Ad (HS.o.bl aj ao);clear ao;have aw:wD.cell? ⟨g5,1,N⟩=M (J (p_ g1) nt t2):=(Ab HS.o.k5).2.1;change K 0 _
  iterate 3
   refine Lt.ti (v:=?_) aw ?_ ?_;rotate_left 1
   ·exact qam
   simp only[gX]
  refine Lt.sp (i:=3) (λK hK=>?_);go_simp;refine(HS.o.rd.pick qg 2 qg qg).mono ?_;rintro e w8 ⟨z,rfl,hz,az,am⟩;replace HS:=Ad (HS.o.gb df qg az am);have bj:w8.cell? ⟨g5,1,N⟩=M (J (p_ g1) nt t2):=(Ab HS.o.k5).2.1;refine hK.out _ _ (λ_=>bj) (λ_=>?_);clear hK K az am
  try simp only[gX]
  obtain⟨k5,ek5⟩:∃k:X,k=2002+z:=⟨_,rfl⟩;have jt:k5≤2003:=qg;have D7:(2002:Int)+(z:Int)=(k5:Int):=qg;have we:IntKind.wrap .i64 (k5:Int)=(k5:Int):=Pj qg;clear ek5;refine Lt.ti (i:=4) (v:=?_) bj ?_ ?_;rotate_left 1
  ·exact qam
  simp only[gX];refine Lt.sp (i:=5) (λK hK=>?_);go_simp;refine(Ha ⟨#[120]⟩ k5 _ qh qg).mono ?_;rintro e wM ⟨r,rfl,hr,rfl⟩;refine hK.out _ _ (λ_=>bj) (λ_=>?_);clear hK K 
  try simp only[gX]
  have T5:r.size≤60000:=by have e1:(⟨#[120]⟩:By).size=1:=rfl;rw[e1]at hr;omega
  refine Lt.sp (i:=6) (λK hK=>?_);go_simp;refine Bm (Q:=λx=>K _ x) ?_;intro wL bz gl
  try dsimp only
  obtain⟨dL,edL⟩:=Aj wM.heap.size;rw[edL]at gl ⊢;replace HS:=Ad (HS.o.bl aj bz);have cz:wL.cell? ⟨g5,1,N⟩=M (J (p_ g1) nt t2):=(Ab HS.o.k5).2.1;refine hK.out _ _ (λ_=>cz) (λ_=>?_);clear hK K bz
  try simp only[gX]
  obtain⟨TT,hT1,hT2,hT3,P5⟩:=HS.o.tx;have pc:w.heap.size≤wL.heap.size:=HS.o.rd.size;refine Lt.sp (i:=7) (λK hK=>?_);refine Lu rfl qo w.heap.size _ nt (Ar TT) qo P5 dL r qo gl.o pc qg ?_;intro g' ai wA ak ae _;obtain⟨jt,yr⟩:=HS.o.appT aj qg hT1 qg hT3 P5 T5 ak ae;exact qgy
 ·skip
  obtain⟨s0,s1,s2⟩:=Ab HS.o.k5
  by_cases tm:(0:Int)<(nr:Int)
  ·have ni:0<nr:=qg
   obtain⟨b,c,o,eq,c0,c1,c2,O3,se,hlb,tu,sh⟩:=HS.o.rc ni;cases eq;have tj:=Ad tu;have ig:=Ad sh;have vr:=Ad se;obtain⟨cv,ecv⟩:=Aj (cvs 0);obtain⟨lv,elv⟩:=Aj (lvs 0);have me:=Ad elv;have Is:=Ad ecv;rw[ecv]at c0 tj;rw[elv]at c1 ig;clear tu sh se ecv elv;obtain⟨cg,cn,cc,rfl⟩:=tj.o.sl;obtain⟨la,ln,lc,rfl,_,wh⟩:=ig.o.sl;have gz:ln≤200:=te.o 0 la ln lc ni me.o;have je:=Ad wh;clear wh
   have co:o.size≤8:=by
    obtain⟨b',c',o',e',_,ml,As⟩:=If.o ni
    cases e'
    rw[c2]at ml
    cases ml
    exact As
   have zu:=Ad c2;clear c0 c1 c2;go_wp2_with fail;clear s0 s1 s2;have ho9:¬ 9223372036854775807<o.size+1:=qg;refine Lt.begin 10 (λw'=>w'.cell? ⟨g5,2,N⟩=M (J (p_ b) nr rc)∧w'.cell? ⟨b,2,N⟩=M (S o)) qk ?_;obtain⟨wD,eD⟩:=Aj w7.drew;rw[eD];have ao:Bw w7 wD:=qq;clear eD;replace HS:=Ad (HS.o.bl aj ao);replace zu:=Ad (Aa ao zu.o);replace vr:=Ad (vr.o.bl ao);clear ao;have aw:wD.cell? ⟨g5,2,N⟩=M (J (p_ b) nr rc)∧wD.cell? ⟨b,2,N⟩=M (S o):=⟨(Ab HS.o.k5).2.2,zu.o⟩;change K 0 _
   iterate 8
    refine Lt.ti (v:=?_) aw ?_ ?_;rotate_left 1
    ·exact qy
    simp only[gX]
   (have xm:(o++(⟨#[120]⟩:By)).size≤60000:=by rw[ByteArray.size_append];show o.size+1≤60000;omega);generalize o++(⟨#[120]⟩:By)=ox at xm ⊢;refine Lt.sp (i:=8) (λK hK=>?_);go_simp;refine hK.out _ _ (λ_=>aw) (λ_=>?_);clear hK K 
   try simp only[gX]
   refine Lt.sp (i:=9) (λK hK=>?_);go_simp;refine hK.out _ _ (λ_=>aw) (λ_=>?_);clear hK K 
   try simp only[gX]
   (have bf:∀j,wD.frozen? ⟨b,j,N⟩=false:=λj=>by obtain⟨cs,q⟩:=vr.o;exact fH q j);have d2:=zu.o;obtain⟨w9,e9⟩:=Aj (wD.setCell ⟨b,2,N⟩ (S ox));have fa:=Ad (HS.o.o2 aj ni xm);rw[e9]at fa;refine Lt.sp (i:=10) (λK hK=>?_);go_simp
   try rw[e9]
   refine hK.out _ _ (λh=>absurd h qh) (λ_=>?_);clear hK K e9 bf d2;exact qhi
  ·skip
   exact qbm
 ·skip
  obtain⟨s0,s1,s2⟩:=Ab HS.o.k5
  by_cases tm:(0:Int)<(nr:Int)
  ·have ni:0<nr:=qg
   obtain⟨b,c,o,eq,c0,c1,c2,O3,se,hlb,tu,sh⟩:=HS.o.rc ni;cases eq;have tj:=Ad tu;have ig:=Ad sh;have vr:=Ad se;obtain⟨cv,ecv⟩:=Aj (cvs 0);obtain⟨lv,elv⟩:=Aj (lvs 0);have me:=Ad elv;have Is:=Ad ecv;rw[ecv]at c0 tj;rw[elv]at c1 ig;clear tu sh se ecv elv;obtain⟨cg,cn,cc,rfl⟩:=tj.o.sl;obtain⟨la,ln,lc,rfl,_,wh⟩:=ig.o.sl;have gz:ln≤200:=te.o 0 la ln lc ni me.o;have je:=Ad wh;clear wh;have o5:=Ad c0;obtain⟨f9,ys0,gg,gc,eg,r1,r2,r3,r4,r5⟩:=HCG.o 0 ni;rw[Is.o]at eg r1;cases eg;have ky:Hd (Dl w7 (p_ cg) f9):=Wo rfl r1 r2;have HR5:=Ad r5;clear r1 r2 r5 c0 c1 c2;go_wp2_with fail;clear s0 s1 s2;refine Lt.begin 11 (λw'=>w'.cell? ⟨g5,2,N⟩=M (J (p_ b) nr rc)∧w'.cell? ⟨b,0,N⟩=M (J (p_ cg) f9.length cc)) qk ?_;obtain⟨wD,eD⟩:=Aj w7.drew;rw[eD];have ao:Bw w7 wD:=qq;clear eD;replace HS:=Ad (HS.o.bl aj ao);replace o5:=Ad (Aa ao o5.o);replace vr:=Ad (vr.o.bl ao);replace ky:=Ad (ky.o.bl ao);clear ao;have aw:wD.cell? ⟨g5,2,N⟩=M (J (p_ b) nr rc)∧wD.cell? ⟨b,0,N⟩=M (J (p_ cg) f9.length cc):=⟨(Ab HS.o.k5).2.2,o5.o⟩;change K 0 _
   iterate 8
    refine Lt.ti (v:=?_) aw ?_ ?_;rotate_left 1
    ·exact qy
    simp only[gX]
   refine Lt.sp (i:=8) (λK hK=>?_);go_simp;obtain⟨k1,p',k2,k3⟩:=HS.o.rd;refine(Xe B R a len cap p' cg cc f9 wD k3 (Nat.le_trans aj k1.size) qg ky.o r3 r4 HR5.o).mono ?_;rintro e w8 ⟨g,m8,c8,is8,rfl,T9,hm8,am,q,hq,hr⟩;have az:Ba B R a len cap p (1+300) w w8:=⟨Dr k1 am,q,qg,hr⟩;have lp:Hd (Qd w8 w.heap.size (J (p_ g) m8 c8)):=(T9.cdO hm8).base (zo HS.o.rd.size);clear T9 hr k1 k2 k3;replace HS:=Ad (HS.o.gb df qg az am);replace o5:=Ad (Qq o5.o am qg);replace vr:=Ad (hasT_gb vr.o am qg);have bj:w8.cell? ⟨g5,2,N⟩=M (J (p_ b) nr rc)∧w8.cell? ⟨b,0,N⟩=M (J (p_ cg) f9.length cc):=⟨(Ab HS.o.k5).2.2,o5.o⟩;refine hK.out _ _ (λ_=>bj) (λ_=>?_);clear hK K az am
   try simp only[gX]
   refine Lt.sp (i:=9) (λK hK=>?_);go_simp;refine hK.out _ _ (λ_=>bj) (λ_=>?_);clear hK K 
   try simp only[gX]
   refine Lt.sp (i:=10) (λK hK=>?_);go_simp;refine hK.out _ _ (λ_=>bj) (λ_=>?_);clear hK K 
   try simp only[gX]
   (have bf:∀j,w8.frozen? ⟨b,j,N⟩=false:=λj=>by obtain⟨cs,q⟩:=vr.o;exact fH q j);have d0:=o5.o;obtain⟨w9,e9⟩:=Aj (w8.setCell ⟨b,0,N⟩ (J (p_ g) m8 c8));have fa:=Ad (HS.o.a0 aj ni lp.o);rw[e9]at fa;refine Lt.sp (i:=11) (λK hK=>?_);go_simp
   try rw[e9]
   refine hK.out _ _ (λh=>absurd h qh) (λ_=>?_);clear hK K e9 bf d0;exact qhi
  ·skip
   exact qbm
 ·skip
  obtain⟨s0,s1,s2⟩:=Ab HS.o.k5
  by_cases tm:(0:Int)<(nr:Int)
  ·have ni:0<nr:=qg
   obtain⟨b,c,o,eq,c0,c1,c2,O3,se,hlb,tu,sh⟩:=HS.o.rc ni;cases eq;have tj:=Ad tu;have ig:=Ad sh;have vr:=Ad se;obtain⟨cv,ecv⟩:=Aj (cvs 0);obtain⟨lv,elv⟩:=Aj (lvs 0);have me:=Ad elv;have Is:=Ad ecv;rw[ecv]at c0 tj;rw[elv]at c1 ig;clear tu sh se ecv elv;obtain⟨cg,cn,cc,rfl⟩:=tj.o.sl;obtain⟨la,ln,lc,rfl,_,wh⟩:=ig.o.sl;have gz:ln≤200:=te.o 0 la ln lc ni me.o;have je:=Ad wh;clear wh;go_wp2_with fail;clear s0 s1 s2 c0 c1 c2;refine(HS.o.rd.pick qg 2 qg qg).mono ?_;rintro e w8 ⟨z,rfl,hz,az,am⟩;replace HS:=Ad (HS.o.gb df qg az am);clear az am je ig tj vr Is;obtain⟨kk,ekk⟩:∃k:X,k=200+z:=⟨_,rfl⟩;have U3:kk≤201:=qg;have D7:(200:Int)+(z:Int)=(kk:Int):=qg;have we:IntKind.wrap .i64 (kk:Int)=(kk:Int):=Pj qg;clear ekk;go_wp2_with fail
   go_loopg [] (300-ln) (λgk wr=>∃(lvs:X→Z)(la:Option Addr)(ln lc:X),Hd (lvs 0=J la ln lc)∧ln≤201∧Hd (gk+ln=300)∧Hd (Hx w B R a len cap p n g5 nr (1+1) True wr (n:Int) (J (p_ g1) nt t2) nt (J (p_ b) nr rc) cvs lvs))
   case atStart=>exact⟨lvs,la,ln,lc,me,qg,(show 300-ln+ln=300 from qg),HS⟩
   case round=>
    clear HS me te HCG;obtain⟨lvs,la,ln,lc,me,gz,HGK,HS⟩:=hrel;obtain⟨b',c',o,eq,c0,c1,c2,O3,se,hlb,tu,sh⟩:=HS.o.rc ni;cases eq;rw[me.o]at c1 sh;have ig:=Ad sh;have vr:=Ad se;obtain⟨s0,s1,s2⟩:=Ab HS.o.k5;clear sh se tu
    by_cases au:(ln:Int)<(kk:Int)
    ·have gw:=Ad c1
     go_wp2_with fail;clear s0 s1 s2 c0 c1 c2;refine Lt.begin 15 (λw'=>w'.cell? ⟨g5,2,N⟩=M (J (p_ b) nr rc)∧w'.cell? ⟨b,1,N⟩=M (J la ln lc)∧w'.cell? ⟨w.heap.size,0,N⟩=M (I (n:Int))) qk ?_;obtain⟨wD,eD⟩:=Aj wr.drew;rw[eD];have ao:Bw wr wD:=qq;clear eD;replace HS:=Ad (HS.o.bl aj ao);replace gw:=Ad (Aa ao gw.o);replace ig:=Ad (ig.o.bl ao);clear ao;have aw:wD.cell? ⟨g5,2,N⟩=M (J (p_ b) nr rc)∧wD.cell? ⟨b,1,N⟩=M (J la ln lc)∧wD.cell? ⟨w.heap.size,0,N⟩=M (I (n:Int)):=⟨(Ab HS.o.k5).2.2,gw.o,HS.o.c3⟩;change K 0 _
     iterate 9
      refine Lt.ti (v:=?_) aw ?_ ?_;rotate_left 1
      ·exact qbp
      simp only[gX]
     refine Lt.sp (i:=9) (λK hK=>?_);go_simp;refine(Ha ⟨#[115]⟩ n _ qh qg).mono ?_;rintro e wM ⟨r,rfl,hr,rfl⟩;refine hK.out _ _ (λ_=>aw) (λ_=>?_);clear hK K 
     try simp only[gX]
     (have T5:r.size≤60000:=by have e1:(⟨#[115]⟩:By).size=1:=rfl;rw[e1]at hr;omega);refine Lt.ti (i:=10) (v:=?_) aw ?_ ?_;rotate_left 1
     ·exact qbp
     simp only[gX];refine Lt.sp (i:=11) (λK hK=>?_);go_simp;refine Bm (Q:=λx=>K _ x) ?_;intro wL bz gl
     try dsimp only
     obtain⟨dL,edL⟩:=Aj wM.heap.size;rw[edL]at gl ⊢;replace HS:=Ad (HS.o.bl aj bz);replace gw:=Ad (Aa bz gw.o);replace ig:=Ad (ig.o.bl bz);have bj:wL.cell? ⟨g5,2,N⟩=M (J (p_ b) nr rc)∧wL.cell? ⟨b,1,N⟩=M (J la ln lc)∧wL.cell? ⟨w.heap.size,0,N⟩=M (I (n:Int)):=⟨(Ab HS.o.k5).2.2,gw.o,HS.o.c3⟩;refine hK.out _ _ (λ_=>bj) (λ_=>?_);clear hK K bz
     try simp only[gX]
     obtain⟨gs,ys,l1,l2,l3,l4⟩:=ig.o;obtain⟨a',c',eL⟩:=Ax l1;(have enl:gs.length=ln:=by cases eL;rfl);have pc:w.heap.size≤wL.heap.size:=HS.o.rd.size;rw[enl]at l1;clear eL;refine Lt.sp (i:=12) (λK hK=>?_);refine Ra rfl qo w.heap.size _ ln ys qo l1 dL ⟨#[97]⟩ false r qo gl.o pc qg ?_;intro g' ai wA ak ae br;have ld:Gs wA w.heap.size (J (p_ g') (ln+1) ai):=Gs.add (x:=⟨⟨#[97]⟩,false,r⟩) (by rw[enl];exact ak) l2 (by rw[enl];exact l1.1) qg l4 (show(⟨#[97]⟩:By).size≤60000 from qh) T5;obtain⟨jt,fh,se,hkc,yr⟩:=HS.o.grow aj ni (by rw[me.o];exact ae) ld (by rw[me.o];rcases br with q|q;exact Or.inl q;exact Or.inr (λg e=>by simp[Value.ownBlock]at e;omega));rw[me.o]at fh;obtain⟨w9,e9⟩:=Aj (wA.setCell ⟨b,1,N⟩ (J (p_ g') (ln+1) ai));rw[e9]at yr;have fa:=Ad yr;(have bf:∀j,wA.frozen? ⟨b,j,N⟩=false:=λj=>by obtain⟨cs,q⟩:=se;exact fH q j);obtain⟨v0,v1,v2⟩:=Ab jt;have iy:wA.cell? ⟨g5,2,N⟩=M (J (p_ b) nr rc)∧wA.cell? ⟨b,1,N⟩=M (J la ln lc)∧wA.cell? ⟨w.heap.size,0,N⟩=M (I (n:Int)):=⟨v2,fh,hkc⟩;refine hK.out _ _ (λ_=>iy) (λ_=>?_);clear hK K ak ae gl yr ld l1 l2 l3 l4 enl pc HS br se ig gw
     try simp only[gX]
     refine Lt.sp (i:=13) (λK hK=>?_);go_simp;refine hK.out _ _ (λ_=>iy) (λ_=>?_);clear hK K 
     try simp only[gX]
     refine Lt.sp (i:=14) (λK hK=>?_);go_simp;refine hK.out _ _ (λ_=>iy) (λ_=>?_);clear hK K 
     try simp only[gX]
     refine Lt.sp (i:=15) (λK hK=>?_);go_simp
     try rw[e9]
     refine hK.out _ _ (λh=>absurd h qh) (λ_=>?_);clear hK K e9 v0 v1 v2 fh hkc bf iy
     try simp only[gX]
     refine Lt.done qk ?_ _;go_wp2
     go_roundg (gk-1)
     case measure=>have:=HGK.o;omega
     case rel=>exact⟨_,p_ g',ln+1,ai,Gw _ _ _,qg,(show gk-1+(ln+1)=300 by have:=HGK.o;omega),fa⟩
    ·skip
     obtain⟨AL,eY⟩:=Aj (((wr.setCell ⟨w.heap.size+1,0,N⟩ (I (n:Int))).setCell ⟨w.heap.size+1,1,N⟩ (J (p_ g1) nt t2)).setCell ⟨w.heap.size+1,2,N⟩ (J (p_ b) nr rc));exact qhv
  ·skip
   exact qbm
 ·skip
  obtain⟨s0,s1,s2⟩:=Ab HS.o.k5
  by_cases tm:(0:Int)<(nr:Int)
  ·have ni:0<nr:=qg
   obtain⟨b,c,o,eq,c0,c1,c2,O3,se,hlb,tu,sh⟩:=HS.o.rc ni;cases eq;have tj:=Ad tu;have ig:=Ad sh;have vr:=Ad se;obtain⟨cv,ecv⟩:=Aj (cvs 0);obtain⟨lv,elv⟩:=Aj (lvs 0);have me:=Ad elv;have Is:=Ad ecv;rw[ecv]at c0 tj;rw[elv]at c1 ig;clear tu sh se ecv elv;obtain⟨cg,cn,cc,rfl⟩:=tj.o.sl;obtain⟨la,ln,lc,rfl,_,wh⟩:=ig.o.sl;have gz:ln≤200:=te.o 0 la ln lc ni me.o;have je:=Ad wh;clear wh;go_wp2_with fail;clear s0 s1 s2 c0 c1 c2;refine(HS.o.rd.pick qg 2 qg qg).mono ?_;rintro e w8 ⟨z,rfl,hz,az,am⟩;replace HS:=Ad ((HS.o.gb df qg az am).weak);clear az am je ig tj vr Is me te HCG If;obtain⟨kk,ekk⟩:∃k:X,k=2000+z:=⟨_,rfl⟩;have U3:kk≤2001:=qg;have D7:(2000:Int)+(z:Int)=(kk:Int):=qg;have we:IntKind.wrap .i64 (kk:Int)=(kk:Int):=Pj qg;clear ekk;go_wp2_with fail
   go_loopg [] (3000-nr) (λgk wr=>∃(mr qb qc:X)(cvs lvs:X→Z),mr≤2001∧0<mr∧Hd (gk+mr=3000)∧Hd (Hx w B R a len cap p n g5 mr (1+1) False wr (n:Int) (J (p_ g1) nt t2) nt (J (p_ qb) mr qc) cvs lvs))
   case atStart=>exact⟨nr,b,rc,cvs,lvs,qg,ni,(show 3000-nr+nr=3000 from qg),HS⟩
   case round=>
    clear HS;obtain⟨mr,qb,qc,cvs,lvs,hmr,hm0,HGK,HS⟩:=hrel;obtain⟨s0,s1,s2⟩:=Ab HS.o.k5
    by_cases au:(mr:Int)<(kk:Int)
    ·go_wp2_with fail
     clear s0 s1 s2;refine Lt.begin 9 (λw'=>w'.cell? ⟨g5,2,N⟩=M (J (p_ qb) mr qc)) qk ?_;obtain⟨wD,eD⟩:=Aj wr.drew;rw[eD];have ao:Bw wr wD:=qq;clear eD;replace HS:=Ad (HS.o.bl aj ao);clear ao;have aw:wD.cell? ⟨g5,2,N⟩=M (J (p_ qb) mr qc):=(Ab HS.o.k5).2.2;change K 0 _
     iterate 5
      refine Lt.ti (v:=?_) aw ?_ ?_;rotate_left 1
      ·exact qam
      simp only[gX]
     obtain⟨b',c',o,eq,c0,c1,c2,O3,se,hlb,tu,sh⟩:=HS.o.rc hm0;cases eq;obtain⟨cv,ecv⟩:=Aj (cvs 0);obtain⟨lv,elv⟩:=Aj (lvs 0);have me:=Ad elv;have Is:=Ad ecv;rw[ecv]at c0 tu;rw[elv]at c1 sh;clear ecv elv;obtain⟨cg,cn,cc,rfl⟩:=tu.sl;obtain⟨la,ln,lc,rfl,_,_⟩:=sh.sl;clear tu sh se;refine Lt.sp (i:=5) (λK hK=>?_);go_simp;refine hK.out _ _ (λ_=>aw) (λ_=>?_);clear hK K c0 c1 c2
     try simp only[gX]
     refine Lt.sp (i:=6) (λK hK=>?_);go_simp;refine Bm (Q:=λx=>K _ x) ?_;intro wL bz gl
     try dsimp only
     obtain⟨dL,edL⟩:=Aj wD.heap.size;rw[edL]at gl ⊢;replace HS:=Ad (HS.o.bl aj bz);have bj:wL.cell? ⟨g5,2,N⟩=M (J (p_ qb) mr qc):=(Ab HS.o.k5).2.2;refine hK.out _ _ (λ_=>bj) (λ_=>?_);clear hK K bz
     try simp only[gX]
     obtain⟨xs,os,tp⟩:=HS.o.rx;have pc:w.heap.size≤wL.heap.size:=HS.o.rd.size;refine Lt.sp (i:=7) (λK hK=>?_);refine Qz rfl qo w.heap.size _ mr xs qo tp.row dL _ _ _ qo gl.o qcu pc qg ?_;intro g' ai wA ak ae _;obtain⟨jt,E8,C7,yr⟩:=HS.o.appR (qv':=J (p_ g') (mr+1) ai) aj qg hm0 qg tp (by rw[Is.o,me.o];exact ak) O3 ae;obtain⟨w9,e9⟩:=Aj (wA.setCell ⟨g5,2,N⟩ (J (p_ g') (mr+1) ai));rw[e9]at yr;have fa:=Ad yr;have vf:=(λj=>fH jt j);obtain⟨v0,v1,v2⟩:=Ab jt;refine hK.out _ _ (λ_=>v2) (λ_=>?_);clear hK K ak ae gl yr pc HS tp jt
     try simp only[gX]
     refine Lt.ti (i:=8) (v:=?_) v2 ?_ ?_;rotate_left 1
     ·exact qam
     simp only[gX];refine Lt.sp (i:=9) (λK hK=>?_);go_simp
     try rw[e9]
     refine hK.out _ _ (λh=>absurd h qh) (λ_=>?_);clear hK K e9 v0 v1 v2 vf
     try simp only[gX]
     refine Lt.done qk ?_ _;go_wp2
     go_roundg (gk-1)
     case measure=>have:=HGK.o;omega
     case rel=>exact⟨mr+1,g',ai,E8,C7,qg,qg,(show gk-1+(mr+1)=3000 by have:=HGK.o;omega),fa⟩
    ·skip
     obtain⟨AL,eY⟩:=Aj (((wr.setCell ⟨w.heap.size+1,0,N⟩ (I (n:Int))).setCell ⟨w.heap.size+1,1,N⟩ (J (p_ g1) nt t2)).setCell ⟨w.heap.size+1,2,N⟩ (J (p_ qb) mr qc));have jq:=Ad (HS.o.fin aj df qg AL eY);obtain⟨u0,u1,u2⟩:=Ab HS.o.k5;obtain⟨z0,z1,z2⟩:=Ab HS.o.k4;have zf:=(λj=>fH HS.o.k4 j);go_wp2;obtain⟨jY,⟨T',R',e1,e2⟩,dr⟩:=jq.o;obtain⟨q0,q1,q2⟩:=Ab jY;exact bR (v:=G #[I (n:Int),J (p_ g1) nt t2,J (p_ qb) mr qc]) qaf rfl (by first|exact⟨_,_,_,_,_,_,_,T',R',rfl,e1,e2,dr.more qg⟩|exact⟨_,_,_,_,_,_,_,rfl,T',R',e1,e2,dr.more qg⟩)
  ·skip
   exact qbm
 ·skip
  obtain⟨s0,s1,s2⟩:=Ab HS.o.k5
  by_cases tm:(0:Int)<(nr:Int)
  ·have ni:0<nr:=qg
   obtain⟨b,c,o,eq,c0,c1,c2,O3,se,hlb,tu,sh⟩:=HS.o.rc ni;cases eq;have tj:=Ad tu;have ig:=Ad sh;have vr:=Ad se;obtain⟨cv,ecv⟩:=Aj (cvs 0);obtain⟨lv,elv⟩:=Aj (lvs 0);have me:=Ad elv;have Is:=Ad ecv;rw[ecv]at c0 tj;rw[elv]at c1 ig;clear tu sh se ecv elv;obtain⟨cg,cn,cc,rfl⟩:=tj.o.sl;obtain⟨la,ln,lc,rfl,_,wh⟩:=ig.o.sl;have gz:ln≤200:=te.o 0 la ln lc ni me.o;have je:=Ad wh;clear wh
   by_cases hlI:(0:Int)<(ln:Int)
   ·rcases je.o with⟨rfl,rfl,rfl⟩|⟨g,rfl,uo,S8⟩
    ·exact absurd hlI qh
    ·have hl0:0<ln:=qg
     have gw:=Ad c1;go_wp2_with fail;clear s0 s1 s2 c0 c1 c2 S8 je;refine Lt.begin 13 (λw'=>w'.cell? ⟨g5,2,N⟩=M (J (p_ b) nr rc)∧w'.cell? ⟨b,1,N⟩=M (J (p_ g) ln lc)) qk ?_;obtain⟨wD,eD⟩:=Aj w7.drew;rw[eD];have ao:Bw w7 wD:=qq;clear eD;replace HS:=Ad (HS.o.bl aj ao);replace gw:=Ad (Aa ao gw.o);replace ig:=Ad (ig.o.bl ao);clear ao;have aw:wD.cell? ⟨g5,2,N⟩=M (J (p_ b) nr rc)∧wD.cell? ⟨b,1,N⟩=M (J (p_ g) ln lc):=⟨(Ab HS.o.k5).2.2,gw.o⟩;change K 0 _
     iterate 5
      refine Lt.ti (v:=?_) aw ?_ ?_;rotate_left 1
      ·exact qy
      simp only[gX]
     refine Lt.ti (i:=7) (v:=?_) aw ?_ ?_;rotate_left 1
     ·exact qy
     simp only[gX];refine Lt.sp (i:=5) (λK hK=>?_);go_simp;refine(Ha ⟨#[110]⟩ 61 _ qh qg).mono ?_;rintro e wM ⟨r,rfl,hr,rfl⟩;refine hK.out _ _ (λ_=>aw) (λ_=>?_);clear hK K 
     try simp only[gX]
     (have T5:r.size≤60000:=by have e1:(⟨#[110]⟩:By).size=1:=rfl;rw[e1]at hr;omega);have HDM:Hd (w.heap.size≤wM.heap.size):=HS.o.rd.size;refine Lt.two (i:=6) (j:=8) (oi:={ dst:=M 175,op:=Op.buildSlice 23 3 #[(0,Operand.const (Value.string { data:=#[] })),(1,Operand.const (Value.string { data:=#[120,32,121] })),(2,Operand.tmp 174)],type:=23,pos := "l4_draw.go:137",after:=#[{ on:=5,ground:=Ground.data }],guard:=N }) (oj:={ dst:=M 177,op:=Op.call { callee:=Callee.value (Operand.func 14),args:=#[Operand.tmp 176,Operand.const (I 3)],argTypes:=#[39,3] },type:=3,pos := "l4_draw.go:137",after:=#[{ on:=7,ground:=Ground.data },{ on:=5,ground:=Ground.chain }],guard:=N }) qk rfl rfl (λK hK=>?_) (λK hK=>?_)
     ·skip
      go_simp;refine Bm (Q:=λx=>K _ x) ?_;intro wL bz gl
      try dsimp only
      obtain⟨dL,edL⟩:=Aj wM.heap.size;rw[edL]at gl ⊢;replace HS:=Ad (HS.o.bl aj bz);replace gw:=Ad (Aa bz gw.o);replace ig:=Ad (ig.o.bl bz);have bj:wL.cell? ⟨g5,2,N⟩=M (J (p_ b) nr rc)∧wL.cell? ⟨b,1,N⟩=M (J (p_ g) ln lc):=⟨(Ab HS.o.k5).2.2,gw.o⟩;refine hK.out _ _ (λ_=>bj) (λ_=>?_);clear hK K bz
      try simp only[gX]
      (have hdR:dL≠R:=by have:=HS.o.rd.size;have:=An gl.o;have:=HDM.o;omega);refine Lt.sp (i:=8) (λK hK=>?_);go_simp;refine(HS.o.rd.pick qg 3 qg qg).mono ?_;rintro e w8 ⟨z,rfl,hz,az,am⟩;replace HS:=Ad (HS.o.gb df qg az am);replace gw:=Ad (Qq gw.o am qg);replace ig:=Ad (ig.o.gb am df);replace gl:=Ad (Az gl.o am hdR);have cz:w8.cell? ⟨g5,2,N⟩=M (J (p_ b) nr rc)∧w8.cell? ⟨b,1,N⟩=M (J (p_ g) ln lc):=⟨(Ab HS.o.k5).2.2,gw.o⟩;refine hK.out _ _ (λ_=>cz) (λ_=>?_);clear hK K az am
      try simp only[gX]
      obtain⟨y0,y1,y2⟩:=Ab gl.o
      have zj:Hd (Ai w8 g 79):=by
       exact qjx
      (have gf:∀j,w8.frozen? ⟨g,j,N⟩=false:=λj=>by obtain⟨cs,q⟩:=zj.o;exact fH q j);obtain⟨xg,d0,d1,d2⟩:=ig.o.at hl0;simp only[Nat.zero_mul,Nat.zero_add]at d0 d1 d2
      rcases(show z=0∨z=1∨z=2 from qg)with rfl|rfl|rfl
      ·skip
       refine Lt.sp (i:=9) (λK hK=>?_);go_simp;refine hK.out _ _ (λ_=>cz) (λ_=>?_);clear hK K 
       try simp only[gX]
       refine Lt.sp (i:=10) (λK hK=>?_);go_simp;refine hK.out _ _ (λ_=>cz) (λ_=>?_);clear hK K 
       try simp only[gX]
       refine Lt.sp (i:=11) (λK hK=>?_);go_simp;refine hK.out _ _ (λ_=>cz) (λ_=>?_);clear hK K 
       try simp only[gX]
       refine Lt.sp (i:=12) (λK hK=>?_);go_simp;refine hK.out _ _ (λ_=>cz) (λ_=>?_);clear hK K 
       try simp only[gX]
       obtain⟨w9,e9⟩:=Aj (w8.setCell ⟨g,0,N⟩ ze);exact qhc
      ·skip
       refine Lt.sp (i:=9) (λK hK=>?_);go_simp;refine hK.out _ _ (λ_=>cz) (λ_=>?_);clear hK K 
       try simp only[gX]
       refine Lt.sp (i:=10) (λK hK=>?_);go_simp;refine hK.out _ _ (λ_=>cz) (λ_=>?_);clear hK K 
       try simp only[gX]
       refine Lt.sp (i:=11) (λK hK=>?_);go_simp;refine hK.out _ _ (λ_=>cz) (λ_=>?_);clear hK K 
       try simp only[gX]
       refine Lt.sp (i:=12) (λK hK=>?_);go_simp;refine hK.out _ _ (λ_=>cz) (λ_=>?_);clear hK K 
       try simp only[gX]
       obtain⟨w9,e9⟩:=Aj (w8.setCell ⟨g,0,N⟩ (S ⟨#[120,32,121]⟩));exact qhb
      ·skip
       refine Lt.sp (i:=9) (λK hK=>?_);go_simp;refine hK.out _ _ (λ_=>cz) (λ_=>?_);clear hK K 
       try simp only[gX]
       refine Lt.sp (i:=10) (λK hK=>?_);go_simp;refine hK.out _ _ (λ_=>cz) (λ_=>?_);clear hK K 
       try simp only[gX]
       refine Lt.sp (i:=11) (λK hK=>?_);go_simp;refine hK.out _ _ (λ_=>cz) (λ_=>?_);clear hK K 
       try simp only[gX]
       refine Lt.sp (i:=12) (λK hK=>?_);go_simp;refine hK.out _ _ (λ_=>cz) (λ_=>?_);clear hK K 
       try simp only[gX]
       obtain⟨w9,e9⟩:=Aj (w8.setCell ⟨g,0,N⟩ (S r));exact qhd
     ·skip
      go_simp;refine(HS.o.rd.pick qg 3 qg qg).mono ?_;rintro e w8 ⟨z,rfl,hz,az,am⟩;replace HS:=Ad (HS.o.gb df qg az am);replace gw:=Ad (Qq gw.o am qg);replace ig:=Ad (ig.o.gb am df);have o9:w8.cell? ⟨g5,2,N⟩=M (J (p_ b) nr rc)∧w8.cell? ⟨b,1,N⟩=M (J (p_ g) ln lc):=⟨(Ab HS.o.k5).2.2,gw.o⟩;refine hK.out _ _ (λ_=>o9) (λ_=>?_);clear hK K az am
      try simp only[gX]
      refine Lt.sp (i:=6) (λK hK=>?_);go_simp;refine Bm (Q:=λx=>K _ x) ?_;intro wL bz gl
      try dsimp only
      obtain⟨dL,edL⟩:=Aj w8.heap.size;rw[edL]at gl ⊢;replace HS:=Ad (HS.o.bl aj bz);replace gw:=Ad (Aa bz gw.o);replace ig:=Ad (ig.o.bl bz);have gj:wL.cell? ⟨g5,2,N⟩=M (J (p_ b) nr rc)∧wL.cell? ⟨b,1,N⟩=M (J (p_ g) ln lc):=⟨(Ab HS.o.k5).2.2,gw.o⟩;refine hK.out _ _ (λ_=>gj) (λ_=>?_);clear hK K bz
      try simp only[gX]
      obtain⟨y0,y1,y2⟩:=Ab gl.o
      have zj:Hd (Ai wL g 79):=by
       exact qjx
      (have gf:∀j,wL.frozen? ⟨g,j,N⟩=false:=λj=>by obtain⟨cs,q⟩:=zj.o;exact fH q j);obtain⟨xg,d0,d1,d2⟩:=ig.o.at hl0;simp only[Nat.zero_mul,Nat.zero_add]at d0 d1 d2
      rcases(show z=0∨z=1∨z=2 from qg)with rfl|rfl|rfl
      ·skip
       refine Lt.sp (i:=9) (λK hK=>?_);go_simp;refine hK.out _ _ (λ_=>gj) (λ_=>?_);clear hK K 
       try simp only[gX]
       refine Lt.sp (i:=10) (λK hK=>?_);go_simp;refine hK.out _ _ (λ_=>gj) (λ_=>?_);clear hK K 
       try simp only[gX]
       refine Lt.sp (i:=11) (λK hK=>?_);go_simp;refine hK.out _ _ (λ_=>gj) (λ_=>?_);clear hK K 
       try simp only[gX]
       refine Lt.sp (i:=12) (λK hK=>?_);go_simp;refine hK.out _ _ (λ_=>gj) (λ_=>?_);clear hK K 
       try simp only[gX]
       obtain⟨w9,e9⟩:=Aj (wL.setCell ⟨g,0,N⟩ ze);exact qhc
      ·skip
       refine Lt.sp (i:=9) (λK hK=>?_);go_simp;refine hK.out _ _ (λ_=>gj) (λ_=>?_);clear hK K 
       try simp only[gX]
       refine Lt.sp (i:=10) (λK hK=>?_);go_simp;refine hK.out _ _ (λ_=>gj) (λ_=>?_);clear hK K 
       try simp only[gX]
       refine Lt.sp (i:=11) (λK hK=>?_);go_simp;refine hK.out _ _ (λ_=>gj) (λ_=>?_);clear hK K 
       try simp only[gX]
       refine Lt.sp (i:=12) (λK hK=>?_);go_simp;refine hK.out _ _ (λ_=>gj) (λ_=>?_);clear hK K 
       try simp only[gX]
       obtain⟨w9,e9⟩:=Aj (wL.setCell ⟨g,0,N⟩ (S ⟨#[120,32,121]⟩));exact qhb
      ·skip
       refine Lt.sp (i:=9) (λK hK=>?_);go_simp;refine hK.out _ _ (λ_=>gj) (λ_=>?_);clear hK K 
       try simp only[gX]
       refine Lt.sp (i:=10) (λK hK=>?_);go_simp;refine hK.out _ _ (λ_=>gj) (λ_=>?_);clear hK K 
       try simp only[gX]
       refine Lt.sp (i:=11) (λK hK=>?_);go_simp;refine hK.out _ _ (λ_=>gj) (λ_=>?_);clear hK K 
       try simp only[gX]
       refine Lt.sp (i:=12) (λK hK=>?_);go_simp;refine hK.out _ _ (λ_=>gj) (λ_=>?_);clear hK K 
       try simp only[gX]
       obtain⟨w9,e9⟩:=Aj (wL.setCell ⟨g,0,N⟩ (S r));exact qhd
   ·skip
    obtain⟨AL,eY⟩:=Aj (((w7.setCell ⟨w.heap.size+1,0,N⟩ (I (n:Int))).setCell ⟨w.heap.size+1,1,N⟩ (J (p_ g1) nt t2)).setCell ⟨w.heap.size+1,2,N⟩ (J (p_ b) nr rc));exact qhv
  ·skip
   exact qbm
 ·skip
  obtain⟨s0,s1,s2⟩:=Ab HS.o.k5
  by_cases tm:(0:Int)<(nt:Int)
  ·have h0N:0<nt:=qg
   obtain⟨t0,ct0,O1⟩:=HS.o.tx.at (i:=0) qg;have gw:=Ad ct0;clear ct0;go_wp2_with fail;clear s0 s1 s2;refine Lt.begin 9 (λw'=>w'.cell? ⟨g5,1,N⟩=M (J (p_ g1) nt t2)) qk ?_;obtain⟨wD,eD⟩:=Aj w7.drew;rw[eD];have ao:Bw w7 wD:=qq;clear eD;replace HS:=Ad (HS.o.bl aj ao);replace gw:=Ad (Aa ao gw.o);clear ao;have aw:wD.cell? ⟨g5,1,N⟩=M (J (p_ g1) nt t2):=(Ab HS.o.k5).2.1;change K 0 _
   iterate 5
    refine Lt.ti (v:=?_) aw ?_ ?_;rotate_left 1
    ·exact qam
    simp only[gX]
   have ct0:=gw.o;refine Lt.sp (i:=5) (λK hK=>?_);go_simp;refine hK.out _ _ (λ_=>aw) (λ_=>?_);clear hK K ct0
   try simp only[gX]
   refine Lt.sp (i:=6) (λK hK=>?_);go_simp;refine Bm (Q:=λx=>K _ x) ?_;intro wL bz gl
   try dsimp only
   obtain⟨dL,edL⟩:=Aj wD.heap.size;rw[edL]at gl ⊢;replace HS:=Ad (HS.o.bl aj bz);have bj:wL.cell? ⟨g5,1,N⟩=M (J (p_ g1) nt t2):=(Ab HS.o.k5).2.1;refine hK.out _ _ (λ_=>bj) (λ_=>?_);clear hK K bz
   try simp only[gX]
   obtain⟨TT,hT1,hT2,hT3,P5⟩:=HS.o.tx;have pc:w.heap.size≤wL.heap.size:=HS.o.rd.size;refine Lt.sp (i:=7) (λK hK=>?_);refine Lu rfl qo w.heap.size _ nt (Ar TT) qo P5 dL t0 qo gl.o pc qg ?_;intro g' ai wA ak ae _;obtain⟨jt,yr⟩:=HS.o.appT aj qg hT1 qg hT3 P5 O1 ak ae;exact qgy
  ·skip
   exact qbm
end Go.Proofs.YtoihflimijabjaaGreatDoor
