import Derived.Test.YtoihflimijabjaaGreatDoorBvL
namespace Go.Proofs.YtoihflimijabjaaGreatDoor
open _root_.Go.Proofs.Tryz Go.RowKit Go.Deep
open Value renaming slice->J,agg->G
open Option renaming some->M
open Obj renaming cells->O
open Go renaming Value->Z,World->E
open _root_ renaming List->L,Nat->X
set_option linter.unusedVariables false
set_option linter.unusedSimpArgs false
set_option maxHeartbeats 8000000
set_option maxRecDepth 100000
abbrev z10:Array Z:=#[I 0,ze,nS,I 0,nS,nS,nS,nS,ze,ze]
def BuildN(B:X)(n:Int)(T:L By)(R:L T3)(v:Z)(w':E):Prop:=
 ∃tx qv,v=G #[I 9,ze,nS,I n,tx,qv,nS,nS,ze,ze]/\Hb w' B tx qv T R
theorem Ux(n:Int)(xa:Option Addr)(tc:X)(qa sa ta:Option Addr)(qc c1 c2:X)(T:L By)(R:L T3)(ss:L S2)(ts:L T2)(nm:By)(w:E)(pj:∀a,xa=M a→∃b off,a=⟨b,off,none⟩)(n9:xa=none→T=[]∧tc=0)(du:Jy w xa T qa R)(sr:Hy w qa R)(hr:R.length≤1048576)(U3:∀i,i<R.length→(qx R i).code.length≤1048576∧(qx R i).looks.length≤1048576)(yq:Ku w sa ss ta ts)(nf:Hi ss ts)(iw:nm.size<=9223372036854775807)(nh:¬ (Cz n T R/\Gp ss ts=0/\Ay nm)):Calls prog 48 #[G #[I n,J xa T.length tc,J qa R.length qc],G #[J sa ss.length c1,J ta ts.length c2],.string nm] w λe w'=>Bw w w'/\∃v,e=.returned v/\BuildN w.heap.size n T R v w':=by
 obtain⟨W,eW⟩:=Aj (((w.alloc (O #[I n,J xa T.length tc,J qa R.length qc] 26)).alloc (O #[J sa ss.length c1,J ta ts.length c2] 44)).alloc (O z10 92));have f7:Bw w W:=by rw[←eW];exact Qa (Qa (Lr _ _) (Lr _ _)) (Lr _ _)
 have HQ:Hd (W.heap[w.heap.size]?=M (O #[I n,J xa T.length tc,J qa R.length qc] 26 (0,0))):=by show _=_;rw[←eW];exact Rm (Rm (Ma _ _))
 have HP:Hd (W.heap[w.heap.size+1]?=M (O #[J sa ss.length c1,J ta ts.length c2] 44 (0,0))):=by
  show _=_;rw[←eW];exact qig
 have HZ:Hd (W.heap[w.heap.size+1+1]?=M (O z10 92 (0,0))):=by
  show _=_;rw[←eW];have:=Ma ((w.alloc (O #[I n,J xa T.length tc,J qa R.length qc] 26)).alloc (O #[J sa ss.length c1,J ta ts.length c2] 44)) (O z10 92);exact qiv
 have sy:w.heap.size+1+1<W.heap.size:=Bq HZ.o;have ir:=Ad f7;obtain⟨q0,q1,q2,qf⟩:=Jp HQ.o;obtain⟨x0,x1⟩:=Bg HP.o;have L0:=Ad (Ei n _ _ tc qc T R W (du.bl f7));have HCK:=Ad (λ(V:E) (hV:Bw w V)=>Fm sa ta c1 c2 ss ts V (yq.bl hV) nf);have I0:=Ad (λ(V:E) (hV:Bw w V)=>Gy n xa tc qa qc T R V pj n9 (du.st.bl hV) (sr.bl hV) du.lt hr U3);have md:=Ad nh;clear du sr hr U3 yq nf f7 nh;go_enter func48,ntmps48;go_wp2_with fail;clear eW q0 q1 q2 qf x0 x1;refine L0.o.mono ?_;clear L0;rintro e w1 ⟨ah,b,rfl,hbi⟩;replace HQ:=Ad (Hq ah HQ.o);replace HP:=Ad (Hq ah HP.o);replace HZ:=Ad (Hq ah HZ.o);have pg:=Ad (bt ir.o ah);have gm:=ah.size;clear ah ir;cases b
 ·clear hbi HCK md
  obtain⟨x0,x1,x2,xf⟩:=Jp HQ.o;go_wp2_with fail;clear x0 x1 x2 xf;refine(I0.o w1 pg.o).mono ?_;rintro e w9 ⟨py,g1,p1,v2,rfl,o1,o2⟩;obtain⟨a2,p2,rfl,_⟩:=o2.sl;have V8:=Ad (Hq py HZ.o);have HB9:=Ad (bt pg.o py);have fa:=Ad (show Hb w9 w.heap.size (J (p_ g1) T.length p1) (J a2 R.length p2) T R from ⟨Al o1.own (zo pg.o.size),⟨g1,p1,rfl⟩,o2.recO.base (zo pg.o.size)⟩);have yr:=py.size;clear py o1 o2 HQ HP HZ I0 pg;obtain⟨zc0,zc1,zc2,zc3,zc4,zc5,zc6,zc7,zc8,zc9⟩:=Km V8.o;have zcf:=fZ V8.o;obtain⟨l,el⟩:∃l:L (X×X×Z),l=[((w.heap.size+1+1),0,I 9),((w.heap.size+1+1),1,ze),((w.heap.size+1+1),2,nS),((w.heap.size+1+1),3,I n),((w.heap.size+1+1),4,J (p_ g1) T.length p1),((w.heap.size+1+1),5,J a2 R.length p2),((w.heap.size+1+1),6,nS),((w.heap.size+1+1),7,nS),((w.heap.size+1+1),8,ze),((w.heap.size+1+1),9,ze)]:=⟨_,rfl⟩;have jw:∀x∈l,x.1=(w.heap.size+1+1):=qbv;have jk:=Jg l w9 _ jw V8.o;have hS:=fa.o.setU jw V8.o;have o8:Bw w (Ef w9 l):=Ek l w9 HB9.o (λx hx=>by rw[jw x hx];omega);obtain⟨V,eV⟩:=Aj (Ef w9 l);rw[eV]at jk o8 hS;rw[el]at jk eV;simp only[Ef,List.foldl]at eV;simp only[List.foldl,List.setIfInBounds_toArray,List.set_cons_zero,List.set_cons_succ]at jk;have HV:=Ad jk;have Q5:=Ad o8;have H_hS:=Ad hS;clear jk o8 el jw hS;go_wp2_with fail
  try rw[eV]
  obtain⟨y0,y1,y2,y3,y4,y5,y6,y7,y8,y9⟩:=Km HV.o;exact bR (v:=G #[I 9,ze,nS,I n,J (p_ g1) T.length p1,J a2 R.length p2,nS,nS,ze,ze]) qey rfl ⟨Q5.o,_,rfl,_,_,rfl,H_hS.o⟩
 have HWD:=Ad (hbi.1 rfl);clear hbi;obtain⟨x0,x1⟩:=Bg HP.o;have HC:=Ad (HCK.o w1 pg.o);have HNO2:Hd (¬ (Gp ss ts=0/\Ay nm)):=λh=>md.o ⟨HWD.o,h⟩;clear HCK md HWD;generalize Gp ss ts=ck at *;go_wp2_with fail;clear x0 x1;refine HC.o.mono ?_;clear HC;rintro e w2 ⟨a9,rfl⟩;replace HQ:=Ad (Hq a9 HQ.o);replace HP:=Ad (Hq a9 HP.o);replace HZ:=Ad (Hq a9 HZ.o);have ke:=Ad (bt pg.o a9);have fl:=a9.size;clear a9 pg
 by_cases hc:ck=0
 rotate_left 1
 ·have hcI:(ck == 0)=false:=qbj
  have hcN:(ck != 0)=true:=qbj;clear HNO2;exact qgq
 subst hc;have hnn:¬ Ay nm:=λh=>HNO2.o ⟨rfl,h⟩;have zp:=Ad (Cg hnn);clear HNO2 hnn;go_wp2_with fail;refine(Bb nm w2 iw).mono ?_;rintro e w3 ⟨rfl,rfl⟩;rw[zp.o];exact qgq
theorem BW.base{w:E}{lo lo':X}{d:BD}{cv tx qv nv ev:Z}{zs:L Z}{kv lv:X→Z}(h:BW w lo d cv tx qv nv ev zs kv lv)(hl:lo'≤lo):BW w lo' d cv tx qv nv ev zs kv lv:=
 ⟨Al h.ch hl,Al h.txs hl,⟨Al h.rq.row hl,h.rq.fil,λi hi=>by obtain⟨ys,a,b⟩:=h.rq.code i hi;exact⟨ys,Al a hl,b⟩,λi hi=>by obtain⟨ys,a,b⟩:=h.rq.look i hi;exact⟨ys,Al a hl,b⟩,h.rq.apc,h.rq.apl⟩,Al h.ran hl,Al h.held hl⟩
theorem Ww(k:Int):Ie k≤2000:=by unfold Ie;repeat' split<;>decide
theorem prog_text{is:L I3}(h:Aq is=true)(j:X):(ix is j).text.size≤maxLen:=by
 by_cases hj:j<is.length
 ·unfold Aq at h
  simp only[Bool.and_eq_true,decide_eq_true_eq]at h;have h1:=h.2 j hj;unfold Ev at h1;simp only[Bool.and_eq_true,decide_eq_true_eq]at h1;have h2:=Ww (Dv (ix is j).op);have h3:=h1.1.1.2;unfold maxLen;omega
 ·have:ix is j=i0:=by simp[ix,gG,List.getElem?_eq_none (Nat.le_of_not_lt hj)]
  rw[this];unfold i0 maxLen;decide
theorem Gu.qs{n:X}{T:L By}{R:L T3}(h:Gu n T R)(hn:n≤8):QsOk R∧Od R∧∀i,(nx T i).size≤maxLen:=by
 have hq:∀i,¬ i<R.length→qx R i=⟨[],[],ByteArray.empty⟩:=λi hi=>by simp[qx,gG,List.getElem?_eq_none (Nat.le_of_not_lt hi)];rfl
 have hg:∀(gs:L G3)(j:X),¬ j<gs.length→gx gs j=g00:=λgs j hj=>by simp[gx,gG,List.getElem?_eq_none (Nat.le_of_not_lt hj)]
 have e0:ByteArray.empty.size≤maxLen:=by unfold maxLen;decide
 refine⟨⟨by have:=h.2.1;unfold maxLen;omega,λi=>?_,λi=>?_,λi j=>?_,λi j=>?_,λi j=>?_,λi=>?_⟩,⟨by have:=h.2.1;omega,λi hi=>?_⟩,λi=>?_⟩
 ·by_cases hi:i<R.length
  ·have:=(Fz (h.2.2 i hi).1).2;unfold maxLen;omega
  ·exact qdb
 ·by_cases hi:i<R.length
  ·have:=(h.2.2 i hi).2.2.1;unfold maxLen;omega
  ·exact qdb
 ·by_cases hi:i<R.length
  ·exact prog_text (h.2.2 i hi).1 j
  ·rw[hq i hi];show(ix [] j).text.size≤_;simp[ix,i0]
 ·by_cases hi:i<R.length
  ·by_cases hj:j<(qx R i).looks.length
   ·have:=((h.2.2 i hi).2.2.2 j hj).1.2;unfold maxLen;omega
   ·rw[hg _ _ hj];exact e0
  ·rw[hq i hi];show(gx [] j).name.size≤_;rw[hg _ _ qi];exact e0
 ·by_cases hi:i<R.length
  ·by_cases hj:j<(qx R i).looks.length
   ·have:=((h.2.2 i hi).2.2.2 j hj).2;unfold maxLen;omega
   ·rw[hg _ _ hj];exact e0
  ·rw[hq i hi];show(gx [] j).sum.size≤_;rw[hg _ _ qi];exact e0
 ·by_cases hi:i<R.length
  ·have:=(h.2.2 i hi).2.1;unfold maxLen;omega
  ·rw[hq i hi];exact e0
 ·have h1:=(Fz (h.2.2 i hi).1).2
  have h2:=(h.2.2 i hi).2.2.1;omega
 ·by_cases hi:i<T.length
  ·have:=h.1.2.1 i hi;unfold maxLen;omega
  ·exact qjt
theorem Rc(n:Int)(xa:Option Addr)(tc:X)(qa sa ta:Option Addr)(qc c1 c2:X)(T:L By)(R:L T3)(ss:L S2)(ts:L T2)(nm:By)(w:E)(pj:∀a,xa=M a→∃b off,a=⟨b,off,none⟩)(n9:xa=none→T=[]∧tc=0)(du:Jy w xa T qa R)(sr:Hy w qa R)(hr:R.length≤1048576)(U3:∀i,i<R.length→(qx R i).code.length≤1048576∧(qx R i).looks.length≤1048576)(yq:Ku w sa ss ta ts)(nf:Hi ss ts)(iw:nm.size<=9223372036854775807):Calls prog 48 #[G #[I n,J xa T.length tc,J qa R.length qc],G #[J sa ss.length c1,J ta ts.length c2],.string nm] w λe w'=>Bw w w'∧∃d cv tx qv nv ev zs kv lv,e=.returned (G (bV d cv tx qv nv ev))∧Qc n ss ts T R nm d∧BW w' w.heap.size d cv tx qv nv ev zs kv lv∧∃g p,tx=J (p_ g) d.T.length p:=by
 by_cases hv:Cz n T R∧Gp ss ts=0∧Ay nm
 ·obtain⟨m,rfl⟩:=Int.eq_ofNat_of_zero_le (show 0<=n by have:=hv.1.1;omega)
  refine(Sy m xa qa sa ta tc qc c1 c2 T R ss ts nm w pj n9 hv.1 hv.2.1 hv.2.2 du sr yq nf).mono ?_;rintro e w' ⟨hb,ms',s',a,di,⟨d,tx,qv,nv,ev,rfl,rfl,hs,h3,h4⟩|⟨b,x,y,cv,tx,qv,A,B',rfl,h1,rfl,hs⟩⟩
  ·obtain⟨zs,kv,lv,r⟩:=hs.rcs
   exact⟨hb,⟨d.c,d.t,[],m,s'.T,s'.R,s'.ran,s'.held,⟨#[]⟩,⟨#[]⟩⟩,_,_,_,_,_,zs,kv,lv,rfl,Or.inr ⟨hv,ms',s',_,di,Or.inl ⟨d,rfl,rfl⟩⟩,⟨Pp _ _,hs.txt,r,h3,h4⟩,hs.txa⟩
  ·obtain⟨rfl,rfl,ho,rfl,rfl⟩:=h1.says
   obtain⟨zs,kv,lv,r⟩:=hs.rcs;exact⟨hb,⟨Jm b,txF b,chF b,m,T,R,[],[],clA b,clB b⟩,_,_,_,_,_,zs,kv,lv,rfl,Or.inr ⟨hv,ms',s',_,di,Or.inr ⟨b,rfl,rfl⟩⟩,⟨ho,hs.txt,r,Pp _ _,Pp _ _⟩,hs.txa⟩
 ·refine(Ux n xa tc qa sa ta qc c1 c2 T R ss ts nm w pj n9 du sr hr U3 yq nf iw hv).mono ?_
  rintro e w' ⟨hb,v,rfl,tx,qv,rfl,hs⟩;obtain⟨zs,kv,lv,r⟩:=hs.rcs;exact⟨hb,⟨9,⟨#[]⟩,[],n,T,R,[],[],⟨#[]⟩,⟨#[]⟩⟩,_,_,_,_,_,zs,kv,lv,rfl,Or.inl ⟨hv,rfl⟩,⟨Pp _ _,hs.txt,r,Pp _ _,Pp _ _⟩,hs.txa⟩
end Go.Proofs.YtoihflimijabjaaGreatDoor
