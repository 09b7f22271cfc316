import Derived.Test.YtoakjccojifagaaGreatDoorBsY
import Derived.Test.YtoakjccojifagaaGreatDoorBuC
namespace Go.Proofs.YtoakjccojifagaaGreatDoor
open _root_.Go.Proofs.Tryz Go.RowKit Go.ChangeShapes Go.WideShapes Go.ChangeAt Go.Deep
open Option renaming some->M,none->N
open Go renaming Value->Z
open _root_ renaming List->L,Nat->X
set_option maxHeartbeats 32000000
set_option maxRecDepth 100000
set_option linter.unusedVariables false
set_option linter.unusedSimpArgs false
variable {fuel b0:X} {cs:L Z} {r:Reach} {v:Z} {p:L MemPlace}
theorem Tryz.cells77:prog.cellsOf 77=1:=qi
theorem Tryz.cells75:prog.cellsOf 75=1:=qi
theorem Tryz.cells187:prog.cellsOf 187=3:=qi
theorem Tryz.cells3:prog.cellsOf 3=1:=qi
theorem Tryz.cells9:prog.cellsOf 9=1:=qi
theorem Tryz.cells228:prog.cellsOf 228=3:=qi
variable {AI:Type} {enc:TypeId×Z->AI} {W:World} {base:X} {spare:X->Bool} {held:Bool}
theorem open_ins{x:DataW AI×L MemPlace}(h:DataW.trod enc prog W base spare held fuel 187 cs=M x):∃i:I3,cs=[I i.op,.string i.text,I i.n]/\i.text.size<=maxLen:=by
 obtain⟨y0,y1,y2,n,_,hl,h0,h1,h2⟩:=trod_struct3 underlying187 h;rw[Tryz.cells187]at hl;simp only[Tryz.cells3,Tryz.cells9]at h0 h1 h2
 match cs,hl with
 | [c0,c1,c2],_=>
   obtain⟨op,e0,_,_⟩:=DataW.trod_int underlying3 h0;obtain⟨t,e1,_,ht⟩:=DataW.trod_string underlying9 h1;obtain⟨m,e2,_,_⟩:=DataW.trod_int underlying3 h2;simp at e0 e1 e2;subst e0;subst e1;subst e2;exact⟨⟨op,t,m⟩,rfl,ht⟩
theorem Xj{c:Z}{x:DataW AI×L MemPlace}(h:DataW.trod enc prog W base spare held fuel 75 [c]=M x):∃(a:Option Addr)(cap:X)(is:L I3),c=.slice a is.length cap/\Ch W a is/\is.length<=maxLen/\∀i,(ix is i).text.size<=maxLen:=by
 rcases open_slice underlying75 h with⟨jh,_⟩|⟨a,len,cap,m,n,AJ,Pl,jh,_,hl,hm,hmm,_,hx⟩
 ·simp at jh
  subst jh;exact⟨N,0,[],rfl,λi hi=>qai,qg,λi=>by simp[ix,i0]⟩
 ·simp at jh
  subst jh;rw[Tryz.cells187]at hx;have hlm:len<=m:=qcu
  have G9:∀i,i<len->∃t:I3,W.cell? ((a.add (i*3)).add 0)=M (I t.op)/\W.cell? ((a.add (i*3)).add 1)=M (.string t.text)/\W.cell? ((a.add (i*3)).add 2)=M (I t.n)/\t.text.size<=maxLen:=by
   intro i hi;obtain⟨cs',hc,ht⟩:=hx i qb;obtain⟨t,rfl,S9⟩:=open_ins ht;exact qkh
  let f:X->I3:=λi=>if h:i<len then Classical.choose (G9 i h) else i0
  have hf:∀i,(h:i<len)->W.cell? ((a.add (i*3)).add 0)=M (I (f i).op)/\W.cell? ((a.add (i*3)).add 1)=M (.string (f i).text)/\W.cell? ((a.add (i*3)).add 2)=M (I (f i).n)/\(f i).text.size<=maxLen:=by
   exact qcg
  have E3:∀i,i<len->ix ((List.range len).map f) i=f i:=by
   intro i h;simp[ix,gG,h]
  refine⟨M a,cap,(List.range len).map f,qg,?_,qh,?_⟩
  ·exact qit
  ·intro i
   by_cases h:i<len
   ·rw[E3 i h];exact(hf i h).2.2.2
   ·simp[ix,gG,h,i0]
/-- The table's Od, as the list has them. -/
theorem row_of(o:X)(ho:o<16):∃AL:L (DataW Unit),(Rows.laid_loop_example_kilntrace_impl_opKinds:DataW Unit)=.agg AL/\AL.length=16/\AL[o]?=M (.agg [.lit (.string (words.getD o [])),.lit (.int .i64 (Eo o)),.lit (.int .i64 (Lr.getD o 0))]):=by
 refine⟨_,rfl,rfl,?_⟩;exact qfd
theorem Qat{W:World}(h:laidMetH Tryz.prog [("loop.example/kilntrace/impl.opKinds",Rows.laid_loop_example_kilntrace_impl_opKinds)] W):Kk W:=by
 rw[MakeChecks.laidMetH_plain _ _ _ qi]at h;obtain⟨ps,⟨g,t,cs,fuel,p,q,hg,ht,hv,hd,_,_⟩,_,_⟩:=h;obtain rfl:=Option.some.inj ((show Tryz.prog.globalNamed "loop.example/kilntrace/impl.opKinds"=M 0 from qi).symm.trans hg);obtain rfl:=Option.some.inj ((show(Tryz.prog.globals[0]?).map (·.type)=M 229 from qi).symm.trans ht);obtain⟨xs,m,_,ex,dr,hl,hel⟩:=DataW.trod_array Tryz.underlying229 hd;intro o ho;obtain⟨AL,hL,hLl,hLo⟩:=row_of o ho
 have e1:AL=xs.map (·.1):=by
  have:=(Prod.mk.inj ex).1;rw[hL]at this;exact DataW.agg.inj this
 have hxo:o<xs.length:=qb;have k:=hel o ho;rw[Tryz.cells228,Jr hxo]at k
 have e2:xs[o].1=.agg [.lit (.string (words.getD o [])),.lit (.int .i64 (Eo o)),.lit (.int .i64 (Lr.getD o 0))]:=by
  rw[e1,List.getElem?_map,Jr hxo]at hLo;simpa using hLo
 obtain⟨y0,y1,y2,n,he,Y1,h0,h1,h2⟩:=trod_struct3 Tryz.underlying228 k;rw[Tryz.cells228]at Y1;simp only[Tryz.cells3,Tryz.cells9]at h0 h1 h2
 have e3:[y0.1,y1.1,y2.1]=[.lit (.string (words.getD o [])),.lit (.int .i64 (Eo o)),.lit (.int .i64 (Lr.getD o 0))]:=by
  (have:xs[o].1=.agg [y0.1,y1.1,y2.1]:=by rw[he]);rw[e2]at this;exact(DataW.agg.inj this).symm
 simp only[List.cons.injEq,and_true]at e3;obtain⟨a0,a1,a2⟩:=e3;obtain⟨s,c0,d0,_⟩:=DataW.trod_string Tryz.underlying9 h0;obtain⟨z1,c1,d1,_⟩:=DataW.trod_int Tryz.underlying3 h1;obtain⟨z2,c2,d2,_⟩:=DataW.trod_int Tryz.underlying3 h2;have jm:=λj=>World.var?_cell (show Tryz.prog.globalNamed "loop.example/kilntrace/impl.opKinds"=M 0 from qi) hv j;rw[d0]at a0;rw[d1]at a1;rw[d2]at a2;simp only[DataW.lit.injEq,Lit.string.injEq,Lit.int.injEq,true_and]at a0 a1 a2;have hs:s=Qam o:=bytes_inj (by rw[a0];simp[Qam])
 have f:∀j,j<3->cs[o*3+j]?=(((cs.toList.drop (o*3)).take 3))[j]?:=by
  intro j hj;rw[List.getElem?_take,if_pos hj,List.getElem?_drop,Array.getElem?_toList]
 have g0:cs[o*3+0]?=M (.string s):=by
  rw[f 0 qb];have:=congrArg (λl=>l[0]?) c0;exact qgc
 have g1:cs[o*3+1]?=M (.int .i64 z1):=by
  rw[f 1 qb];have:=congrArg (λl=>l[0]?) c1;exact qgc
 have g2:cs[o*3+2]?=M (.int .i64 z2):=by
  rw[f 2 qb];have:=congrArg (λl=>l[0]?) c2;exact qgc
 exact⟨by rw[jm];simpa [hs] using g0,by rw[jm,g1,a1],by rw[jm,g2,a2]⟩
theorem Tryz.cells29:prog.cellsOf 29=2:=qi
theorem Tryz.cells26:prog.cellsOf 26=1:=qi
theorem Tryz.cells27:prog.cellsOf 27=1:=qi
theorem Tryz.cells83:prog.cellsOf 83=2:=qi
theorem Tryz.cells86:prog.cellsOf 86=2:=qi
theorem open_source{x:DataW AI×L MemPlace}(h:DataW.trod enc prog W base spare held fuel 83 cs=M x):∃i:S2,cs=[.string i.name,.string i.text]/\i.name.size<=maxLen/\i.text.size<=maxLen:=by
 obtain⟨y0,y1,n,_,hl,h0,h1⟩:=trod_struct2 underlying83 h;rw[Tryz.cells83]at hl;simp only[Tryz.cells9]at h0 h1
 match cs,hl with
 | [c0,c1],_=>
   obtain⟨s,e0,_,hs⟩:=DataW.trod_string underlying9 h0;obtain⟨t,e1,_,ht⟩:=DataW.trod_string underlying9 h1;simp at e0 e1;subst e0;subst e1;exact⟨⟨s,t⟩,rfl,hs,ht⟩
theorem open_target{x:DataW AI×L MemPlace}(h:DataW.trod enc prog W base spare held fuel 86 cs=M x):∃(i:T2)(a:Option Addr)(cap:X),cs=[.string i.name,.slice a i.code.length cap]/\Ch W a i.code/\i.name.size<=maxLen/\i.code.length<=maxLen/\∀j,(ix i.code j).text.size<=maxLen:=by
 obtain⟨y0,y1,n,_,hl,h0,h1⟩:=trod_struct2 underlying86 h;rw[Tryz.cells86]at hl;simp only[Tryz.cells9,Tryz.cells77]at h0 h1
 match cs,hl with
 | [c0,c1],_=>
   obtain⟨s,e0,_,hs⟩:=DataW.trod_string underlying9 h0;simp at e0;subst e0;obtain⟨z0,m,_,_,h2⟩:=trod_struct1 underlying77 h1;simp only[Tryz.cells75]at h2;obtain⟨a,cap,is,e1,r1,r2,r3⟩:=Xj (c:=c1) (by simpa using h2);subst e1;exact⟨⟨s,is⟩,a,cap,rfl,r1,hs,r2,r3⟩
theorem Zj{c:Z}{x:DataW AI×L MemPlace}(h:DataW.trod enc prog W base spare held fuel 26 [c]=M x):∃(a:Option Addr)(cap:X)(is:L S2),c=.slice a is.length cap/\Hr W a is/\is.length<=maxLen/\(∀i,(sx is i).name.size<=maxLen)/\∀i,(sx is i).text.size<=maxLen:=by
 rcases open_slice underlying26 h with⟨jh,_⟩|⟨a,len,cap,m,n,AJ,Pl,jh,_,hl,hm,hmm,_,hx⟩
 ·simp at jh
  subst jh;exact⟨N,0,[],rfl,λi hi=>qai,qg,λi=>by simp[sx],λi=>by simp[sx]⟩
 ·simp at jh
  subst jh;rw[Tryz.cells83]at hx;have hlm:len<=m:=qcu
  have G9:∀i,i<len->∃t:S2,W.cell? ((a.add (i*2)).add 0)=M (.string t.name)/\W.cell? ((a.add (i*2)).add 1)=M (.string t.text)/\t.name.size<=maxLen/\t.text.size<=maxLen:=by
   intro i hi;obtain⟨cs',hc,ht⟩:=hx i qb;obtain⟨t,rfl,S9⟩:=open_source ht;have hs:=World.cells?_some hc;exact⟨t,by simpa using hs.2.2 0 qb,by simpa using hs.2.2 1 qb,S9⟩
  let f:X->S2:=λi=>if h:i<len then Classical.choose (G9 i h) else ⟨ByteArray.empty,ByteArray.empty⟩
  have hf:∀i,(h:i<len)->W.cell? ((a.add (i*2)).add 0)=M (.string (f i).name)/\W.cell? ((a.add (i*2)).add 1)=M (.string (f i).text)/\(f i).name.size<=maxLen/\(f i).text.size<=maxLen:=by
   exact qcg
  have E3:∀i,i<len->sx ((List.range len).map f) i=f i:=by
   intro i h;simp[sx,gG,h]
  refine⟨M a,cap,(List.range len).map f,qg,?_,qh,?_,?_⟩
  ·intro i hi
   (have hi':i<len:=by simpa using hi);obtain⟨h1,h2,_⟩:=hf i hi';rw[E3 i hi'];obtain⟨b,off,spot⟩:=a
   have pe:spot=N:=by
    have:=World.cell?_spot (hf 0 qb).1;simpa [Addr.add] using this
   subst pe;simp only[Addr.add_lit]at h1 h2;exact⟨b,off,rfl,h1,h2⟩
  ·intro i
   by_cases h:i<len
   ·rw[E3 i h];exact(hf i h).2.2.1
   ·simp[sx,gG,h]
  ·intro i
   by_cases h:i<len
   ·rw[E3 i h];exact(hf i h).2.2.2
   ·simp[sx,gG,h]
theorem Zi{c:Z}{x:DataW AI×L MemPlace}(h:DataW.trod enc prog W base spare held fuel 27 [c]=M x):∃(a:Option Addr)(cap:X)(is:L T2),c=.slice a is.length cap/\Hb W a is/\is.length<=maxLen/\(∀i,(tx is i).name.size<=maxLen)/\(∀i,(tx is i).code.length<=maxLen)/\∀i j,(ix (tx is i).code j).text.size<=maxLen:=by
 rcases open_slice underlying27 h with⟨jh,_⟩|⟨a,len,cap,m,n,AJ,Pl,jh,_,hl,hm,hmm,_,hx⟩
 ·simp at jh
  subst jh;exact⟨N,0,[],rfl,λi hi=>qai,qg,λi=>by simp[tx],λi=>by simp[tx],λi j=>by simp[tx,ix,i0]⟩
 ·simp at jh
  subst jh;rw[Tryz.cells86]at hx;have hlm:len<=m:=qcu
  have G9:∀i,i<len->∃t:T2,W.cell? ((a.add (i*2)).add 0)=M (.string t.name)/\(∃a' ai,W.cell? ((a.add (i*2)).add 1)=M (.slice a' t.code.length ai)/\Ch W a' t.code)/\t.name.size<=maxLen/\t.code.length<=maxLen/\∀j,(ix t.code j).text.size<=maxLen:=by
   intro i hi;obtain⟨cs',hc,ht⟩:=hx i qb;obtain⟨t,a',ai,rfl,hr,S9⟩:=open_target ht;have hs:=World.cells?_some hc;exact⟨t,by simpa using hs.2.2 0 qb,⟨a',ai,by simpa using hs.2.2 1 qb,hr⟩,S9⟩
  let f:X->T2:=λi=>if h:i<len then Classical.choose (G9 i h) else ⟨ByteArray.empty,[]⟩
  have hf:∀i,(h:i<len)->W.cell? ((a.add (i*2)).add 0)=M (.string (f i).name)/\(∃a' ai,W.cell? ((a.add (i*2)).add 1)=M (.slice a' (f i).code.length ai)/\Ch W a' (f i).code)/\(f i).name.size<=maxLen/\(f i).code.length<=maxLen/\∀j,(ix (f i).code j).text.size<=maxLen:=by
   exact qcg
  have E3:∀i,i<len->tx ((List.range len).map f) i=f i:=by
   intro i h;simp[tx,gG,h]
  refine⟨M a,cap,(List.range len).map f,qg,?_,qh,?_,?_,?_⟩
  ·intro i hi
   (have hi':i<len:=by simpa using hi);obtain⟨h1,⟨a',ai,h2,h3⟩,_⟩:=hf i hi';rw[E3 i hi'];obtain⟨b,off,spot⟩:=a
   have pe:spot=N:=by
    have:=World.cell?_spot (hf 0 qb).1;simpa [Addr.add] using this
   subst pe;simp only[Addr.add_lit]at h1 h2;exact⟨b,off,rfl,h1,a',ai,h2,h3⟩
  ·intro i
   by_cases h:i<len
   ·rw[E3 i h];exact(hf i h).2.2.1
   ·simp[tx,gG,h]
  ·intro i
   by_cases h:i<len
   ·rw[E3 i h];exact(hf i h).2.2.2.1
   ·simp[tx,gG,h]
  ·intro i j
   by_cases h:i<len
   ·rw[E3 i h];exact(hf i h).2.2.2.2 j
   ·simp[tx,gG,h,ix,i0]
theorem open_space{d:DataW AI}(hv:Value.okWide prog W r b0 29 v)(h:DataW.Trod enc prog W base spare held 29 v d p):∃(sa:Option Addr)(c1:X)(ss:L S2)(ta:Option Addr)(c2:X)(ts:L T2),v=.agg #[.slice sa ss.length c1,.slice ta ts.length c2]/\Lm W sa ss ta ts:=by
 obtain⟨cs,rfl,cz⟩:=okWide_struct underlying29 hv;rw[Tryz.cells29]at cz;obtain⟨fuel,hf⟩:=h;obtain⟨y0,y1,n,_,_,h0,h1⟩:=trod_struct2 underlying29 hf;simp only[Tryz.cells26,Tryz.cells27]at h0 h1;obtain⟨l⟩:=cs
 match l,cz with
 | [k0,k1],_=>
   simp only[Value.cells]at h0 h1;obtain⟨sa,c1,ss,e0,a1,a2,a3,a4⟩:=Zj (c:=k0) (by simpa using h0);obtain⟨ta,c2,ts,e1,b1,b2,b3,b4,b5⟩:=Zi (c:=k1) (by simpa using h1);subst e0;subst e1;exact⟨sa,c1,ss,ta,c2,ts,rfl,⟨a1,b1,a2,b2,a3,a4,b3,b4,b5⟩⟩
theorem Tryz.cells80:prog.cellsOf 80=3:=qi
theorem Tryz.cells162:prog.cellsOf 162=3:=qi
theorem Tryz.cells78:prog.cellsOf 78=1:=qi
theorem Tryz.cells4:prog.cellsOf 4=1:=qi
theorem Tryz.cells25:prog.cellsOf 25=3:=qi
theorem Tryz.cells22:prog.cellsOf 22=1:=qi
theorem Tryz.cells23:prog.cellsOf 23=1:=qi
theorem open_glance{x:DataW AI×L MemPlace}(h:DataW.trod enc prog W base spare held fuel 162 cs=M x):∃i:G3,cs=[.string i.name,.bool i.ask,.string i.sum]/\i.name.size<=maxLen/\i.sum.size<=maxLen:=by
 obtain⟨y0,y1,y2,n,_,hl,h0,h1,h2⟩:=trod_struct3 underlying162 h;rw[Tryz.cells162]at hl;simp only[Tryz.cells9,Tryz.cells4]at h0 h1 h2
 match cs,hl with
 | [c0,c1,c2],_=>
   obtain⟨s,e0,_,hs⟩:=DataW.trod_string underlying9 h0;obtain⟨b,e1,_⟩:=DataW.trod_bool underlying4 h1;obtain⟨t,e2,_,ht⟩:=DataW.trod_string underlying9 h2;simp at e0 e1 e2;subst e0;subst e1;subst e2;exact⟨⟨s,b,t⟩,rfl,hs,ht⟩
theorem Zk{c:Z}{x:DataW AI×L MemPlace}(h:DataW.trod enc prog W base spare held fuel 78 [c]=M x):∃(a:Option Addr)(cap:X)(is:L G3),c=.slice a is.length cap/\Gk W a is/\is.length<=maxLen/\(∀i,(gx is i).name.size<=maxLen)/\∀i,(gx is i).sum.size<=maxLen:=by
 rcases open_slice underlying78 h with⟨jh,_⟩|⟨a,len,cap,m,n,AJ,Pl,jh,_,hl,hm,hmm,_,hx⟩
 ·simp at jh
  subst jh;exact⟨N,0,[],rfl,λi hi=>qai,qg,λi=>by simp[gx,g00],λi=>by simp[gx,g00]⟩
 ·simp at jh
  subst jh;rw[Tryz.cells162]at hx;have hlm:len<=m:=qcu
  have G9:∀i,i<len->∃t:G3,W.cell? ((a.add (i*3)).add 0)=M (.string t.name)/\W.cell? ((a.add (i*3)).add 1)=M (.bool t.ask)/\W.cell? ((a.add (i*3)).add 2)=M (.string t.sum)/\t.name.size<=maxLen/\t.sum.size<=maxLen:=by
   intro i hi;obtain⟨cs',hc,ht⟩:=hx i qb;obtain⟨t,rfl,S9⟩:=open_glance ht;exact qkh
  let f:X->G3:=λi=>if h:i<len then Classical.choose (G9 i h) else g00
  have hf:∀i,(h:i<len)->W.cell? ((a.add (i*3)).add 0)=M (.string (f i).name)/\W.cell? ((a.add (i*3)).add 1)=M (.bool (f i).ask)/\W.cell? ((a.add (i*3)).add 2)=M (.string (f i).sum)/\(f i).name.size<=maxLen/\(f i).sum.size<=maxLen:=by
   exact qcg
  have E3:∀i,i<len->gx ((List.range len).map f) i=f i:=by
   intro i h;simp[gx,gG,h]
  refine⟨M a,cap,(List.range len).map f,qg,?_,qh,?_,?_⟩
  ·exact qit
  ·intro i
   by_cases h:i<len
   ·rw[E3 i h];exact(hf i h).2.2.2.1
   ·simp[gx,gG,h,g00]
  ·intro i
   by_cases h:i<len
   ·rw[E3 i h];exact(hf i h).2.2.2.2
   ·simp[gx,gG,h,g00]
theorem open_rec{x:DataW AI×L MemPlace}(h:DataW.trod enc prog W base spare held fuel 80 cs=M x):∃(i:T3)(a la:Option Addr)(cap lc:X),cs=[.slice a i.code.length cap,.slice la i.looks.length lc,.string i.out]/\Xz W a i.code la i.looks i.out:=by
 obtain⟨y0,y1,y2,n,_,hl,h0,h1,h2⟩:=trod_struct3 underlying80 h;rw[Tryz.cells80]at hl;simp only[Tryz.cells77,Tryz.cells78,Tryz.cells9]at h0 h1 h2
 match cs,hl with
 | [c0,c1,c2],_=>
   (have h0':DataW.trod enc prog W base spare held n 77 [c0]=M y0:=by simpa using h0);(have h1':DataW.trod enc prog W base spare held n 78 [c1]=M y1:=by simpa using h1);(have h2':DataW.trod enc prog W base spare held n 9 [c2]=M y2:=by simpa using h2);obtain⟨z0,m,_,_,h3⟩:=trod_struct1 underlying77 h0';simp only[Tryz.cells75]at h3;obtain⟨a,cap,is,rfl,r1,r2,r3⟩:=Xj (c:=c0) (by simpa using h3);obtain⟨la,lc,gs,rfl,g1,g2,g3,g4⟩:=Zk h1';obtain⟨t,e2,_,ht⟩:=DataW.trod_string underlying9 h2';simp at e2;subst e2;exact⟨⟨is,gs,t⟩,a,la,cap,lc,rfl,r1,g1,r2,g2,r3,g3,g4,ht⟩
theorem open_recs{c:Z}{x:DataW AI×L MemPlace}(h:DataW.trod enc prog W base spare held fuel 23 [c]=M x):∃(a:Option Addr)(cap:X)(is:L T3),c=.slice a is.length cap/\Lc W a is/\QsOk is:=by
 rcases open_slice underlying23 h with⟨jh,_⟩|⟨a,len,cap,m,n,AJ,Pl,jh,_,hl,hm,hmm,_,hx⟩
 ·simp at jh
  subst jh;exact⟨N,0,[],rfl,λi hi=>qai,⟨qg,λi=>by simp[qx,q00],λi=>by simp[qx,q00],λi j=>by simp[qx,q00,ix,i0],λi j=>by simp[qx,q00,gx,g00],λi j=>by simp[qx,q00,gx,g00],λi=>by simp[qx,q00]⟩⟩
 ·simp at jh
  subst jh;rw[Tryz.cells80]at hx;have hlm:len<=m:=qcu
  have G9:∀i,i<len->∃t:T3,∃ca cc la lc,W.cell? ((a.add (i*3)).add 0)=M (.slice ca t.code.length cc)/\W.cell? ((a.add (i*3)).add 1)=M (.slice la t.looks.length lc)/\W.cell? ((a.add (i*3)).add 2)=M (.string t.out)/\Xz W ca t.code la t.looks t.out:=by
   intro i hi;obtain⟨cs',hc,ht⟩:=hx i qb;obtain⟨t,ca,la,cc,lc,rfl,S9⟩:=open_rec ht;have hs:=World.cells?_some hc;exact⟨t,ca,cc,la,lc,by simpa using hs.2.2 0 qb,by simpa using hs.2.2 1 qb,by simpa using hs.2.2 2 qb,S9⟩
  let f:X->T3:=λi=>if h:i<len then Classical.choose (G9 i h) else q00
  have hf:∀i,(h:i<len)->∃ca cc la lc,W.cell? ((a.add (i*3)).add 0)=M (.slice ca (f i).code.length cc)/\W.cell? ((a.add (i*3)).add 1)=M (.slice la (f i).looks.length lc)/\W.cell? ((a.add (i*3)).add 2)=M (.string (f i).out)/\Xz W ca (f i).code la (f i).looks (f i).out:=by
   exact qcg
  have E3:∀i,i<len->qx ((List.range len).map f) i=f i:=by
   intro i h;simp[qx,gG,h]
  have im:∀i,¬ i<len->qx ((List.range len).map f) i=q00:=by
   intro i h;simp[qx,gG,h]
  have pn:∀(P:T3->Prop),P q00->(∀t ca la,Xz W ca t.code la t.looks t.out->P t)->∀i,P (qx ((List.range len).map f) i):=by
   intro P h0 h1 i
   by_cases h:i<len
   ·obtain⟨ca,cc,la,lc,_,_,_,hr⟩:=hf i h
    rw[E3 i h];exact h1 _ ca la hr
   ·rw[im i h];exact h0
  refine⟨M a,cap,(List.range len).map f,qg,?_,⟨qh,pn (λt=>t.code.length<=maxLen) (by simp[q00]) (λt _ _ h=>h.lc),pn (λt=>t.looks.length<=maxLen) (by simp[q00]) (λt _ _ h=>h.lg),pn (λt=>∀j,(ix t.code j).text.size<=maxLen) (by intro j;simp[q00,ix,i0]) (λt _ _ h=>h.xc),pn (λt=>∀j,(gx t.looks j).name.size<=maxLen) (by intro j;simp[q00,gx,g00]) (λt _ _ h=>h.ng),pn (λt=>∀j,(gx t.looks j).sum.size<=maxLen) (by intro j;simp[q00,gx,g00]) (λt _ _ h=>h.sg),pn (λt=>t.out.size<=maxLen) (by simp[q00]) (λt _ _ h=>h.so)⟩⟩;intro i hi;(have hi':i<len:=by simpa using hi);obtain⟨ca,cc,la,lc,h1,h2,h3,hr⟩:=hf i hi';rw[E3 i hi'];obtain⟨b,off,spot⟩:=a
  have pe:spot=N:=by
   obtain⟨_,_,_,_,h1,_⟩:=hf 0 qb;have:=World.cell?_spot h1;simpa [Addr.add] using this
  subst pe;simp only[Addr.add_lit]at h1 h2 h3;exact⟨b,off,rfl,ca,cc,la,lc,h1,h2,h3,hr.rc,hr.rg⟩
theorem Un{c:Z}{x:DataW AI×L MemPlace}(h:DataW.trod enc prog W base spare held fuel 22 [c]=M x):∃(a:Option Addr)(cap:X)(ts:L By),c=.slice a ts.length cap/\Ca W a ts/\ts.length<=maxLen/\∀s∈ts,s.size<=maxLen:=by
 rcases open_strings underlying22 underlying9 Tryz.cells9 h with⟨jh,_⟩|⟨x,l,c,zs,jh,_,hl,hm,hz,_,jm,hws⟩
 ·simp at jh
  subst jh;exact⟨N,0,[],rfl,λi h=>by simp at h,qg,qg⟩
 ·simp at jh
  subst jh;(have hlz:l<=zs.length:=by rw[hz];split<;>omega);refine⟨M x,c,zs.take l,qh,?_,qh,λs hs=>hws s (List.mem_of_mem_take hs)⟩;intro i hi;(have hi':i<l/\i<zs.length:=by simp only[List.length_take]at hi;omega);have hc:=jm i qb;obtain⟨b,off,spot⟩:=x;(have pe:spot=N:=by simpa [Addr.add] using World.cell?_spot (jm 0 qb));subst pe;refine⟨b,off,rfl,?_⟩;simp only[gG,List.getElem?_take,if_pos hi'.1];rw[Addr.add_lit]at hc;simpa [gG] using hc
theorem open_store{d:DataW AI}(hv:Value.okWide prog W r b0 25 v)(h:DataW.Trod enc prog W base spare held 25 v d p):∃(n:Int)(ta ra:Option Addr)(tc rc:X)(ts:L By)(rs:L T3),v=.agg #[I n,.slice ta ts.length tc,.slice ra rs.length rc]/\Wv W ta ts ra rs:=by
 obtain⟨cs,rfl,cz⟩:=okWide_struct underlying25 hv;rw[Tryz.cells25]at cz;obtain⟨fuel,hf⟩:=h;obtain⟨y0,y1,y2,n,_,_,h0,h1,h2⟩:=trod_struct3 underlying25 hf;obtain⟨l⟩:=cs
 match l,cz with
 | [c0,c1,c2],_=>
   simp only[Tryz.cells3,Tryz.cells22,Tryz.cells23]at h0 h1 h2;(have h0':DataW.trod enc prog W base spare held n 3 [c0]=M y0:=by simpa [Value.cells] using h0);(have h1':DataW.trod enc prog W base spare held n 22 [c1]=M y1:=by simpa [Value.cells] using h1);(have h2':DataW.trod enc prog W base spare held n 23 [c2]=M y2:=by simpa [Value.cells] using h2);obtain⟨m,e0,_,_⟩:=DataW.trod_int underlying3 h0';simp at e0;subst e0;obtain⟨ta,tc,ts,rfl,t1,t2,t3⟩:=Un h1';obtain⟨ra,rc,rs,rfl,r1,r2⟩:=open_recs h2';exact⟨m,ta,ra,tc,rc,ts,rs,rfl,t1,t2,t3,r1,r2⟩
end Go.Proofs.YtoakjccojifagaaGreatDoor
