import Derived.Test.YtfgoholldpeabaaGreatDoorBvM
namespace Go.Proofs.YtfgoholldpeabaaGreatDoor
open _root_.Go.Proofs.Tryz Go.RowKit Go.ChangeShapes Go.WideShapes Go.ChangeAt Go.Deep
set_option maxHeartbeats 32000000
set_option maxRecDepth 100000
set_option linter.unusedVariables false
set_option linter.unusedSimpArgs false
theorem Tryz.cells79:prog.cellsOf 79=1:=qi
theorem Tryz.cells77:prog.cellsOf 77=1:=qi
theorem Tryz.cells192:prog.cellsOf 192=3:=qi
theorem Tryz.cells3:prog.cellsOf 3=1:=qi
theorem Tryz.cells9:prog.cellsOf 9=1:=qi
theorem Tryz.cells234:prog.cellsOf 234=3:=qi
variable {H:Type} {enc:TypeId × Value->H} {W:World} {base:Nat} {spare:Nat->Bool} {held:Bool}
theorem open_ins {fuel:Nat} {cs:List Value} {x:DataW H × List MemPlace} (h:DataW.trod enc prog W base spare held fuel 192 cs=some x) :
    ∃ i:I3,cs=[I i.op,.string i.text,I i.n]/\i.text.size<=maxLen:=by
  obtain⟨y0,y1,y2,n,_,hl,h0,h1,h2⟩:=trod_struct3 underlying192 h;rw[Tryz.cells192] at hl;simp only[Tryz.cells3,Tryz.cells9] at h0 h1 h2
  match cs,hl with
  | [c0,c1,c2],_=>
    obtain⟨op,e0,_,_⟩:=DataW.trod_int underlying3 h0;obtain⟨t,e1,_,ht⟩:=DataW.trod_string underlying9 h1;obtain⟨m,e2,_,_⟩:=DataW.trod_int underlying3 h2;simp at e0 e1 e2;subst e0;subst e1;subst e2;exact⟨⟨op,t,m⟩,rfl,ht⟩
theorem Wv {fuel:Nat} {c:Value} {x:DataW H × List MemPlace} (h:DataW.trod enc prog W base spare held fuel 77 [c]=some x) :
    ∃(a:Option Addr) (cap:Nat) (is:List I3),c=.slice a is.length cap/\Cj W a is/\is.length<=maxLen/\∀ i,(ix is i).text.size<=maxLen:=by
  rcases open_slice underlying77 h with ⟨iu,_⟩|⟨a,len,cap,m,n,D,Pl,iu,_,hl,hm,hmm,_,hx⟩
  · simp at iu
    subst iu;exact⟨none,0,[],rfl,fun i hi=>qy,qg,fun i=>by simp[ix,i0]⟩
  · simp at iu
    subst iu;rw[Tryz.cells192] at hx;have hlm:len<=m:=qcp
    have E9:∀ i,i<len->∃ t:I3,W.cell? ((a.add (i*3)).add 0)=some (I t.op)/\W.cell? ((a.add (i*3)).add 1)=some (.string t.text)/\W.cell? ((a.add (i*3)).add 2)=some (I t.n)/\t.text.size<=maxLen:=by
      intro i hi;obtain⟨cs',hc,ht⟩:=hx i qb;obtain⟨t,rfl,Q6⟩:=open_ins ht;exact qjz
    let f:Nat->I3:=fun i=>if h:i<len then Classical.choose (E9 i h) else i0
    have hf:∀ i,(h:i<len)->W.cell? ((a.add (i*3)).add 0)=some (I (f i).op)/\W.cell? ((a.add (i*3)).add 1)=some (.string (f i).text)/\W.cell? ((a.add (i*3)).add 2)=some (I (f i).n)/\(f i).text.size<=maxLen:=by
      exact qcj
    have A9:∀ i,i<len->ix ((List.range len).map f) i=f i:=by
      intro i h;simp[ix,gG,h]
    refine⟨some a,cap,(List.range len).map f,qg,?_,qh,?_⟩
    · exact qih
    · intro i
      by_cases h:i<len
      · rw[A9 i h];exact(hf i h).2.2.2
      · simp[ix,gG,h,i0]
/-- The table's Np, as the list has them. -/
theorem row_of (o:Nat) (ho:o<16):∃ L:List (DataW Unit),(Rows.laid_loop_example_kilntrace_impl_opKinds:DataW Unit)=.agg L/\L.length=16/\L[o]?=some (.agg [.lit (.string (words.getD o [])),.lit (.int .i64 (Ek o)),.lit (.int .i64 (La.getD o 0))]):=by
  refine⟨_,rfl,rfl,?_⟩;exact qes
theorem Qai {W:World} (h:laidMetH Tryz.prog [("loop.example/kilntrace/impl.opKinds",Rows.laid_loop_example_kilntrace_impl_opKinds)] W):Lr W:=by
  rw[MakeChecks.laidMetH_plain _ _ _ qi] at h;obtain⟨ps,⟨g,t,cs,fuel,p,q,hg,ht,hv,hd,_,_⟩,_,_⟩:=h;obtain rfl:=Option.some.inj ((show Tryz.prog.globalNamed "loop.example/kilntrace/impl.opKinds"=some 0 from qi).symm.trans hg);obtain rfl:=Option.some.inj ((show (Tryz.prog.globals[0]?).map (·.type)=some 235 from qi).symm.trans ht);obtain⟨xs,m,_,ex,dh,hl,hel⟩:=DataW.trod_array Tryz.underlying235 hd;intro o ho;obtain⟨L,hL,hLl,hLo⟩:=row_of o ho
  have e1:L=xs.map (·.1):=by
    have:=(Prod.mk.inj ex).1;rw[hL] at this;exact DataW.agg.inj this
  have hxo:o<xs.length:=qb;have k:=hel o ho;rw[Tryz.cells234,Iu hxo] at k
  have e2:xs[o].1=.agg [.lit (.string (words.getD o [])),.lit (.int .i64 (Ek o)),.lit (.int .i64 (La.getD o 0))]:=by
    rw[e1,List.getElem?_map,Iu hxo] at hLo;simpa using hLo
  obtain⟨y0,y1,y2,n,he,V8,h0,h1,h2⟩:=trod_struct3 Tryz.underlying234 k;rw[Tryz.cells234] at V8;simp only[Tryz.cells3,Tryz.cells9] at h0 h1 h2
  have e3:[y0.1,y1.1,y2.1]=[.lit (.string (words.getD o [])),.lit (.int .i64 (Ek o)),.lit (.int .i64 (La.getD o 0))]:=by
    (have:xs[o].1=.agg [y0.1,y1.1,y2.1]:=by rw[he]);rw[e2] at this;exact(DataW.agg.inj this).symm
  simp only[List.cons.injEq,and_true] at e3;obtain⟨a0,a1,a2⟩:=e3;obtain⟨s,c0,d0,_⟩:=DataW.trod_string Tryz.underlying9 h0;obtain⟨z1,c1,d1,_⟩:=DataW.trod_int Tryz.underlying3 h1;obtain⟨z2,c2,d2,_⟩:=DataW.trod_int Tryz.underlying3 h2;have iz:=fun j=>World.var?_cell (show Tryz.prog.globalNamed "loop.example/kilntrace/impl.opKinds"=some 0 from qi) hv j;rw[d0] at a0;rw[d1] at a1;rw[d2] at a2;simp only[DataW.lit.injEq,Lit.string.injEq,Lit.int.injEq,true_and] at a0 a1 a2;have hs:s=Qac o:=bytes_inj (by rw[a0];simp[Qac])
  have f:∀ j,j<3->cs[o*3+j]?=(((cs.toList.drop (o*3)).take 3))[j]?:=by
    intro j hj;rw[List.getElem?_take,if_pos hj,List.getElem?_drop,Array.getElem?_toList]
  have g0:cs[o*3+0]?=some (.string s):=by
    rw[f 0 qb];have:=congrArg (fun l=>l[0]?) c0;exact qfp
  have g1:cs[o*3+1]?=some (.int .i64 z1):=by
    rw[f 1 qb];have:=congrArg (fun l=>l[0]?) c1;exact qfp
  have g2:cs[o*3+2]?=some (.int .i64 z2):=by
    rw[f 2 qb];have:=congrArg (fun l=>l[0]?) c2;exact qfp
  exact⟨by rw[iz];simpa [hs] using g0,by rw[iz,g1,a1],by rw[iz,g2,a2]⟩
theorem Tryz.cells29:prog.cellsOf 29=2:=qi
theorem Tryz.cells26:prog.cellsOf 26=1:=qi
theorem Tryz.cells27:prog.cellsOf 27=1:=qi
theorem Tryz.cells85:prog.cellsOf 85=2:=qi
theorem Tryz.cells88:prog.cellsOf 88=2:=qi
theorem Qba {fuel:Nat} {cs:List Value} {x:DataW H × List MemPlace} (h:DataW.trod enc prog W base spare held fuel 85 cs=some x) :
    ∃ i:S2,cs=[.string i.name,.string i.text]/\i.name.size<=maxLen/\i.text.size<=maxLen:=by
  obtain⟨y0,y1,n,_,hl,h0,h1⟩:=trod_struct2 underlying85 h;rw[Tryz.cells85] at hl;simp only[Tryz.cells9] at h0 h1
  match cs,hl with
  | [c0,c1],_=>
    obtain⟨s,e0,_,hs⟩:=DataW.trod_string underlying9 h0;obtain⟨t,e1,_,ht⟩:=DataW.trod_string underlying9 h1;simp at e0 e1;subst e0;subst e1;exact⟨⟨s,t⟩,rfl,hs,ht⟩
theorem Qaz {fuel:Nat} {cs:List Value} {x:DataW H × List MemPlace} (h:DataW.trod enc prog W base spare held fuel 88 cs=some x) :
    ∃(i:T2) (a:Option Addr) (cap:Nat),cs=[.string i.name,.slice a i.code.length cap]/\Cj W a i.code/\i.name.size<=maxLen/\i.code.length<=maxLen/\∀ j,(ix i.code j).text.size<=maxLen:=by
  obtain⟨y0,y1,n,_,hl,h0,h1⟩:=trod_struct2 underlying88 h;rw[Tryz.cells88] at hl;simp only[Tryz.cells9,Tryz.cells79] at h0 h1
  match cs,hl with
  | [c0,c1],_=>
    obtain⟨s,e0,_,hs⟩:=DataW.trod_string underlying9 h0;simp at e0;subst e0;obtain⟨z0,m,_,_,h2⟩:=trod_struct1 underlying79 h1;simp only[Tryz.cells77] at h2;obtain⟨a,cap,is,e1,r1,r2,r3⟩:=Wv (c:=c1) (by simpa using h2);subst e1;exact⟨⟨s,is⟩,a,cap,rfl,r1,hs,r2,r3⟩
theorem Yt {fuel:Nat} {c:Value} {x:DataW H × List MemPlace} (h:DataW.trod enc prog W base spare held fuel 26 [c]=some x) :
    ∃(a:Option Addr) (cap:Nat) (is:List S2),c=.slice a is.length cap/\Jv W a is/\is.length<=maxLen/\(∀ i,(sx is i).name.size<=maxLen)/\∀ i,(sx is i).text.size<=maxLen:=by
  rcases open_slice underlying26 h with ⟨iu,_⟩|⟨a,len,cap,m,n,D,Pl,iu,_,hl,hm,hmm,_,hx⟩
  · simp at iu
    subst iu;exact⟨none,0,[],rfl,fun i hi=>qy,qg,fun i=>by simp[sx],fun i=>by simp[sx]⟩
  · simp at iu
    subst iu;rw[Tryz.cells85] at hx;have hlm:len<=m:=qcp
    have E9:∀ i,i<len->∃ t:S2,W.cell? ((a.add (i*2)).add 0)=some (.string t.name)/\W.cell? ((a.add (i*2)).add 1)=some (.string t.text)/\t.name.size<=maxLen/\t.text.size<=maxLen:=by
      intro i hi;obtain⟨cs',hc,ht⟩:=hx i qb;obtain⟨t,rfl,Q6⟩:=Qba ht;have hs:=World.cells?_some hc;exact⟨t,by simpa using hs.2.2 0 qb,by simpa using hs.2.2 1 qb,Q6⟩
    let f:Nat->S2:=fun i=>if h:i<len then Classical.choose (E9 i h) else ⟨ByteArray.empty,ByteArray.empty⟩
    have hf:∀ i,(h:i<len)->W.cell? ((a.add (i*2)).add 0)=some (.string (f i).name)/\W.cell? ((a.add (i*2)).add 1)=some (.string (f i).text)/\(f i).name.size<=maxLen/\(f i).text.size<=maxLen:=by
      exact qcj
    have A9:∀ i,i<len->sx ((List.range len).map f) i=f i:=by
      intro i h;simp[sx,gG,h]
    refine⟨some a,cap,(List.range len).map f,qg,?_,qh,?_,?_⟩
    · intro i hi
      (have hi':i<len:=by simpa using hi);obtain⟨h1,h2,_⟩:=hf i hi';rw[A9 i hi'];obtain⟨b,off,spot⟩:=a
      have oo:spot=none:=by
        have:=World.cell?_spot (hf 0 qb).1;simpa [Addr.add] using this
      subst oo;simp only[Addr.add_lit] at h1 h2;exact⟨b,off,rfl,h1,h2⟩
    · intro i
      by_cases h:i<len
      · rw[A9 i h];exact(hf i h).2.2.1
      · simp[sx,gG,h]
    · intro i
      by_cases h:i<len
      · rw[A9 i h];exact(hf i h).2.2.2
      · simp[sx,gG,h]
theorem Ys {fuel:Nat} {c:Value} {x:DataW H × List MemPlace} (h:DataW.trod enc prog W base spare held fuel 27 [c]=some x) :
    ∃(a:Option Addr) (cap:Nat) (is:List T2),c=.slice a is.length cap/\Ju W a is/\is.length<=maxLen/\(∀ i,(tx is i).name.size<=maxLen)/\(∀ i,(tx is i).code.length<=maxLen)/\∀ i j,(ix (tx is i).code j).text.size<=maxLen:=by
  rcases open_slice underlying27 h with ⟨iu,_⟩|⟨a,len,cap,m,n,D,Pl,iu,_,hl,hm,hmm,_,hx⟩
  · simp at iu
    subst iu;exact⟨none,0,[],rfl,fun i hi=>qy,qg,fun i=>by simp[tx],fun i=>by simp[tx],fun i j=>by simp[tx,ix,i0]⟩
  · simp at iu
    subst iu;rw[Tryz.cells88] at hx;have hlm:len<=m:=qcp
    have E9:∀ i,i<len->∃ t:T2,W.cell? ((a.add (i*2)).add 0)=some (.string t.name)/\(∃ a' ai,W.cell? ((a.add (i*2)).add 1)=some (.slice a' t.code.length ai)/\Cj W a' t.code)/\t.name.size<=maxLen/\t.code.length<=maxLen/\∀ j,(ix t.code j).text.size<=maxLen:=by
      intro i hi;obtain⟨cs',hc,ht⟩:=hx i qb;obtain⟨t,a',ai,rfl,hr,Q6⟩:=Qaz ht;have hs:=World.cells?_some hc;exact⟨t,by simpa using hs.2.2 0 qb,⟨a',ai,by simpa using hs.2.2 1 qb,hr⟩,Q6⟩
    let f:Nat->T2:=fun i=>if h:i<len then Classical.choose (E9 i h) else ⟨ByteArray.empty,[]⟩
    have hf:∀ i,(h:i<len)->W.cell? ((a.add (i*2)).add 0)=some (.string (f i).name)/\(∃ a' ai,W.cell? ((a.add (i*2)).add 1)=some (.slice a' (f i).code.length ai)/\Cj W a' (f i).code)/\(f i).name.size<=maxLen/\(f i).code.length<=maxLen/\∀ j,(ix (f i).code j).text.size<=maxLen:=by
      exact qcj
    have A9:∀ i,i<len->tx ((List.range len).map f) i=f i:=by
      intro i h;simp[tx,gG,h]
    refine⟨some a,cap,(List.range len).map f,qg,?_,qh,?_,?_,?_⟩
    · intro i hi
      (have hi':i<len:=by simpa using hi);obtain⟨h1,⟨a',ai,h2,h3⟩,_⟩:=hf i hi';rw[A9 i hi'];obtain⟨b,off,spot⟩:=a
      have oo:spot=none:=by
        have:=World.cell?_spot (hf 0 qb).1;simpa [Addr.add] using this
      subst oo;simp only[Addr.add_lit] at h1 h2;exact⟨b,off,rfl,h1,a',ai,h2,h3⟩
    · intro i
      by_cases h:i<len
      · rw[A9 i h];exact(hf i h).2.2.1
      · simp[tx,gG,h]
    · intro i
      by_cases h:i<len
      · rw[A9 i h];exact(hf i h).2.2.2.1
      · simp[tx,gG,h]
    · intro i j
      by_cases h:i<len
      · rw[A9 i h];exact(hf i h).2.2.2.2 j
      · simp[tx,gG,h,ix,i0]
theorem open_space {r:Reach} {b0:Nat} {v:Value} {d:DataW H} {p:List MemPlace} (hv:Value.okWide prog W r b0 29 v) (h:DataW.Trod enc prog W base spare held 29 v d p) :
    ∃(sa:Option Addr) (c1:Nat) (ss:List S2) (ta:Option Addr) (c2:Nat) (ts:List T2),v=.agg #[.slice sa ss.length c1,.slice ta ts.length c2]/\Ll W sa ss ta ts:=by
  obtain⟨cs,rfl,de⟩:=okWide_struct underlying29 hv;rw[Tryz.cells29] at de;obtain⟨fuel,hf⟩:=h;obtain⟨y0,y1,n,_,_,h0,h1⟩:=trod_struct2 underlying29 hf;simp only[Tryz.cells26,Tryz.cells27] at h0 h1;obtain⟨l⟩:=cs
  match l,de with
  | [k0,k1],_=>
    simp only[Value.cells] at h0 h1;obtain⟨sa,c1,ss,e0,a1,a2,a3,a4⟩:=Yt (c:=k0) (by simpa using h0);obtain⟨ta,c2,ts,e1,b1,b2,b3,b4,b5⟩:=Ys (c:=k1) (by simpa using h1);subst e0;subst e1;exact⟨sa,c1,ss,ta,c2,ts,rfl,⟨a1,b1,a2,b2,a3,a4,b3,b4,b5⟩⟩
theorem Tryz.cells82:prog.cellsOf 82=3:=qi
theorem Tryz.cells154:prog.cellsOf 154=3:=qi
theorem Tryz.cells80:prog.cellsOf 80=1:=qi
theorem Tryz.cells4:prog.cellsOf 4=1:=qi
theorem Tryz.cells25:prog.cellsOf 25=3:=qi
theorem Tryz.cells22:prog.cellsOf 22=1:=qi
theorem Tryz.cells23:prog.cellsOf 23=1:=qi
theorem Qbb {fuel:Nat} {cs:List Value} {x:DataW H × List MemPlace} (h:DataW.trod enc prog W base spare held fuel 154 cs=some x) :
    ∃ i:G3,cs=[.string i.name,.bool i.ask,.string i.sum]/\i.name.size<=maxLen/\i.sum.size<=maxLen:=by
  obtain⟨y0,y1,y2,n,_,hl,h0,h1,h2⟩:=trod_struct3 underlying154 h;rw[Tryz.cells154] at hl;simp only[Tryz.cells9,Tryz.cells4] at h0 h1 h2
  match cs,hl with
  | [c0,c1,c2],_=>
    obtain⟨s,e0,_,hs⟩:=DataW.trod_string underlying9 h0;obtain⟨b,e1,_⟩:=DataW.trod_bool underlying4 h1;obtain⟨t,e2,_,ht⟩:=DataW.trod_string underlying9 h2;simp at e0 e1 e2;subst e0;subst e1;subst e2;exact⟨⟨s,b,t⟩,rfl,hs,ht⟩
theorem Yu {fuel:Nat} {c:Value} {x:DataW H × List MemPlace} (h:DataW.trod enc prog W base spare held fuel 80 [c]=some x) :
    ∃(a:Option Addr) (cap:Nat) (is:List G3),c=.slice a is.length cap/\Hr W a is/\is.length<=maxLen/\(∀ i,(gx is i).name.size<=maxLen)/\∀ i,(gx is i).sum.size<=maxLen:=by
  rcases open_slice underlying80 h with ⟨iu,_⟩|⟨a,len,cap,m,n,D,Pl,iu,_,hl,hm,hmm,_,hx⟩
  · simp at iu
    subst iu;exact⟨none,0,[],rfl,fun i hi=>qy,qg,fun i=>by simp[gx,g00],fun i=>by simp[gx,g00]⟩
  · simp at iu
    subst iu;rw[Tryz.cells154] at hx;have hlm:len<=m:=qcp
    have E9:∀ i,i<len->∃ t:G3,W.cell? ((a.add (i*3)).add 0)=some (.string t.name)/\W.cell? ((a.add (i*3)).add 1)=some (.bool t.ask)/\W.cell? ((a.add (i*3)).add 2)=some (.string t.sum)/\t.name.size<=maxLen/\t.sum.size<=maxLen:=by
      intro i hi;obtain⟨cs',hc,ht⟩:=hx i qb;obtain⟨t,rfl,Q6⟩:=Qbb ht;exact qjz
    let f:Nat->G3:=fun i=>if h:i<len then Classical.choose (E9 i h) else g00
    have hf:∀ i,(h:i<len)->W.cell? ((a.add (i*3)).add 0)=some (.string (f i).name)/\W.cell? ((a.add (i*3)).add 1)=some (.bool (f i).ask)/\W.cell? ((a.add (i*3)).add 2)=some (.string (f i).sum)/\(f i).name.size<=maxLen/\(f i).sum.size<=maxLen:=by
      exact qcj
    have A9:∀ i,i<len->gx ((List.range len).map f) i=f i:=by
      intro i h;simp[gx,gG,h]
    refine⟨some a,cap,(List.range len).map f,qg,?_,qh,?_,?_⟩
    · exact qih
    · intro i
      by_cases h:i<len
      · rw[A9 i h];exact(hf i h).2.2.2.1
      · simp[gx,gG,h,g00]
    · intro i
      by_cases h:i<len
      · rw[A9 i h];exact(hf i h).2.2.2.2
      · simp[gx,gG,h,g00]
theorem open_rec {fuel:Nat} {cs:List Value} {x:DataW H × List MemPlace} (h:DataW.trod enc prog W base spare held fuel 82 cs=some x) :
    ∃(i:T3) (a la:Option Addr) (cap lc:Nat),cs=[.slice a i.code.length cap,.slice la i.looks.length lc,.string i.out]/\Xk W a i.code la i.looks i.out:=by
  obtain⟨y0,y1,y2,n,_,hl,h0,h1,h2⟩:=trod_struct3 underlying82 h;rw[Tryz.cells82] at hl;simp only[Tryz.cells79,Tryz.cells80,Tryz.cells9] at h0 h1 h2
  match cs,hl with
  | [c0,c1,c2],_=>
    (have h0':DataW.trod enc prog W base spare held n 79 [c0]=some y0:=by simpa using h0);(have h1':DataW.trod enc prog W base spare held n 80 [c1]=some y1:=by simpa using h1);(have h2':DataW.trod enc prog W base spare held n 9 [c2]=some y2:=by simpa using h2);obtain⟨z0,m,_,_,h3⟩:=trod_struct1 underlying79 h0';simp only[Tryz.cells77] at h3;obtain⟨a,cap,is,rfl,r1,r2,r3⟩:=Wv (c:=c0) (by simpa using h3);obtain⟨la,lc,gs,rfl,g1,g2,g3,g4⟩:=Yu h1';obtain⟨t,e2,_,ht⟩:=DataW.trod_string underlying9 h2';simp at e2;subst e2;exact⟨⟨is,gs,t⟩,a,la,cap,lc,rfl,r1,g1,r2,g2,r3,g3,g4,ht⟩
theorem open_recs {fuel:Nat} {c:Value} {x:DataW H × List MemPlace} (h:DataW.trod enc prog W base spare held fuel 23 [c]=some x) :
    ∃(a:Option Addr) (cap:Nat) (is:List T3),c=.slice a is.length cap/\Lx W a is/\QsOk is:=by
  rcases open_slice underlying23 h with ⟨iu,_⟩|⟨a,len,cap,m,n,D,Pl,iu,_,hl,hm,hmm,_,hx⟩
  · simp at iu
    subst iu;exact⟨none,0,[],rfl,fun i hi=>qy,⟨qg,fun i=>by simp[qx,q00],fun i=>by simp[qx,q00],fun i j=>by simp[qx,q00,ix,i0],fun i j=>by simp[qx,q00,gx,g00],fun i j=>by simp[qx,q00,gx,g00],fun i=>by simp[qx,q00]⟩⟩
  · simp at iu
    subst iu;rw[Tryz.cells82] at hx;have hlm:len<=m:=qcp
    have E9:∀ i,i<len->∃ t:T3,∃ ca cc la lc,W.cell? ((a.add (i*3)).add 0)=some (.slice ca t.code.length cc)/\W.cell? ((a.add (i*3)).add 1)=some (.slice la t.looks.length lc)/\W.cell? ((a.add (i*3)).add 2)=some (.string t.out)/\Xk W ca t.code la t.looks t.out:=by
      intro i hi;obtain⟨cs',hc,ht⟩:=hx i qb;obtain⟨t,ca,la,cc,lc,rfl,Q6⟩:=open_rec ht;have hs:=World.cells?_some hc;exact⟨t,ca,cc,la,lc,by simpa using hs.2.2 0 qb,by simpa using hs.2.2 1 qb,by simpa using hs.2.2 2 qb,Q6⟩
    let f:Nat->T3:=fun i=>if h:i<len then Classical.choose (E9 i h) else q00
    have hf:∀ i,(h:i<len)->∃ ca cc la lc,W.cell? ((a.add (i*3)).add 0)=some (.slice ca (f i).code.length cc)/\W.cell? ((a.add (i*3)).add 1)=some (.slice la (f i).looks.length lc)/\W.cell? ((a.add (i*3)).add 2)=some (.string (f i).out)/\Xk W ca (f i).code la (f i).looks (f i).out:=by
      exact qcj
    have A9:∀ i,i<len->qx ((List.range len).map f) i=f i:=by
      intro i h;simp[qx,gG,h]
    have gk:∀ i,¬ i<len->qx ((List.range len).map f) i=q00:=by
      intro i h;simp[qx,gG,h]
    have o8:∀(P:T3->Prop),P q00->(∀ t ca la,Xk W ca t.code la t.looks t.out->P t)->∀ i,P (qx ((List.range len).map f) i):=by
      intro P h0 h1 i
      by_cases h:i<len
      · obtain⟨ca,cc,la,lc,_,_,_,hr⟩:=hf i h
        rw[A9 i h];exact h1 _ ca la hr
      · rw[gk i h];exact h0
    refine⟨some a,cap,(List.range len).map f,qg,?_,⟨qh,o8 (fun t=>t.code.length<=maxLen) (by simp[q00]) (fun t _ _ h=>h.lc),o8 (fun t=>t.looks.length<=maxLen) (by simp[q00]) (fun t _ _ h=>h.lg),o8 (fun t=>∀ j,(ix t.code j).text.size<=maxLen) (by intro j;simp[q00,ix,i0]) (fun t _ _ h=>h.xc),o8 (fun t=>∀ j,(gx t.looks j).name.size<=maxLen) (by intro j;simp[q00,gx,g00]) (fun t _ _ h=>h.ng),o8 (fun t=>∀ j,(gx t.looks j).sum.size<=maxLen) (by intro j;simp[q00,gx,g00]) (fun t _ _ h=>h.sg),o8 (fun t=>t.out.size<=maxLen) (by simp[q00]) (fun t _ _ h=>h.so)⟩⟩;intro i hi;(have hi':i<len:=by simpa using hi);obtain⟨ca,cc,la,lc,h1,h2,h3,hr⟩:=hf i hi';rw[A9 i hi'];obtain⟨b,off,spot⟩:=a
    have oo:spot=none:=by
      obtain⟨_,_,_,_,h1,_⟩:=hf 0 qb;have:=World.cell?_spot h1;simpa [Addr.add] using this
    subst oo;simp only[Addr.add_lit] at h1 h2 h3;exact⟨b,off,rfl,ca,cc,la,lc,h1,h2,h3,hr.rc,hr.rg⟩
theorem open_texts {fuel:Nat} {c:Value} {x:DataW H × List MemPlace} (h:DataW.trod enc prog W base spare held fuel 22 [c]=some x) :
    ∃(a:Option Addr) (cap:Nat) (ts:List By),c=.slice a ts.length cap/\Cv W a ts/\ts.length<=maxLen/\∀ s∈ts,s.size<=maxLen:=by
  rcases open_strings underlying22 underlying9 Tryz.cells9 h with ⟨iu,_⟩|⟨x,l,c,zs,iu,_,hl,hm,hz,_,iz,hws⟩
  · simp at iu
    subst iu;exact⟨none,0,[],rfl,fun i h=>by simp at h,qg,qg⟩
  · simp at iu
    subst iu;(have hlz:l<=zs.length:=by rw[hz];split<;>omega);refine⟨some x,c,zs.take l,qh,?_,qh,fun s hs=>hws s (List.mem_of_mem_take hs)⟩;intro i hi;(have hi':i<l/\i<zs.length:=by simp only[List.length_take] at hi;omega);have hc:=iz i qb;obtain⟨b,off,spot⟩:=x;(have oo:spot=none:=by simpa [Addr.add] using World.cell?_spot (iz 0 qb));subst oo;refine⟨b,off,rfl,?_⟩;simp only[gG,List.getElem?_take,if_pos hi'.1];rw[Addr.add_lit] at hc;simpa [gG] using hc
theorem open_store {r:Reach} {b0:Nat} {v:Value} {d:DataW H} {p:List MemPlace} (hv:Value.okWide prog W r b0 25 v) (h:DataW.Trod enc prog W base spare held 25 v d p) :
    ∃(n:Int) (ta ra:Option Addr) (tc rc:Nat) (ts:List By) (rs:List T3),v=.agg #[I n,.slice ta ts.length tc,.slice ra rs.length rc]/\Zq W ta ts ra rs:=by
  obtain⟨cs,rfl,de⟩:=okWide_struct underlying25 hv;rw[Tryz.cells25] at de;obtain⟨fuel,hf⟩:=h;obtain⟨y0,y1,y2,n,_,_,h0,h1,h2⟩:=trod_struct3 underlying25 hf;obtain⟨l⟩:=cs
  match l,de with
  | [c0,c1,c2],_=>
    simp only[Tryz.cells3,Tryz.cells22,Tryz.cells23] at h0 h1 h2;(have h0':DataW.trod enc prog W base spare held n 3 [c0]=some y0:=by simpa [Value.cells] using h0);(have h1':DataW.trod enc prog W base spare held n 22 [c1]=some y1:=by simpa [Value.cells] using h1);(have h2':DataW.trod enc prog W base spare held n 23 [c2]=some y2:=by simpa [Value.cells] using h2);obtain⟨m,e0,_,_⟩:=DataW.trod_int underlying3 h0';simp at e0;subst e0;obtain⟨ta,tc,ts,rfl,t1,t2,t3⟩:=open_texts h1';obtain⟨ra,rc,rs,rfl,r1,r2⟩:=open_recs h2';exact⟨m,ta,ra,tc,rc,ts,rs,rfl,t1,t2,t3,r1,r2⟩
end Go.Proofs.YtfgoholldpeabaaGreatDoor
