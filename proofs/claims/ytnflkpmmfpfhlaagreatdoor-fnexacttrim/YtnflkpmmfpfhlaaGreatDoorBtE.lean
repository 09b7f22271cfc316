import Derived.Test.YtnflkpmmfpfhlaaGreatDoorBsA
namespace Go.Proofs.YtnflkpmmfpfhlaaGreatDoor
open Value renaming slice->J,string->S,bool->F,agg->G,tuple->Y
open Option renaming some->M,none->N
open Obj renaming cells->O
open Go renaming Value->Z,World->E
open Ending renaming returned->H
open _root_ renaming List->L,Nat->X
set_option maxHeartbeats 8000000
set_option maxRecDepth 100000
open _root_.Go.Proofs.Tryz Go.RowKit Go.Deep
set_option linter.unusedVariables false
set_option linter.unusedSimpArgs false
variable {w w0 w' W:E} {ops:Array Oper} {a:Act} {Q:Exit→Act→E→Prop} {AF:Prop} {B n R lo m g1 rn p2 r g cap P k:X} {v v1 v2:Z} {xs:L Z} {a2:Option Addr} {ts T':L By} {x:By} {wd:Int} {rs:L T3}
theorem Sj(n:X)(ta ra:Option Addr)(tc rn rc:X)(ts:L By)(t:By)(w:E)(h1:1<=n)(h8:n<=8)(hc:Cu w ta ts)(hl:ts.length<=1048576)(hs:∀i,i<ts.length->(nx ts i).size<=2002):Calls prog 133 #[G #[I n,J ta ts.length tc,J ra rn rc],S t] w λe w'=>Bw w w'/\∃k:X,e=H (I k)/\k<=ts.length/\(∀j,j<k->Ax (Ap n (nx ts j)) t=true)/\(k<ts.length->Ax (Ap n (nx ts k)) t=false):=by
 have ak:Bw w (w.alloc (O #[I n,J ta ts.length tc,J ra rn rc] 35)):=aN _ _;have x0:(w.alloc (O #[I n,J ta ts.length tc,J ra rn rc] 35)).cell? ⟨w.heap.size,0,N⟩=M (I n):=qo;have x1:(w.alloc (O #[I n,J ta ts.length tc,J ra rn rc] 35)).cell? ⟨w.heap.size,1,N⟩=M (J ta ts.length tc):=qo;have HC:=Ab hc;have HS:=Ab hs;clear hc hs;go_enter func133,ntmps133;go_wp2_with fail
 go_loopw [5] (λv wr=>∃k:X,k<=ts.length/\v=I k/\Hd (∀j,j<k->Ax (Ap n (nx ts j)) t=true)/\wr.cell? ⟨w.heap.size,0,N⟩=M (I n)/\wr.cell? ⟨w.heap.size,1,N⟩=M (J ta ts.length tc)/\Bw w wr) (λv _=>ts.length-(intOf v).toNat)
 case atStart=>exact⟨0,Nat.zero_le _,rfl,(λj hj=>by omega:∀j,j<0->Ax (Ap n (nx ts j)) t=true),x0,x1,ak⟩
 case round=>
  obtain⟨k,hk,rfl,HK,y0,y1,bc⟩:=hrel;clear x0 x1 ak;have cq:Bw wr wr.drew:=(Below.refl _ _).drew
  by_cases ai:k<ts.length
  ·obtain⟨b,off,rfl,c1⟩:=(HC.o.bl bc) k ai
   replace c1:wr.cell? ⟨b,off+k,N⟩=M (S (nx ts k)):=c1;have ge:=HS.o k ai;have fs:(k:Int)<(ts.length:Int):=qg;have jn:(0:Int)<=(k:Int):=qg;obtain⟨v,hv⟩:=Aj (Ax (Ap n (nx ts k)) t);have HV:Hd (Ax (Ap n (nx ts k)) t=v):=hv;have fb:Hd (Ax (Ap n (nx ts k)) t=true->∀j,j<k+1->Ax (Ap n (nx ts j)) t=true):=λh=>Cw HK.o h;generalize nx ts k=x at c1 ge hv;have hx0:x.size<=1048576:=qg;obtain⟨q,eq⟩:=Aj (Ap n x);rw[eq]at hv;have ly:Hd (∀W:E,Calls prog 27 #[S x,I n] W λe w'=>e=H (S q)/\Bw W w'):=λW=>qhc;clear eq;unfold Ax at hv;cases v
   ·have HO:Hd (k<ts.length->Ax (Ap n (nx ts k)) t=false):=λ_=>HV.o
    go_wp2_with fail
    go_region_held3 (λw'=>(w'.cell? ⟨w.heap.size,0,N⟩=M (I n)/\w'.cell? ⟨w.heap.size,1,N⟩=M (J (M ⟨b,off,N⟩) ts.length tc))/\w'.cell? ⟨b,off+k,N⟩=M (S x))
     (first|assumption|(simp[*];done)|exact⟨⟨Aa af qu,Aa af qu⟩,Aa af qu⟩)
     (first|(go_at_call 27;refine(ly.o _).mono ?_;rintro e w2 ⟨rfl,af⟩))
    all_goals
     go_wp2_with fail;go_ret;exact⟨bt bc (bt cq af),k,rfl,hk,HK.o,HO.o⟩
   ·have HO:=Ab (fb.o HV.o)
    go_wp2_with fail
    go_region_held3 (λw'=>(w'.cell? ⟨w.heap.size,0,N⟩=M (I n)/\w'.cell? ⟨w.heap.size,1,N⟩=M (J (M ⟨b,off,N⟩) ts.length tc))/\w'.cell? ⟨b,off+k,N⟩=M (S x))
     (first|assumption|(simp[*];done)|exact⟨⟨Aa af qu,Aa af qu⟩,Aa af qu⟩)
     (first|(go_at_call 27;refine(ly.o _).mono ?_;rintro e w2 ⟨rfl,af⟩))
    all_goals
     have z0:=Aa af (Aa cq y0);have z1:=Aa af (Aa cq y1);go_wp2_with fail;go_roundw
     case rel=>exact⟨k+1,qg,qm,HO.o,z0,z1,bt bc (bt cq af)⟩
     case measure=>simp[intOf];omega
  ·have e1:decide (k<ts.length)=false:=qj
   have HN:=Ab ai;clear ai;go_wp2_with fail
   go_quiet (fail)
   go_wp2;go_ret;exact⟨below_drewN bc _,k,rfl,hk,HK.o,λh=>absurd h HN.o⟩
theorem l4Get_any(n:X)(ta ra:Option Addr)(tc rn rc:X)(ts:L By)(t:By)(w:E)(h1:1<=n)(h8:n<=8)(hc:Cu w ta ts)(hl:ts.length<=1048576)(hs:∀i,i<ts.length->(nx ts i).size<=2002)(fc:Hf (ts.map (Ap n))):Calls prog 107 #[G #[I n,J ta ts.length tc,J ra rn rc],S t] w λe w'=>Bw w w'/\∃A ok,e=H (Y #[S A,F ok])/\Gh n ts t A ok:=by
 have ak:Bw w (w.alloc (O #[I n,J ta ts.length tc,J ra rn rc] 35)):=aN _ _;have x0:(w.alloc (O #[I n,J ta ts.length tc,J ra rn rc] 35)).cell? ⟨w.heap.size,0,N⟩=M (I n):=qo;have x1:(w.alloc (O #[I n,J ta ts.length tc,J ra rn rc] 35)).cell? ⟨w.heap.size,1,N⟩=M (J ta ts.length tc):=qo;have HC:=Ab hc;have HS:=Ab hs;have HA:=Ab fc;clear hc hs fc;go_enter func107,ntmps107;go_wp2_with fail;refine(Sj n ta ra tc rn rc ts t _ h1 h8 (HC.o.bl ak) hl HS.o).mono ?_;rintro e wr ⟨ag,k,rfl,hk,p1,p2⟩;have bc:=bt ak ag;have y0:=Aa ag x0;have y1:=Aa ag x1;have jk:=Ab p1;have uq:=Ab p2;clear x0 x1 ak ag p1 p2;have cq:Bw wr wr.drew:=(Below.refl _ _).drew
 by_cases ai:k<ts.length
 ·obtain⟨b,off,rfl,c1⟩:=(HC.o.bl bc) k ai
  replace c1:wr.cell? ⟨b,off+k,N⟩=M (S (nx ts k)):=c1;have ge:=HS.o k ai;have fs:(k:Int)<(ts.length:Int):=qg;have jn:(0:Int)<=(k:Int):=qg;have wb:Hd (Ap n (nx ts k)=t->Gh n ts t (nx ts k) true):=λh=>Or.inl ⟨rfl,k,ai,h,rfl⟩;have je:Hd (¬ Ap n (nx ts k)=t->Gh n ts t ⟨#[]⟩ false):=λh=>Or.inr ⟨rfl,rfl,λhh=>h (Yk HA.o jk.o uq.o hk hh).2⟩;generalize nx ts k=x at *;have hx0:x.size<=1048576:=qg;obtain⟨q,eq⟩:=Aj (Ap n x);rw[eq]at wb je;have ly:Hd (∀W:E,Calls prog 27 #[S x,I n] W λe w'=>e=H (S q)/\Bw W w'):=λW=>qhc;clear eq jk uq
  by_cases hq:q=t
  ·have dq:=Fk hq
   have HO:Hd (Gh n ts t x true):=wb.o hq;clear hq wb je;go_wp2_with fail
   go_region_held3 (λw'=>(w'.cell? ⟨w.heap.size,0,N⟩=M (I n)/\w'.cell? ⟨w.heap.size,1,N⟩=M (J (M ⟨b,off,N⟩) ts.length tc))/\w'.cell? ⟨b,off+k,N⟩=M (S x))
    (first|assumption|(simp[*];done)|exact⟨⟨Aa af qu,Aa af qu⟩,Aa af qu⟩)
    (first|(go_at_call 27;refine(ly.o _).mono ?_;rintro e w2 ⟨rfl,af⟩))
   all_goals
    go_wp2_with fail
    go_ret2
    exact⟨bt bc (bt cq af),x,true,rfl,HO.o⟩
  ·have dq:=Hi hq
   have HO:=Ab (je.o hq);clear hq wb je;go_wp2_with fail
   go_region_held3 (λw'=>(w'.cell? ⟨w.heap.size,0,N⟩=M (I n)/\w'.cell? ⟨w.heap.size,1,N⟩=M (J (M ⟨b,off,N⟩) ts.length tc))/\w'.cell? ⟨b,off+k,N⟩=M (S x))
    (first|assumption|(simp[*];done)|exact⟨⟨Aa af qu,Aa af qu⟩,Aa af qu⟩)
    (first|(go_at_call 27;refine(ly.o _).mono ?_;rintro e w2 ⟨rfl,af⟩))
   all_goals
    go_wp2_with fail
    go_ret2
    exact⟨bt bc (bt cq af),⟨#[]⟩,false,rfl,HO.o⟩
 ·have e1:decide (k<ts.length)=false:=qj
  have HO:Hd (Gh n ts t ⟨#[]⟩ false):=Or.inr ⟨rfl,rfl,λhh=>ai (Yk HA.o jk.o uq.o hk hh).1⟩;clear ai;go_wp2_with fail
  go_quiet (fail)
  go_wp2
  go_ret2
  exact⟨below_drewN bc _,⟨#[]⟩,false,rfl,HO.o⟩
theorem specRead_no(s:By)(w:E)(hs:s.size<=1048576)(h:¬ rrB s):Calls prog 108 #[S s] w λe w'=>e=H (Tb 0 ⟨#[]⟩ false)/\Bw w w':=by
 rcases parts_no h with h|⟨h,k⟩
 ·go_enter func108,ntmps108
  go_wp2;exact bR (v:=Tb 0 ⟨#[]⟩ false) qgu rfl ⟨rfl,aN _ _⟩
 ·have vr:(s[1].toNat:Int)=58\/((s[1].toNat:Int) != 58)=true:=by by_cases e:(s[1].toNat:Int)=58;exact .inl e;exact .inr (by simpa using e)
  rcases vr with vr|vr
  all_goals
   go_enter func108,ntmps108;go_wp2
  all_goals first
   | exact bR (v:=Tb 0 ⟨#[]⟩ false) qgu rfl ⟨rfl,aN _ _⟩
   | (exfalso;omega)
theorem Qac(s:By)(w:E)(h:rrB s)(h0:0<s.size):Calls prog 108 #[S s] w λe w'=>e=H (Tb ((s[0].toNat:Int)-48) (s.extract 2 s.size) true)/\Bw w w':=by
 obtain⟨h,h2,h3,h4,h5⟩:=h;go_enter func108,ntmps108;go_wp2;go_region;go_wp2;exact bR (v:=Tb ((s[0].toNat:Int)-48) (s.extract 2 s.size) true) qgu rfl ⟨rfl,(aN _ _).drew⟩
theorem Qad(A:By)(w:E)(hs:A.size<=2002):Calls prog 108 #[S A] w λe w'=>Bw w w'/\((rrB A/\e=H (Y #[G #[I (rdC A),S (rdT A),nS],F true]))\/(¬ rrB A/\e=H (Y #[G #[I 0,ze,nS],F false]))):=by
 by_cases h:rrB A
 ·refine(Qac A w h (Va h)).mono ?_
  rintro e w' ⟨rfl,hb⟩;rw[rdC_eq (Va h)];exact⟨hb,Or.inl ⟨h,rfl⟩⟩
 ·refine(specRead_no A w qg h).mono ?_
  rintro e w' ⟨rfl,hb⟩;exact⟨hb,Or.inr ⟨h,rfl⟩⟩
theorem Ip(w:E)(B e sz:X)(hB:B≤w.heap.size):(w.alloc (O #[] e)).ownsRow B e sz (J (p_ w.heap.size) 0 0) 0 []:=World.ownsRow_lit (base:=B) (e:=e) (size:=sz) w #[] 0 hB qq qi
theorem Ga{o:Oper}{K:Act→E→Prop}(uj:o.guard=N)(s x:Operand)(t:TypeId)(ho:o.op=.call { callee:=.builtin .append,args:=#[s,x],argTypes:=#[t,t] })(base:X)(e:TypeId)(i:TypeInfo)(z:Z)(size bytes:X)(ht:prog.underlying t=M (.slice e))(hi:prog.info? e=M i)(hz:i.zero=M z)(hsize:i.size=size)(hby:i.bytes=bytes)(hzs:z.cells.size=size)(de:0<size)(d dl dc:X)(xs:L Z)(hs:a.eval s=J (p_ d) dl dc)(ah:w.ownsRow base e size (J (p_ d) dl dc) dl xs)(ad:Addr)(m c:X)(news:L Z)(hx:a.eval x=J (M ad) m c)(hl:news.length=m*size)(n7:∀j u,news[j]?=M u→w.cell? (ad.add j)=M u)(h1:∀u∈news,u.oneCell'=true)(h63:dl+m≤maxLen)(hbytes:(dl+m)*bytes≤140737488355328)(hbase:base≤w.heap.size)(h:∀g cap w',w'.ownsRow base e size (J (p_ g) (dl+m) cap) (dl+m) (xs++news)→w.grownBy w' (M d)→K (a.put o.dst (J (p_ g) (dl+m) cap)) w'):if Region.wanted o (yielded ops a.tmps)=true then Oper.wp prog o a w K Q else AF:=by
 have hw:Region.wanted o (yielded ops a.tmps)=true:=qbm;rw[if_pos hw];refine wp_append_own w s x t ho base e i z size bytes ht hi hz hsize hby hzs de _ dl xs hs ah ad m c news hx hl n7 h1 h63 hbytes hbase λv' w' h2 h3 h4=>?_;obtain⟨g,cap,rfl⟩:=Nh h2 (λe=>by have:=(h4.1 e).1;cases this);exact h g cap w' h2 h3
theorem Yo(ts:L By)(k:X):∀u∈(ts.map Value.string).take k,u.oneCell'=true:=λu hu=>Nx ts u (List.mem_of_mem_take hu)
theorem Yp(ts:L By)(k:X):∀u∈(ts.map Value.string).drop k,u.oneCell'=true:=λu hu=>Nx ts u (List.mem_of_mem_drop hu)
def KpS(lo:X)(w0:E)(e:Ending)(w':E)(m g1:X)(a2:Option Addr)(rn p2:X)(ts:L By)(x:By):Prop:=
 ∃r cd T' A B,Wm m ts (Ap m x) r∧Ji m ts x r cd T' A B∧((cd≠0∧e=H (G #[I cd,I 0,nS,nS,S A,S B]))∨(cd=0∧A=⟨#[]⟩∧B=⟨#[]⟩∧∃g p,e=H (G #[I 0,I (m:Int),J (p_ g) T'.length p,J a2 rn p2,ze,ze])∧w'.ownsRow lo 9 1 (J (p_ g) T'.length p) T'.length (T'.map Value.string)∧(g=g1∨w0.heap.size≤g)))
theorem own_set6(h:w.ownsRow B 9 1 v n xs)(ht:Dl w R 129)(u1 u2 u3 u4 u5 u6:Z):((((((w.setCell ⟨R,0,N⟩ u1).setCell ⟨R,1,N⟩ u2).setCell ⟨R,2,N⟩ u3).setCell ⟨R,3,N⟩ u4).setCell ⟨R,4,N⟩ u5).setCell ⟨R,5,N⟩ u6).ownsRow B 9 1 v n xs:=
 Ak (Ak (Ak (Ak (Ak (Ak h ht qh _) (ht.set _) qh _) ((ht.set _).set _) qh _) (((ht.set _).set _).set _) qh _) ((((ht.set _).set _).set _).set _) qh _) (((((ht.set _).set _).set _).set _).set _) qh _
theorem KpS.no{A B:By}{cd:Int}(h1:Wm m ts (Ap m x) r)(h2:Ji m ts x r cd T' A B)(h3:cd≠0):KpS lo w0 (H (G #[I cd,I 0,nS,nS,S A,S B])) w' m g1 a2 rn p2 ts x:=⟨r,cd,T',A,B,h1,h2,Or.inl ⟨h3,rfl⟩⟩
theorem KpS.yes{p:X}{l:X}(h1:Wm m ts (Ap m x) r)(h2:Ji m ts x r 0 T' ⟨#[]⟩ ⟨#[]⟩)(hl:l=T'.length)(h3:w'.ownsRow lo 9 1 (J (p_ g) l p) l (T'.map Value.string))(h4:g=g1∨w0.heap.size≤g)(ht:Dl w' R 129)(u1 u2 u3 u4 u5 u6:Z):KpS lo w0 (H (G #[I 0,I (m:Int),J (p_ g) l p,J a2 rn p2,ze,ze])) ((((((w'.setCell ⟨R,0,N⟩ u1).setCell ⟨R,1,N⟩ u2).setCell ⟨R,2,N⟩ u3).setCell ⟨R,3,N⟩ u4).setCell ⟨R,4,N⟩ u5).setCell ⟨R,5,N⟩ u6) m g1 a2 rn p2 ts x:=by
 subst hl;exact⟨r,0,T',_,_,h1,h2,Or.inr ⟨rfl,rfl,rfl,g,p,rfl,own_set6 h3 ht _ _ _ _ _ _,h4⟩⟩
theorem Ya{a:Option Addr}{c:X}(h:w.ownsRow B 9 1 (J a n c) ts.length (ts.map Value.string)):Cu w a ts:=by
 intro i hi
 obtain⟨b,e,k⟩:∃b,a=p_ b∧w.cell? ⟨b,i,N⟩=M (S (ts.getD i ByteArray.empty)):=by
  have hl:n=ts.length:=by
   rcases h.2 with⟨e,h0⟩|⟨g,c,cur,e,_⟩
   ·cases e;exact h0.symm
   ·cases e;rfl
  subst hl;exact Cv h (by rw[List.getElem?_map,Hq hi,gG,Hq hi];rfl)
 exact⟨b,0,e,by rw[Nat.zero_add];exact k⟩
theorem l4Put_b(m lo g1 p1:X)(a2:Option Addr)(rn p2:X)(ts:L By)(x:By)(w:E)(hX:w.ownsRow lo 9 1 (J (p_ g1) ts.length p1) ts.length (ts.map Value.string))(vp:lo≤w.heap.size)(sd:1≤m)(hm8:m≤8)(fw:Wf m ts)(hx:x.size≤2002):Calls prog 160 #[G #[I (m:Int),J (p_ g1) ts.length p1,J a2 rn p2],S x] w λe w'=>Bw w w'∧KpS lo w e w' m g1 a2 rn p2 ts x:=by
 obtain⟨i0,hi,bq,bi,ci⟩:=info_parts Tryz.info9b;obtain⟨W,eW⟩:=Aj ((w.alloc (O #[I (m:Int),J (p_ g1) ts.length p1,J a2 rn p2] 35)).alloc (O #[I 0,I 0,nS,nS,ze,ze] 129));have ak:Bw w W:=by rw[←eW];exact(aN _ _).alloc qi _
 have jn:W.heap[w.heap.size]?=M (O #[I (m:Int),J (p_ g1) ts.length p1,J a2 rn p2] 35 (0,0)):=qcc;have cu:W.heap[w.heap.size+1]?=M (O #[I 0,I 0,nS,nS,ze,ze] 129 (0,0)):=qcd;have I0:w.heap.size+1+1≤W.heap.size:=qbn;obtain⟨c0,c1,c2⟩:=Bb jn;have tz:=Ab jn;have fb:=Ab cu;have HX:=Ab hX
 have V4:ts.length≤p1∧p1≤maxLen:=by
  rcases hX.2 with⟨h,_⟩|⟨g',c',cur,hv,_,_,h1,h2,_⟩
  ·cases h
  ·cases hv;exact⟨h1,h2⟩
 obtain⟨hcp1,hcp2⟩:=V4;unfold maxLen at hcp2
 have di:Hd (∀W':E,Bw w W'→Cu W' (p_ g1) ts):=λW' hW=>by
  exact Ya (Ad hX hW)
 have hl5:=fw.1;have HSZ:=Ab fw.2.1;have hx0:x.size≤1048576:=qg;obtain⟨sm,esm⟩:=Aj (Ap m x);have ESM:=Ab esm;have ly:Hd (∀W':E,Calls prog 27 #[S x,I (m:Int)] W' λe w'=>e=H (S sm)∧Bw W' w'):=λW'=>by rw[←esm];exact Ex x m W' hx0 sd hm8
 have HPLC:Hd (∀W':E,Bw w W'→Calls prog 133 #[G #[I (m:Int),J (p_ g1) ts.length p1,J a2 rn p2],S sm] W' λe w'=>Bw W' w'∧∃k:X,e=H (I k)∧Wm m ts sm k):=λW' hW=>(Sj m _ a2 p1 _ p2 ts sm W' sd hm8 (di.o W' hW) qg HSZ.o).mono λe w' ⟨j1,k,j2,j3,j4,j5⟩=>⟨j1,k,j2,j3,j4,j5⟩;clear hX jn cu fw esm;go_enter func160,ntmps160;go_wp2_with fail;clear eW;refine(ly.o _).mono ?_;rintro e w1 ⟨rfl,ag⟩;have bm:=bt ak ag;have d0:=Aa ag c0;have d1:=Aa ag c1;have d2:=Aa ag c2;have ja:=Ab (Af fb.o ag);have HA1:=Ab (Af tz.o ag);have hW1:=ag.size;clear c0 c1 c2 ag tz fb ak;go_wp2_with fail;refine(HPLC.o _ bm).mono ?_;rintro e w2 ⟨af,k,rfl,d7⟩;have bg:=bt bm af;have pj:=Ab (Af ja.o af);have HA2:=Ab (Af HA1.o af);have hW2:=Nat.le_trans hW1 af.size;have A5:=Ab d7;have se:=d7.le;clear d0 d1 d2 af ja HA1 bm d7 HPLC;obtain⟨c0,c1,c2⟩:=Bb HA2.o;have cq:Bw w2 w2.drew:=(Below.refl _ _).drew;go_wp2_with fail
 go_cut [31] (λc wx=>∃t:Bool,c=F t∧Hd (t=true↔Jm m ts x k)∧Bw w2 wx)
 case first=>
  by_cases ai:k<ts.length
  ·have k1:w2.cell? ⟨g1,k,N⟩=M (S (nx ts k)):=by
    obtain⟨b',bz,ea,c⟩:=(di.o w2 bg) k ai;cases ea;rw[Nat.zero_add]at c;exact c
   have ge:=HSZ.o k ai;have fs:(k:Int)<(ts.length:Int):=qg;have jn:(0:Int)≤(k:Int):=qg;have wb:Hd (Ap m (nx ts k)=sm→Jm m ts x k):=λh=>⟨ai,by rw[h,ESM.o]⟩;have je:Hd (¬ Ap m (nx ts k)=sm→¬ Jm m ts x k):=λh h'=>h (by rw[h'.2,ESM.o]);generalize nx ts k=z at *;have hz0':z.size≤1048576:=qg;obtain⟨q,eq⟩:=Aj (Ap m z);rw[eq]at wb je;(have HSZ2:Hd (∀W:E,Calls prog 27 #[S z,I (m:Int)] W λe w'=>e=H (S q)∧Bw W w'):=λW=>by rw[←eq];exact Ex z m W hz0' sd hm8);clear eq
   by_cases hq:q=sm
   ·have dq:=Fk hq
    have HO:=Ab (wb.o hq);clear hq wb je
    go_region_held3 (λw'=>(w'.cell? ⟨w.heap.size,0,N⟩=M (I (m:Int))∧w'.cell? ⟨w.heap.size,1,N⟩=M (J (p_ g1) ts.length p1))∧w'.cell? ⟨g1,k,N⟩=M (S z))
     (first|exact⟨⟨c0,c1⟩,k1⟩|(with_reducible exact⟨⟨s0,s1⟩,s2⟩)|assumption)
     (first|(go_at_call 27;refine(HSZ2.o _).mono ?_;rintro e w3 ⟨rfl,au⟩;have ig:=bt cq au;have s0:=Aa ig c0;have s1:=Aa ig c1;have s2:=Aa ig k1))
    all_goals
     go_wp2_with fail;go_meet;exact⟨true,rfl,Gv HO.o,ig⟩
   ·have dq:=Hi hq
    have HO:=Ab (je.o hq);clear hq wb je
    go_region_held3 (λw'=>(w'.cell? ⟨w.heap.size,0,N⟩=M (I (m:Int))∧w'.cell? ⟨w.heap.size,1,N⟩=M (J (p_ g1) ts.length p1))∧w'.cell? ⟨g1,k,N⟩=M (S z))
     (first|exact⟨⟨c0,c1⟩,k1⟩|(with_reducible exact⟨⟨s0,s1⟩,s2⟩)|assumption)
     (first|(go_at_call 27;refine(HSZ2.o _).mono ?_;rintro e w3 ⟨rfl,au⟩;have ig:=bt cq au;have s0:=Aa ig c0;have s1:=Aa ig c1;have s2:=Aa ig k1))
    all_goals
     go_wp2_with fail;go_meet;exact⟨false,rfl,Eh HO.o,ig⟩
  ·have e1:decide (k<ts.length)=false:=qj
   have HO:Hd (¬ Jm m ts x k):=λh=>ai h.1;clear ai
   go_quiet (fail)
   go_wp2_with fail;go_meet;exact⟨false,rfl,Eh HO.o,below_drewN (Below.refl _ _) _⟩
 case rest=>
  obtain⟨t,rfl,A4,M7⟩:=hcut;have hBx:=bt bg M7;have mz:=Ab (Af pj.o M7);have HAX:=Ab (Af HA2.o M7);have hWx:=Nat.le_trans hW2 M7.size;clear c0 c1 c2 cq pj HA2 M7;rw[←ESM.o]at A5;cases t
  ·have HNTH:Hd (¬ Jm m ts x k):=λh=>by have:=A4.o.2 h;cases this
   by_cases h5:5000≤ts.length
   ·have HK:Hd (Ji m ts x k 3 ts ⟨#[]⟩ ⟨#[]⟩):=Or.inr (Or.inr (Or.inl ⟨HNTH.o,h5,rfl,rfl,rfl,rfl⟩))
    have d5:decide ((5000:Int)≤(ts.length:Int))=true:=qj;obtain⟨r0,r1,r2,r3,r4,r5⟩:=Hn mz.o;have rf:=(λj=>fH mz.o j);obtain⟨c0,c1,c2⟩:=Bb HAX.o;clear A4;go_wp2;refine bR (v:=G #[I 3,I 0,nS,nS,ze,ze]) qeg rfl ⟨Ja hBx (Nat.le_succ _) _ _ _ _ _ _,KpS.no A5.o HK.o qh⟩
   ·have HK:Hd (Ji m ts x k 0 (Hg ts x k) ⟨#[]⟩ ⟨#[]⟩):=Or.inr (Or.inr (Or.inr ⟨HNTH.o,h5,rfl,rfl,rfl,rfl⟩))
    have d5:decide ((5000:Int)≤(ts.length:Int))=false:=qj;obtain⟨c0,c1,c2⟩:=Bb HAX.o;have wh:Hd ((wc.alloc (O #[] 9)).ownsRow wc.heap.size 9 1 (J (p_ wc.heap.size) 0 0) 0 []):=Ip wc wc.heap.size 9 1 (Nat.le_refl _)
    have Y2:Hd (∀j u,((ts.map Value.string).take k)[j]?=M u→(wc.alloc (O #[] 9)).cell? ((⟨g1,0,N⟩:Addr).add j)=M u):=λj u hu=>by
     rw[List.getElem?_take]at hu
     split at hu
     ·exact Px (di.o _ (hBx.alloc hBx.size _)) j u hu
     ·cases hu
    have hk1c:(k:Int)≤(p1:Int):=qg;have c1l:(wc.alloc (O #[] 9)).cell? ⟨w.heap.size,1,N⟩=M (J (p_ g1) ts.length p1):=Du c1;clear A4 HNTH ly
    by_cases Q7:p1=k
    ·subst Q7
     obtain rfl:p1=ts.length:=qg
     go_wp2_with (first|(at_builtin;refine wpList_append_own _ rfl (.tmp 53) (.tmp 57) 22 rfl wc.heap.size 9 i0 ze 1 16 underlying22 hi bq bi ci rfl qh _ 0 [] rfl wh.o ⟨g1,0,N⟩ ts.length ts.length ((ts.map Value.string).take ts.length) rfl (by rw[List.length_take,List.length_map];omega) Y2.o (Yo ts ts.length) qq qg qi ?_;intro v' w3 aw ae dj;obtain⟨g3,p3,rfl⟩:=Nh aw (λe=>by have:=(dj.1 e).1;cases this);rw[Nat.zero_add,List.nil_append]at aw;rw[Nat.zero_add];have A6:Hd (w3.ownsRow wc.heap.size 9 1 (J (p_ g3) ts.length p3) ts.length ((ts.map Value.string).take ts.length)):=aw;have ig:Bw wc w3:=(aN _ _).grown ae qi (λj hj=>(wh.o.lt j hj).1);clear ae dj aw))
     have s1:=Aa ig c1;have o6:=ig.size;have HV4:Hd ((w3.drew.alloc (O #[S x] 9)).heap[w3.heap.size]?=M (O #[S x] 9 (0,0))):=Cr w3.drew _;have jj:Bw wc (w3.drew.alloc (O #[S x] 9)):=ig.drew.alloc (by simpa using o6) _;have pk:Hd ((w3.drew.alloc (O #[S x] 9)).ownsRow wc.heap.size 9 1 (J (p_ g3) ts.length p3) ts.length ((ts.map Value.string).take ts.length)):=(An (w':=w3.drew) A6.o (λ_ _=>rfl)).alloc _;have t1:=Aa jj c1;have HN4:Hd (∀W':E,Bw wc W'→∀j u,((ts.map Value.string).drop ts.length)[j]?=M u→W'.cell? ((⟨g1,0,N⟩:Addr).add j)=M u):=λW' hW j u hu=>by rw[List.drop_of_length_le (by rw[List.length_map];omega)]at hu;simp at hu
     go_region_held3 (λw'=>w'.cell? ⟨w.heap.size,1,N⟩=M (J (p_ g1) ts.length ts.length))
      (first|(with_reducible exact v1)|(with_reducible exact u1)|(with_reducible exact t1)|exact s1|exact t1)
      (first
      | (refine Ga (w:=w3.drew.alloc (O #[S x] 9)) rfl (.tmp 59) (.tmp 61) 22 rfl wc.heap.size 9 i0 ze 1 16 underlying22 hi bq bi ci rfl qh g3 ts.length p3 _ qt pk.o ⟨w3.heap.size,0,N⟩ 1 1 [S x] qt rfl (World.news_of_block (cs:=#[S x]) (t:=9) (fr:=(0,0)) HV4.o) qel qq qg jj.size ?_;intro g4 p4 w5 ho5 mj;have C7:Bw wc w5:=jj.grown mj jj.size (λj hj=>by have hj2:g3=j:=qci;rw[←hj2];exact(pk.o.lt g3 rfl).1);have v1:=Aa C7 c1;have yl:wc.heap.size≤w5.heap.size:=C7.size;have S3:Hd (w5.ownsRow wc.heap.size 9 1 (J (p_ g4) (ts.length+1) p4) (ts.length+1) ((ts.map Value.string).take ts.length++[S x])):=ho5;have HN5:Hd (∀j u,((ts.map Value.string).drop ts.length)[j]?=M u→w5.cell? ((⟨g1,0,N⟩:Addr).add j)=M u):=HN4.o w5 C7)
      | (refine Ga (w:=w5) rfl (.tmp 62) (.tmp 66) 22 rfl wc.heap.size 9 i0 ze 1 16 underlying22 hi bq bi ci rfl qh g4 (ts.length+1) p4 _ qt S3.o ⟨g1,0,N⟩ 0 0 ((ts.map Value.string).drop ts.length) qt (by rw[List.length_drop,List.length_map];omega) (HN5.o) (Yp ts ts.length) qq qg yl ?_;intro g6 p6 w6 ho6 hgx6;have R5:Bw wc w6:=C7.grown hgx6 yl (λj hj=>by have hj2:g4=j:=qci;rw[←hj2];exact(S3.o.lt g4 rfl).1);have u1:=Aa R5 c1;have HO6:Hd (w6.ownsRow wc.heap.size 9 1 (J (p_ g6) (ts.length+1) p6) (ts.length+1) ((Hg ts x ts.length).map Value.string)):=(by rw[show ts.length+1+0=ts.length+1 from qg]at ho6;rw[Qr];exact ho6);rw[show ts.length+1+0=ts.length+1 from qg])
      )
     all_goals
      have HR6:=Ab (Af mz.o R5);have HA6:=Af HAX.o R5;obtain⟨r0,r1,r2,r3,r4,r5⟩:=Hn HR6.o;have rf:=(λj=>fH HR6.o j);obtain⟨c0,c1,c2⟩:=Bb HA6;have qf:=(λj=>fH HA6 j);have X2:Hd (Dl w6 w.heap.size 35):=⟨_,HA6⟩;have HX6:Hd (w6.ownsRow lo 9 1 (J (p_ g6) (ts.length+1) p6) (ts.length+1) ((Hg ts x ts.length).map Value.string)):=Ah HO6.o (zo hBx.size);exact qil
    ·have hkp':=Q7
     go_wp2_with (first|(at_builtin;refine wpList_append_own _ rfl (.tmp 53) (.tmp 57) 22 rfl wc.heap.size 9 i0 ze 1 16 underlying22 hi bq bi ci rfl qh _ 0 [] rfl wh.o ⟨g1,0,N⟩ k p1 ((ts.map Value.string).take k) rfl (by rw[List.length_take,List.length_map];omega) Y2.o (Yo ts k) qq qg qi ?_;intro v' w3 aw ae dj;obtain⟨g3,p3,rfl⟩:=Nh aw (λe=>by have:=(dj.1 e).1;cases this);rw[Nat.zero_add,List.nil_append]at aw;rw[Nat.zero_add];have A6:Hd (w3.ownsRow wc.heap.size 9 1 (J (p_ g3) k p3) k ((ts.map Value.string).take k)):=aw;have ig:Bw wc w3:=(aN _ _).grown ae qi (λj hj=>(wh.o.lt j hj).1);clear ae dj aw))
     have s1:=Aa ig c1;have o6:=ig.size;have HV4:Hd ((w3.drew.alloc (O #[S x] 9)).heap[w3.heap.size]?=M (O #[S x] 9 (0,0))):=Cr w3.drew _;have jj:Bw wc (w3.drew.alloc (O #[S x] 9)):=ig.drew.alloc (by simpa using o6) _;have pk:Hd ((w3.drew.alloc (O #[S x] 9)).ownsRow wc.heap.size 9 1 (J (p_ g3) k p3) k ((ts.map Value.string).take k)):=(An (w':=w3.drew) A6.o (λ_ _=>rfl)).alloc _;have t1:=Aa jj c1
     have HN4:Hd (∀W':E,Bw wc W'→∀j u,((ts.map Value.string).drop k)[j]?=M u→W'.cell? ((⟨g1,k,N⟩:Addr).add j)=M u):=λW' hW j u hu=>by
      rw[List.getElem?_drop]at hu;have h:=Px (di.o _ (bt hBx hW)) (k+j) u hu;rw[Addr.add_lit]at h ⊢;rw[Nat.zero_add]at h;exact h
     go_region_held3 (λw'=>w'.cell? ⟨w.heap.size,1,N⟩=M (J (p_ g1) ts.length p1))
      (first|(with_reducible exact v1)|(with_reducible exact u1)|(with_reducible exact t1)|exact s1|exact t1)
      (first
      | (refine Ga (w:=w3.drew.alloc (O #[S x] 9)) rfl (.tmp 59) (.tmp 61) 22 rfl wc.heap.size 9 i0 ze 1 16 underlying22 hi bq bi ci rfl qh g3 k p3 _ qt pk.o ⟨w3.heap.size,0,N⟩ 1 1 [S x] qt rfl (World.news_of_block (cs:=#[S x]) (t:=9) (fr:=(0,0)) HV4.o) qel qq qg jj.size ?_;intro g4 p4 w5 ho5 mj;have C7:Bw wc w5:=jj.grown mj jj.size (λj hj=>by have hj2:g3=j:=qci;rw[←hj2];exact(pk.o.lt g3 rfl).1);have v1:=Aa C7 c1;have yl:wc.heap.size≤w5.heap.size:=C7.size;have S3:Hd (w5.ownsRow wc.heap.size 9 1 (J (p_ g4) (k+1) p4) (k+1) ((ts.map Value.string).take k++[S x])):=ho5;have HN5:Hd (∀j u,((ts.map Value.string).drop k)[j]?=M u→w5.cell? ((⟨g1,k,N⟩:Addr).add j)=M u):=HN4.o w5 C7)
      | (refine Ga (w:=w5) rfl (.tmp 62) (.tmp 66) 22 rfl wc.heap.size 9 i0 ze 1 16 underlying22 hi bq bi ci rfl qh g4 (k+1) p4 _ qt S3.o ⟨g1,k,N⟩ (ts.length-k) (p1-k) ((ts.map Value.string).drop k) qt (by rw[List.length_drop,List.length_map];omega) (HN5.o) (Yp ts k) qq qg yl ?_;intro g6 p6 w6 ho6 hgx6;have R5:Bw wc w6:=C7.grown hgx6 yl (λj hj=>by have hj2:g4=j:=qci;rw[←hj2];exact(S3.o.lt g4 rfl).1);have u1:=Aa R5 c1;have HO6:Hd (w6.ownsRow wc.heap.size 9 1 (J (p_ g6) (ts.length+1) p6) (ts.length+1) ((Hg ts x k).map Value.string)):=(by rw[show k+1+(ts.length-k)=ts.length+1 from qg]at ho6;rw[Qr];exact ho6);rw[show k+1+(ts.length-k)=ts.length+1 from qg])
      )
     all_goals
      have HR6:=Ab (Af mz.o R5);have HA6:=Af HAX.o R5;obtain⟨r0,r1,r2,r3,r4,r5⟩:=Hn HR6.o;have rf:=(λj=>fH HR6.o j);obtain⟨c0,c1,c2⟩:=Bb HA6;have qf:=(λj=>fH HA6 j);have X2:Hd (Dl w6 w.heap.size 35):=⟨_,HA6⟩;have HX6:Hd (w6.ownsRow lo 9 1 (J (p_ g6) (ts.length+1) p6) (ts.length+1) ((Hg ts x k).map Value.string)):=Ah HO6.o (zo hBx.size);exact qil
  ·have yx:=A4.o.1 rfl
   obtain⟨h3,h4⟩:=yx;have HTH2:Hd (Jm m ts x k):=⟨h3,h4⟩;have fs:(k:Int)<(ts.length:Int):=qg
   have k1:wc.cell? ⟨g1,k,N⟩=M (S (nx ts k)):=by
    obtain⟨b',bz,ea,c⟩:=(di.o wc hBx) k h3;cases ea;rw[Nat.zero_add]at c;exact c
   obtain⟨r0,r1,r2,r3,r4,r5⟩:=Hn mz.o;have rf:=(λj=>fH mz.o j);obtain⟨c0,c1,c2⟩:=Bb HAX.o
   by_cases hne:nx ts k=x
   ·have HK:Hd (Ji m ts x k 0 ts ⟨#[]⟩ ⟨#[]⟩):=Or.inr (Or.inl ⟨HTH2.o,hne,rfl,rfl,rfl,rfl⟩)
    have jh:=Fk hne;clear A4 HTH2 h4 hne;generalize nx ts k=z at k1 jh;go_wp2;refine bR (v:=G #[I 0,I (m:Int),J (p_ g1) ts.length p1,J a2 rn p2,ze,ze]) qeg rfl ⟨Ja hBx (Nat.le_succ _) _ _ _ _ _ _,KpS.yes (R:=w.heap.size+1) A5.o HK.o rfl (Ad HX.o hBx) (Or.inl rfl) ⟨_,mz.o⟩ _ _ _ _ _ _⟩
   ·have HK:Hd (Ji m ts x k 2 ts (nx ts k) x):=Or.inl ⟨HTH2.o,hne,rfl,rfl,rfl,rfl⟩
    have jh:=Hi hne;clear A4 HTH2 h4 hne;generalize nx ts k=z at k1 jh HK;go_wp2;refine bR (v:=G #[I 2,I 0,nS,nS,S z,S x]) qeg rfl ⟨Ja hBx (Nat.le_succ _) _ _ _ _ _ _,KpS.no A5.o HK.o qh⟩
theorem Jg{AM x:E}{ob:Option X}{p:Addr}(hg:AM.grownBy x ob)(h:AM.cell? p=M v)(hne:ob≠M p.block):x.cell? p=M v:=by rw[hg.cell_far p (World.block_lt_of_cell? _ _ h) (λe=>hne e.symm)];exact h

theorem Ln{e sz:X}(h:w.ownsRow B e sz (J (p_ g) n cap) n xs){b j:X}(hb:b≠g)(v:Z):(w.setCell ⟨b,j,N⟩ v).ownsRow B e sz (J (p_ g) n cap) n xs:=An h λc q=>by
 cases q;exact Dm w ⟨b,j,N⟩ v _ (Ne.symm hb)
theorem Nj(a:Option Addr)(cap:X)(is:L I3)(w:E)(hc:Cn w a is)(h1:1≤is.length∨∃b off,a=M ⟨b,off,N⟩)(hl:is.length≤1048576):Calls prog 53 #[G #[J a is.length cap]] w λe w'=>Bw w w'∧∃g cp,e=H (G #[J (p_ g) is.length cp])∧w'.ownsRow w.heap.size 174 3 (J (p_ g) is.length cp) is.length (Fd is):=by
 obtain⟨i0,hi,bq,bi,ci⟩:=info_parts Tryz.info165b
 obtain⟨b,off,rfl⟩:∃b off,a=M ⟨b,off,N⟩:=by
  rcases h1 with h|h
  ·obtain⟨b,off,e,_⟩:=hc 0 qg;exact⟨b,off,e⟩
  ·exact h
 have ak:Bw w ((w.alloc (O #[J (M ⟨b,off,N⟩) is.length cap] 70)).alloc (O #[nS] 70)):=(aN _ _).alloc qi _;have ag:Bw w (((w.alloc (O #[J (M ⟨b,off,N⟩) is.length cap] 70)).alloc (O #[nS] 70)).alloc (O #[] 174)):=ak.alloc qj _
 have dw:(((w.alloc (O #[J (M ⟨b,off,N⟩) is.length cap] 70)).alloc (O #[nS] 70)).alloc (O #[] 174)).ownsRow (w.heap.size+1+1) 174 3 (J (p_ (w.heap.size+1+1)) 0 0) 0 []:=by
  exact qit
 have hn:=Od (hc.bl ag);have HL:=Ab (Iy is);have HO:=Ab (Qs is);generalize Fd is=xs at *;clear hc ak;go_enter func53,ntmps53
 go_wp2_with (at_builtin;refine wpList_append_own _ rfl (.tmp 3) (.tmp 5) 68 rfl (w.heap.size+1+1) 174 i0 (G #[I 0,ze,I 0]) 3 32 underlying68 hi bq bi ci rfl qh _ 0 [] rfl dw ⟨b,off,N⟩ is.length cap xs rfl HL.o hn HO.o qq qg qi ?_;intro v' w2 aw ae dj;have gy:Below (w.heap.size+1+1) (((w.alloc (O #[J (M ⟨b,off,N⟩) is.length cap] 70)).alloc (O #[nS] 70)).alloc (O #[] 174)) w2:=(Below.refl _ _).grown ae qi (λk hk=>(dw.lt k hk).1);have c1:w2.cell? ⟨w.heap.size+1,0,N⟩=M nS:=(by rw[gy.cell (p:=⟨w.heap.size+1,0,N⟩) qi];simp[go_sem]);have f1:w2.frozen? ⟨w.heap.size+1,0,N⟩=false:=(by rw[gy.frozen (p:=⟨w.heap.size+1,0,N⟩) qi];simp[go_sem]);have hB:Bw w w2:=ag.trans (gy.mono qg);rw[Nat.zero_add,List.nil_append]at aw;obtain⟨g,cp,rfl⟩:=Nh aw (λe=>by have:=(dj.1 e).1;cases this);have hg:=(aw.lt g rfl).1;have Of:Hd (w2.ownsRow w.heap.size 174 3 (J (p_ g) is.length cp) is.length xs):=Ah aw qg;clear ae dw hn gy aw ag)
 exact qjt
theorem l4Record_any(a:Option Addr)(cap lb lf lc:X)(is:L I3)(gs:L G3)(out:By)(w:E)(rc:Cn w a is)(rg:Gf w (M ⟨lb,lf,N⟩) gs)(h1:1≤is.length∨∃b off,a=M ⟨b,off,N⟩)(hl:is.length≤1048576)(hg:gs.length≤1048576):Calls prog 25 #[G #[J a is.length cap,J (M ⟨lb,lf,N⟩) gs.length lc,S out]] w λe w'=>Bw w w'∧Rz w.heap.size w' e is gs out:=by
 obtain⟨i0,hi,bq,bi,ci⟩:=info_parts Tryz.info88b;obtain⟨W,eW⟩:=Aj ((w.alloc (O #[J a is.length cap,J (M ⟨lb,lf,N⟩) gs.length lc,S out] 73)).alloc (O #[nS,nS,ze] 73));have ak:Bw w W:=by rw[←eW];exact(aN _ _).alloc qi _
 have jn:W.heap[w.heap.size]?=M (O #[J a is.length cap,J (M ⟨lb,lf,N⟩) gs.length lc,S out] 73 (0,0)):=qcc;have cu:W.heap[w.heap.size+1]?=M (O #[nS,nS,ze] 73 (0,0)):=qcd;have I0:w.heap.size+1+1≤W.heap.size:=qbn;obtain⟨c0,c1,c2⟩:=Bb jn;have fb:=Ab cu;have HA:Hd (∀W':E,Bw W W'→Calls prog 53 #[G #[J a is.length cap]] W' λe w'=>Bw W' w'∧∃g cp,e=H (G #[J (p_ g) is.length cp])∧w'.ownsRow W'.heap.size 174 3 (J (p_ g) is.length cp) is.length (Fd is)):=λW' hW=>Nj a cap is W' (rc.bl (bt ak hW)) h1 hl;have HN:Hd (∀W':E,Bw W W'→∀j u,(Lf gs)[j]?=M u→W'.cell? ((⟨lb,lf,N⟩:Addr).add j)=M u):=λW' hW=>Yx (rg.bl (bt ak hW));have HL:=Ab (Nl gs);have HO:=Ab (gloV_one gs);have iz:Bw W W.drew:=(Below.refl _ _).drew;have vx:Bw W (W.drew.alloc (O #[] 115)):=iz.alloc qi _;have oe:(W.drew.alloc (O #[] 115)).ownsRow W.heap.size 115 3 (J (p_ W.heap.size) 0 0) 0 []:=Ip W.drew W.heap.size 115 3 qi;have wh:=Ab oe;obtain⟨e0,e1,e2⟩:(W.drew.alloc (O #[] 115)).cell? ⟨w.heap.size,0,N⟩=M (J a is.length cap)∧(W.drew.alloc (O #[] 115)).cell? ⟨w.heap.size,1,N⟩=M (J (M ⟨lb,lf,N⟩) gs.length lc)∧(W.drew.alloc (O #[] 115)).cell? ⟨w.heap.size,2,N⟩=M (S out):=⟨Aa vx c0,Aa vx c1,Aa vx c2⟩;clear rc rg jn cu oe;go_enter func25,ntmps25;go_wp2_with fail;clear eW
 go_region_held3 (λw'=>w'.cell? ⟨w.heap.size,0,N⟩=M (J a is.length cap)∧w'.cell? ⟨w.heap.size,1,N⟩=M (J (M ⟨lb,lf,N⟩) gs.length lc)∧w'.cell? ⟨w.heap.size,2,N⟩=M (S out))
  (first|(with_reducible exact⟨t0,t1,t2⟩)|(with_reducible exact⟨s0,s1,s2⟩)|(with_reducible exact⟨Du s0,Du s1,Du s2⟩)|(refine⟨?_,?_,?_⟩<;>(rw[World.cell?_setCell_far _ _ _ _ qi,World.cell?_setCell_far _ _ _ _ qi,World.cell?_setCell_far _ _ _ _ qi];assumption))|(with_reducible exact⟨e0,e1,e2⟩)|exact⟨c0,c1,c2⟩|exact⟨e0,e1,e2⟩)
  (first
    | (refine Ga (w:=w2.alloc (O #[] 115)) rfl (.tmp 6) (.tmp 8) 71 rfl W.heap.size 115 i0 (G #[ze,F false,ze]) 3 40 underlying71 hi bq bi ci rfl qh w2.heap.size 0 0 [] qt (Ip w2 W.heap.size 115 3 bg.size) ⟨lb,lf,N⟩ gs.length lc (Lf gs) qt HL.o (HN.o _ (bg.alloc bg.size _)) HO.o qq qg (by have:=bg.size;simp;omega) ?_;intro g2 p2 x ky mj;have hne:∀q:X,q<W.heap.size→M w2.heap.size≠M q:=(λq hq e=>by have:=bg.size;simp at e;omega);have t0:=Jg mj (Du s0) (hne _ qj);have t1:=Jg mj (Du s1) (hne _ qj);have t2:=Jg mj (Du s2) (hne _ qj);have ig:Bw W x:=(bg.alloc bg.size _).grown mj (by have:=bg.size;simp;omega) (λk hk=>by have:=bg.size;simp at hk;omega);have P4:=Af fb.o ig;obtain⟨r0,r1,r2⟩:=Bb P4;have rf:=(λj=>fH P4 j);have A7:Hd (x.ownsRow W.heap.size 174 3 (J (p_ g1) is.length p1) is.length (Fd is)):=An (lj.o.alloc _) (λb eb=>mj.block b ((lj.o.alloc _).lt b eb).2 (λe'=>by have:=(lj.o.lt b eb).2;simp at e';omega));have xr:Hd (x.ownsRow W.heap.size 115 3 (J (p_ g2) gs.length p2) gs.length (Lf gs)):=qct;rw[Nat.zero_add])
    | (refine Ga (w:=w2) rfl (.tmp 6) (.tmp 8) 71 rfl W.heap.size 115 i0 (G #[ze,F false,ze]) 3 40 underlying71 hi bq bi ci rfl qh W.heap.size 0 0 [] qt HLI2.o ⟨lb,lf,N⟩ gs.length lc (Lf gs) qt HL.o (HN.o _ bg) HO.o qq qg bg.size ?_;intro g2 p2 x ky mj;have hne:∀q:X,q<W.heap.size→M W.heap.size≠M q:=(λq hq e=>by simp at e;omega);have t0:=Jg mj s0 (hne _ qj);have t1:=Jg mj s1 (hne _ qj);have t2:=Jg mj s2 (hne _ qj);have ig:Bw W x:=bg.grown mj bg.size (λk hk=>qdd);have P4:=Af fb.o ig;obtain⟨r0,r1,r2⟩:=Bb P4;have rf:=(λj=>fH P4 j);have A7:Hd (x.ownsRow W.heap.size 174 3 (J (p_ g1) is.length p1) is.length (Fd is)):=An lj.o (λb eb=>mj.block b (lj.o.lt b eb).2 (λe'=>Tc HLI2.o lj.o qh W.heap.size rfl (by rw[eb,e'])));have xr:Hd (x.ownsRow W.heap.size 115 3 (J (p_ g2) gs.length p2) gs.length (Lf gs)):=qct;rw[Nat.zero_add])
    | (go_at_call 53;(first|(refine(HA.o _ vx).mono ?_;rintro e w2 ⟨af,g1,p1,rfl,i8⟩;have bg:=bt vx af;have HLI2:Hd (w2.ownsRow W.heap.size 115 3 (J (p_ W.heap.size) 0 0) 0 []):=Ad wh.o af;have lj:Hd (w2.ownsRow W.heap.size 174 3 (J (p_ g1) is.length p1) is.length (Fd is)):=Ah i8 qi)|(refine(HA.o _ iz).mono ?_;rintro e w2 ⟨af,g1,p1,rfl,i8⟩;have bg:=bt iz af;have lj:Hd (w2.ownsRow W.heap.size 174 3 (J (p_ g1) is.length p1) is.length (Fd is)):=i8));have s0:=Aa bg c0;have s1:=Aa bg c1;have s2:=Aa bg c2))
 all_goals
  have hg1:=(A7.o.lt g1 rfl).1;have xy:=(xr.o.lt g2 rfl).1;have hB:=bt ak ig;go_wp2_with fail;refine bR (v:=G #[J (p_ g1) is.length p1,J (p_ g2) gs.length p2,S out]) (by simp[results,results25,go_sem,r0,r1,r2]) rfl ⟨?_,g1,p1,g2,p2,rfl,?_,?_⟩
  ·exact qfl
  ·exact qml
  ·exact qmm

theorem Yc{o:Oper}{K:Act→E→Prop}(uj:o.guard=N)(s x:Operand)(t:TypeId)(ho:o.op=.call { callee:=.builtin .append,args:=#[s,x],argTypes:=#[t,t] })(base:X)(e:TypeId)(i:TypeInfo)(size:X)(ht:prog.underlying t=M (.slice e))(hi:prog.info? e=M i)(d dl dc:X)(xs:L Z)(hs:a.eval s=J (p_ d) dl dc)(ah:w.ownsRow base e size (J (p_ d) dl dc) dl xs)(hx:a.eval x=nS)(h:∀g cap w',w'.ownsRow base e size (J (p_ g) dl cap) dl xs→w.grownBy w' (M d)→K (a.put o.dst (J (p_ g) dl cap)) w'):if Region.wanted o (yielded ops a.tmps)=true then Oper.wp prog o a w K Q else AF:=by
 have hw:Region.wanted o (yielded ops a.tmps)=true:=qbm;rw[if_pos hw];have kw:=run_append_owned_none (P:=prog) (w:=w) base t o.type e i size ht hi _ dl xs ah;unfold Oper.wp;simp[execOp,ho,resolve,invoke,builtin,hs,hx,kw,Result.andThen];exact h d dc w ah ⟨rfl,rfl,rfl,Nat.le_refl _,λ_ _ _=>rfl⟩
theorem l4Record_nil(a:Option Addr)(cap:X)(is:L I3)(out:By)(w:E)(rc:Cn w a is)(h1:1≤is.length∨∃b off,a=M ⟨b,off,N⟩)(hl:is.length≤1048576):Calls prog 25 #[G #[J a is.length cap,nS,S out]] w λe w'=>Bw w w'∧Rz w.heap.size w' e is [] out:=by
 obtain⟨i0,hi,bq,bi,ci⟩:=info_parts Tryz.info88b;obtain⟨W,eW⟩:=Aj ((w.alloc (O #[J a is.length cap,nS,S out] 73)).alloc (O #[nS,nS,ze] 73));have ak:Bw w W:=by rw[←eW];exact(aN _ _).alloc qi _
 have jn:W.heap[w.heap.size]?=M (O #[J a is.length cap,nS,S out] 73 (0,0)):=qcc;have cu:W.heap[w.heap.size+1]?=M (O #[nS,nS,ze] 73 (0,0)):=qcd;have I0:w.heap.size+1+1≤W.heap.size:=qbn;obtain⟨c0,c1,c2⟩:=Bb jn;have fb:=Ab cu;have HA:Hd (∀W':E,Bw W W'→Calls prog 53 #[G #[J a is.length cap]] W' λe w'=>Bw W' w'∧∃g cp,e=H (G #[J (p_ g) is.length cp])∧w'.ownsRow W'.heap.size 174 3 (J (p_ g) is.length cp) is.length (Fd is)):=λW' hW=>Nj a cap is W' (rc.bl (bt ak hW)) h1 hl;have iz:Bw W W.drew:=(Below.refl _ _).drew;have vx:Bw W (W.drew.alloc (O #[] 115)):=iz.alloc qi _;have oe:(W.drew.alloc (O #[] 115)).ownsRow W.heap.size 115 3 (J (p_ W.heap.size) 0 0) 0 []:=Ip W.drew W.heap.size 115 3 qi;have wh:=Ab oe;obtain⟨e0,e1,e2⟩:(W.drew.alloc (O #[] 115)).cell? ⟨w.heap.size,0,N⟩=M (J a is.length cap)∧(W.drew.alloc (O #[] 115)).cell? ⟨w.heap.size,1,N⟩=M nS∧(W.drew.alloc (O #[] 115)).cell? ⟨w.heap.size,2,N⟩=M (S out):=⟨Aa vx c0,Aa vx c1,Aa vx c2⟩;clear rc jn cu oe;go_enter func25,ntmps25;go_wp2_with fail;clear eW
 go_region_held3 (λw'=>w'.cell? ⟨w.heap.size,0,N⟩=M (J a is.length cap)∧w'.cell? ⟨w.heap.size,1,N⟩=M nS∧w'.cell? ⟨w.heap.size,2,N⟩=M (S out))
  (first|(with_reducible exact⟨t0,t1,t2⟩)|(with_reducible exact⟨s0,s1,s2⟩)|(with_reducible exact⟨Du s0,Du s1,Du s2⟩)|(refine⟨?_,?_,?_⟩<;>(rw[World.cell?_setCell_far _ _ _ _ qi,World.cell?_setCell_far _ _ _ _ qi,World.cell?_setCell_far _ _ _ _ qi];assumption))|(with_reducible exact⟨e0,e1,e2⟩)|exact⟨c0,c1,c2⟩|exact⟨e0,e1,e2⟩)
  (first
    | (refine Yc (w:=w2.alloc (O #[] 115)) rfl (.tmp 6) (.tmp 8) 71 rfl W.heap.size 115 i0 3 underlying71 hi w2.heap.size 0 0 [] qt (Ip w2 W.heap.size 115 3 bg.size) qt ?_;intro g2 p2 x ky mj;have hne:∀q:X,q<W.heap.size→M w2.heap.size≠M q:=(λq hq e=>by have:=bg.size;simp at e;omega);have t0:=Jg mj (Du s0) (hne _ qj);have t1:=Jg mj (Du s1) (hne _ qj);have t2:=Jg mj (Du s2) (hne _ qj);have ig:Bw W x:=(bg.alloc bg.size _).grown mj (by have:=bg.size;simp;omega) (λk hk=>by have:=bg.size;simp at hk;omega);have P4:=Af fb.o ig;obtain⟨r0,r1,r2⟩:=Bb P4;have rf:=(λj=>fH P4 j);have A7:Hd (x.ownsRow W.heap.size 174 3 (J (p_ g1) is.length p1) is.length (Fd is)):=An (lj.o.alloc _) (λb eb=>mj.block b ((lj.o.alloc _).lt b eb).2 (λe'=>by have:=(lj.o.lt b eb).2;simp at e';omega));have xr:Hd (x.ownsRow W.heap.size 115 3 (J (p_ g2) 0 p2) 0 (Lf [])):=ky)
    | (refine Yc (w:=w2) rfl (.tmp 6) (.tmp 8) 71 rfl W.heap.size 115 i0 3 underlying71 hi W.heap.size 0 0 [] qt HLI2.o qt ?_;intro g2 p2 x ky mj;have hne:∀q:X,q<W.heap.size→M W.heap.size≠M q:=(λq hq e=>by simp at e;omega);have t0:=Jg mj s0 (hne _ qj);have t1:=Jg mj s1 (hne _ qj);have t2:=Jg mj s2 (hne _ qj);have ig:Bw W x:=bg.grown mj bg.size (λk hk=>qdd);have P4:=Af fb.o ig;obtain⟨r0,r1,r2⟩:=Bb P4;have rf:=(λj=>fH P4 j);have A7:Hd (x.ownsRow W.heap.size 174 3 (J (p_ g1) is.length p1) is.length (Fd is)):=An lj.o (λb eb=>mj.block b (lj.o.lt b eb).2 (λe'=>Tc HLI2.o lj.o qh W.heap.size rfl (by rw[eb,e'])));have xr:Hd (x.ownsRow W.heap.size 115 3 (J (p_ g2) 0 p2) 0 (Lf [])):=ky)
    | (go_at_call 53;(first|(refine(HA.o _ vx).mono ?_;rintro e w2 ⟨af,g1,p1,rfl,i8⟩;have bg:=bt vx af;have HLI2:Hd (w2.ownsRow W.heap.size 115 3 (J (p_ W.heap.size) 0 0) 0 []):=Ad wh.o af;have lj:Hd (w2.ownsRow W.heap.size 174 3 (J (p_ g1) is.length p1) is.length (Fd is)):=Ah i8 qi)|(refine(HA.o _ iz).mono ?_;rintro e w2 ⟨af,g1,p1,rfl,i8⟩;have bg:=bt iz af;have lj:Hd (w2.ownsRow W.heap.size 174 3 (J (p_ g1) is.length p1) is.length (Fd is)):=i8));have s0:=Aa bg c0;have s1:=Aa bg c1;have s2:=Aa bg c2))
 all_goals
  have hg1:=(A7.o.lt g1 rfl).1;have xy:=(xr.o.lt g2 rfl).1;have hB:=bt ak ig;go_wp2_with fail;refine bR (v:=G #[J (p_ g1) is.length p1,J (p_ g2) 0 p2,S out]) (by simp[results,results25,go_sem,r0,r1,r2]) rfl ⟨?_,g1,p1,g2,p2,rfl,?_,?_⟩
  ·exact qfl
  ·exact qml
  ·exact qmm

theorem Qp(ca:Option Addr)(cap:X)(lv:Z)(is:L I3)(gs:L G3)(zs:L Z)(out:By)(w:E)(rc:Cn w ca is)(hr:w.ownsRow B 115 3 lv gs.length zs)(hf:Bx gs gs.length zs)(h1:1≤is.length∨∃b off,ca=M ⟨b,off,N⟩)(hl:is.length≤1048576)(hg:gs.length≤1048576):Calls prog 25 #[G #[J ca is.length cap,lv,S out]] w λe w'=>Bw w w'∧Rz w.heap.size w' e is gs out:=by
 have hr':=hr
 rcases hr.2 with⟨rfl,h0⟩|⟨g,c,cur,rfl,_⟩
 ·obtain rfl:gs=[]:=List.eq_nil_of_length_eq_zero h0
  exact l4Record_nil ca cap is out w rc h1 hl
 ·obtain⟨a,cp,q,rg⟩:=Gl hr' hf
  cases q;exact l4Record_any ca cap g 0 c is gs out w rc rg h1 hl hg
def Rc(w:E)(a:Option Addr)(is:L T3):Prop:=
 ∀i,i<is.length→∃b off,a=M ⟨b,off,N⟩∧∃ca cc la lc B2 us,w.cell? ⟨b,off+i*3,N⟩=M (J ca (qx is i).code.length cc)∧w.cell? ⟨b,off+i*3+1,N⟩=M (J la (qx is i).looks.length lc)∧w.cell? ⟨b,off+i*3+2,N⟩=M (S (qx is i).out)∧Cn w ca (qx is i).code∧(1≤(qx is i).code.length∨∃b off,ca=M ⟨b,off,N⟩)∧w.ownsRow B2 115 3 (J la (qx is i).looks.length lc) (qx is i).looks.length us∧Bx (qx is i).looks (qx is i).looks.length us
theorem Eo.rowW{a:Option Addr}{R:L T3}(h:Eo w B (J a R.length cap) R)(h1:∀i,i<R.length→1≤(qx R i).code.length):Rc w a R:=λi hi=>by
 obtain⟨xs,cv,lv,h⟩:=h;obtain⟨f1,f2,f3⟩:=h.fil i hi;obtain⟨ys,k1,k2⟩:=h.code i hi;obtain⟨zs,l1,l2⟩:=h.look i hi;obtain⟨ca,cc,e1,r1⟩:=Qh k1 k2;obtain⟨la,lc,e2⟩:=Al l1;rw[e1]at f1;rw[e2]at f2 l1;obtain⟨b,rfl,c1⟩:=Cv h.row f1;obtain⟨b',q,c2⟩:=Cv h.row f2;cases q;obtain⟨b',q,c3⟩:=Cv h.row f3;cases q;exact⟨b,0,rfl,ca,cc,la,lc,B,zs,by rw[Nat.zero_add];exact c1,by rw[Nat.zero_add];exact c2,by rw[Nat.zero_add];exact c3,r1,Or.inl (h1 i hi),l1,l2⟩
structure CS (w:E) (P B:X) (wd:Int) (v1 v2:Z) (ts:L By) (rs:L T3) (k:X):Prop where
 blk:w.heap[P]?=M (O #[I wd,v1,v2] 35 (0,0))
 s:w.ownsRow B 9 1 v1 ts.length (ts.map Value.string)
 t:∃xs cv lv,w.ownsRow B 73 3 v2 k xs∧Eu w B rs k xs cv lv
theorem CS.cell(h:CS w P B wd v1 v2 ts rs k):w.cell? ⟨P,0,N⟩=M (I wd)∧w.cell? ⟨P,1,N⟩=M v1∧w.cell? ⟨P,2,N⟩=M v2:=Bb h.blk
theorem CS.bl(h:CS w P B wd v1 v2 ts rs k)(hb:Bw w w'):CS w' P B wd v1 v2 ts rs k:=by
 obtain⟨zs,cv,lv,h3,h4⟩:=h.t;exact⟨Af h.blk hb,Ad h.s hb,zs,cv,lv,Ad h3 hb,h4.bl hb⟩
theorem CS.zero(rs:L T3)(h:w.heap[P]?=M (O #[I wd,v1,nS] 35 (0,0)))(hs:w.ownsRow B 9 1 v1 ts.length (ts.map Value.string)):CS w P B wd v1 nS ts rs 0:=
 ⟨h,hs,[],λ_=>nS,λ_=>nS,World.ownsRow_nil _ _ _ _,Eu.zero _ _ _ _⟩
theorem CS.put{W0:E}{nv c d:Z}{ys zs us:L Z}{cv lv:X→Z}(h:CS W0 P B wd v1 v2 ts rs k)(hb:Bw W0 W)(hB:B≤W0.heap.size)(hy:W0.ownsRow B 73 3 v2 k ys)(hp:Eu W0 B rs k ys cv lv)(hc:W.ownsRow W0.heap.size 174 3 c (qx rs k).code.length zs)(hz:Cs (qx rs k).code (qx rs k).code.length zs)(hd:W.ownsRow W0.heap.size 115 3 d (qx rs k).looks.length us)(hu:Bx (qx rs k).looks (qx rs k).looks.length us)(hds:∃g cap,d=J (p_ g) (qx rs k).looks.length cap)(hg:W.grownBy w' v2.ownBlock)(hn:w'.ownsRow B 73 3 nv (k+1) (ys++[c,d,S (qx rs k).out])):CS (w'.setCell ⟨P,2,N⟩ nv) P B wd v1 nv ts rs (k+1):=by
 have hW:=h.bl hb;have hyW:=Ad hy hb
 have hbk:w'.heap[P]?=M (O #[I wd,v1,v2] 35 (0,0)):=by
  rw[hg.block P (Fp hW.blk) (λe=>Dl.ne (T:=35) ⟨_,hW.blk⟩ hyW qh e.symm)];exact hW.blk
 have ht:Dl w' P 35:=⟨_,hbk⟩;have hl:=hy.1
 have hpa:=hp.add (w2:=w') (xs2:=ys++[c,d,S (qx rs k).out]) (λb _ Io=>by
  by_cases e:v2.ownBlock=M b
  ·exact Or.inr ⟨k,ys,B,v2,hy,e⟩
  ·left
   rw[hg.block b (zo hb.size) (λe'=>e e'.symm),hb.block b Io]) hB (Fj hc hyW qh hg) hz (Fj hd hyW qh hg) hu hds
  (λj hj=>List.getElem?_append_left qg) (by rw[List.getElem?_append_right qg,hl,Nat.sub_self];rfl) (by rw[List.getElem?_append_right qg,hl,show k*3+1-k*3=1 from qg];rfl) (by rw[List.getElem?_append_right qg,hl,show k*3+2-k*3=2 from qg];rfl)
 exact⟨by rw[jB hbk];rfl,Ak (Fj hW.s hyW qh hg) ht qh _,_,_,_,Ak hn ht qh _,hpa.setT ht qh qh _⟩
theorem CS.own{hi:X}(h:CS w P B wd v1 v2 ts rs rs.length)(hl:lo≤B)(hh:w.heap.size≤hi):Ds w lo hi v1 ts∧Hr w lo hi v2 rs:=by
 obtain⟨zs,cv,lv,h3,h4⟩:=h.t;exact⟨⟨Ah h.s hl,λb e=>by have:=(h.s.lt b e).2;omega⟩,h4.own (Ah h3 hl) hl hh⟩

theorem Yd{s x:Operand}{o:Oper}{K:Act→E→Prop}(uj:o.guard=N)(ho:o.op=.call { callee:=.builtin .append,args:=#[s,x],argTypes:=#[33,33] })(B:X)(v:Z)(nn:X)(xs:L Z)(hs:a.eval s=v)(ah:W.ownsRow B 73 3 v nn xs)(d:X)(c l:Z)(u:By)(V5:c.oneCell'=true)(uu:l.oneCell'=true)(hx:a.eval x=J (p_ d) 1 1)(hc:W.heap[d]?=M (O #[c,l,S u] 73 (0,0)))(hB:B≤W.heap.size)(hn:nn≤1048576)(h:∀g' aj w',w'.ownsRow B 73 3 (J (p_ g') (nn+1) aj) (nn+1) (xs++[c,l,S u])→W.grownBy w' v.ownBlock→K (a.put o.dst (J (p_ g') (nn+1) aj)) w'):if Region.wanted o (yielded ops a.tmps)=true then Oper.wp prog o a W K Q else AF:=by
 obtain⟨i0,hi,bq,bi,ci⟩:=info_parts Tryz.info66b
 refine step_append_lies (w:=W) uj s x 33 ho B 73 i0 (G #[nS,nS,ze]) 3 64 underlying33 hi bq bi ci rfl qh _ nn xs hs ah ⟨d,0,N⟩ 1 1 [c,l,S u] hx rfl
  (World.news_of_block (cs:=#[c,l,S u]) (t:=73) (fr:=(0,0)) hc) (by intro u' hu;simp at hu;rcases hu with rfl|rfl|rfl<;>first|rfl|exact V5|exact uu) qg qq qg hB W.heap.size rfl ?_
 exact qdx



theorem Ke(wd:Int)(b off tc:X)(ra:Option Addr)(rc:X)(ts:L By)(rs:L T3)(w:E)(st:Cu w (M ⟨b,off,N⟩) ts)(rp:Rc w ra rs)(ht:ts.length≤1048576)(hr:rs.length≤1048576)(hk:∀i,i<rs.length→(qx rs i).code.length≤1048576∧(qx rs i).looks.length≤1048576):Calls prog 23 #[G #[I wd,J (M ⟨b,off,N⟩) ts.length tc,J ra rs.length rc]] w λe w'=>Bw w w'∧∃g1 p1 v2,e=H (G #[I wd,J (p_ g1) ts.length p1,v2])∧Ds w' w.heap.size w'.heap.size (J (p_ g1) ts.length p1) ts∧Hr w' w.heap.size w'.heap.size v2 rs:=by
 obtain⟨W,eW⟩:=Aj ((w.alloc (O #[I wd,J (M ⟨b,off,N⟩) ts.length tc,J ra rs.length rc] 35)).alloc (O #[I 0,nS,nS] 35));have ak:Bw w W:=by rw[←eW];exact(aN _ _).alloc qi _
 have jn:W.heap[w.heap.size]?=M (O #[I wd,J (M ⟨b,off,N⟩) ts.length tc,J ra rs.length rc] 35 (0,0)):=qcc;have cu:W.heap[w.heap.size+1]?=M (O #[I 0,nS,nS] 35 (0,0)):=qcd;have I0:w.heap.size+1+1≤W.heap.size:=qbn;obtain⟨c0,c1,c2⟩:=Bb jn;have tz:=Ab jn;have fb:=Ab cu;have I5:=Ab rp;have HKK:=Ab hk;have iz:Bw W W.drew:=(Below.refl _ _).drew;obtain⟨i0,hi,bq,bi,ci⟩:=info_parts Tryz.info9b;have HN:Hd (∀W':E,Bw W W'→∀j u,(ts.map Value.string)[j]?=M u→W'.cell? ((⟨b,off,N⟩:Addr).add j)=M u):=λW' hW=>Px (st.bl (bt ak hW));have HL:Hd ((ts.map Value.string).length=ts.length*1):=by show _=_;simp
 have HO:=Ab (Nx ts);have jo:Bw W (W.drew.alloc (O #[] 9)):=iz.alloc qi _;have gy:Bw W ((W.drew.alloc (O #[] 9)).alloc (O #[I 0,nS,nS] 35)):=(iz.alloc qi _).alloc qi _;have cq:Bw W ((W.drew.alloc (O #[I 0,nS,nS] 35)).alloc (O #[] 9)):=(iz.alloc qi _).alloc qi _;have LC:Hd ((W.drew.alloc (O #[] 9)).ownsRow W.heap.size 9 1 (J (p_ W.heap.size) 0 0) 0 []):=Ip W.drew W.heap.size 9 1 qi;have LB:Hd (((W.drew.alloc (O #[] 9)).alloc (O #[I 0,nS,nS] 35)).ownsRow W.heap.size 9 1 (J (p_ W.heap.size) 0 0) 0 []):=(Ip W.drew W.heap.size 9 1 qi).alloc _
 have LA:Hd (((W.drew.alloc (O #[I 0,nS,nS] 35)).alloc (O #[] 9)).ownsRow W.heap.size 9 1 (J (p_ (W.heap.size+1)) 0 0) 0 []):=by
  have h:=Ip (W.drew.alloc (O #[I 0,nS,nS] 35)) W.heap.size 9 1 qi;rw[show(W.drew.alloc (O #[I 0,nS,nS] 35)).heap.size=W.heap.size+1 from qi]at h;exact h
 have ZA:Hd (((W.drew.alloc (O #[I 0,nS,nS] 35)).alloc (O #[] 9)).heap[W.heap.size]?=M (O #[I 0,nS,nS] 35 (0,0))):=by show _=_;rw[Lib.alloc_old _ _ _ qi];exact Cr W.drew _
 have ZB:Hd (((W.drew.alloc (O #[] 9)).alloc (O #[I 0,nS,nS] 35)).heap[W.heap.size+1]?=M (O #[I 0,nS,nS] 35 (0,0))):=by
  have h:=Cr (W.drew.alloc (O #[] 9)) (O #[I 0,nS,nS] 35);rw[show(W.drew.alloc (O #[] 9)).heap.size=W.heap.size+1 from qi]at h;exact h
 clear st rp hk jn cu;go_enter func23,ntmps23;go_wp2_with fail;clear eW
 go_cut [3] (λp wx=>∃(P g1 p1:X),p=.pointer (p_ P)∧Hd (wx.heap[P]?=M (O #[I wd,J (p_ g1) ts.length p1,nS] 35 (0,0)))∧Hd (wx.ownsRow W.heap.size 9 1 (J (p_ g1) ts.length p1) ts.length (ts.map Value.string))∧W.heap.size≤P∧Bw W wx)
 case first=>
  go_region_held3 (λw'=>w'.cell? ⟨w.heap.size,0,N⟩=M (I wd)∧w'.cell? ⟨w.heap.size,1,N⟩=M (J (M ⟨b,off,N⟩) ts.length tc))
   (first|(with_reducible exact⟨t0,t1⟩)|(with_reducible exact⟨Du t0,Du t1⟩)|(refine⟨?_,?_⟩<;>(rw[World.cell?_setCell_far _ _ _ _ qj,World.cell?_setCell_far _ _ _ _ qj,World.cell?_setCell_far _ _ _ _ qj];assumption))|exact⟨c0,c1⟩|exact⟨Du (w:=W.drew) c0,Du (w:=W.drew) c1⟩|exact⟨Du (Du (w:=W.drew) c0),Du (Du (w:=W.drew) c1)⟩)
   (first
     | (refine Ga (w:=W.drew.alloc (O #[] 9)) rfl (.tmp 7) (.tmp 9) 22 rfl W.heap.size 9 i0 ze 1 16 underlying22 hi bq bi ci rfl qh W.heap.size 0 0 [] qt LC.o ⟨b,off,N⟩ ts.length tc (ts.map Value.string) qt HL.o (HN.o _ jo) HO.o qq qg qcg ?_;intro g1 p1 x ky mj;have bg:Bw W x:=Below.grown jo mj qcg (λk hk=>qdd);have lj:Hd (x.ownsRow W.heap.size 9 1 (J (p_ g1) ts.length p1) ts.length (ts.map Value.string)):=qct;have t0:=Aa bg c0;have t1:=Aa bg c1;rw[Nat.zero_add])
     | (refine Ga (w:=(W.drew.alloc (O #[] 9)).alloc (O #[I 0,nS,nS] 35)) rfl (.tmp 7) (.tmp 9) 22 rfl W.heap.size 9 i0 ze 1 16 underlying22 hi bq bi ci rfl qh W.heap.size 0 0 [] qt LB.o ⟨b,off,N⟩ ts.length tc (ts.map Value.string) qt HL.o (HN.o _ gy) HO.o qq qg qcg ?_;intro g1 p1 x ky mj;have bg:Bw W x:=Below.grown gy mj qcg (λk hk=>qdd);have lj:Hd (x.ownsRow W.heap.size 9 1 (J (p_ g1) ts.length p1) ts.length (ts.map Value.string)):=qct;have t0:=Aa bg c0;have t1:=Aa bg c1;have z2:=(show x.heap[W.heap.size+1]?=_ from (mj.block _ (Fp ZB.o) (λe=>by simp at e)).trans ZB.o);obtain⟨k0,k1,k2⟩:=Bb z2;have kf:=(λj=>fH z2 j);rw[Nat.zero_add])
     | (refine Ga (w:=(W.drew.alloc (O #[I 0,nS,nS] 35)).alloc (O #[] 9)) rfl (.tmp 7) (.tmp 9) 22 rfl W.heap.size 9 i0 ze 1 16 underlying22 hi bq bi ci rfl qh (W.heap.size+1) 0 0 [] qt LA.o ⟨b,off,N⟩ ts.length tc (ts.map Value.string) qt HL.o (HN.o _ cq) HO.o qq qg qcg ?_;intro g1 p1 x ky mj;have bg:Bw W x:=Below.grown cq mj qcg (λk hk=>qdd);have lj:Hd (x.ownsRow W.heap.size 9 1 (J (p_ g1) ts.length p1) ts.length (ts.map Value.string)):=qct;have t0:=Aa bg c0;have t1:=Aa bg c1;have z2:=(show x.heap[W.heap.size]?=_ from (mj.block _ (Fp ZA.o) (λe=>by simp at e)).trans ZA.o);obtain⟨k0,k1,k2⟩:=Bb z2;have kf:=(λj=>fH z2 j);rw[Nat.zero_add]))
  all_goals
   go_wp2_with fail;go_meet
   first
    | exact⟨W.heap.size,g1,p1,rfl,Ru z2 _ _ _,Ak (Ak (Ak lj.o ⟨_,z2⟩ qh _) (Dl.set ⟨_,z2⟩ _) qh _) (Dl.set (Dl.set ⟨_,z2⟩ _) _) qh _,Nat.le_refl _,((bg.setCell (p:=⟨W.heap.size,0,N⟩) (Nat.le_refl _) _).setCell (p:=⟨W.heap.size,1,N⟩) (Nat.le_refl _) _).setCell (p:=⟨W.heap.size,2,N⟩) (Nat.le_refl _) _⟩
    | exact⟨W.heap.size+1,g1,p1,rfl,Ru z2 _ _ _,Ak (Ak (Ak lj.o ⟨_,z2⟩ qh _) (Dl.set ⟨_,z2⟩ _) qh _) (Dl.set (Dl.set ⟨_,z2⟩ _) _) qh _,Nat.le_succ _,((bg.setCell (p:=⟨W.heap.size+1,0,N⟩) (Nat.le_succ _) _).setCell (p:=⟨W.heap.size+1,1,N⟩) (Nat.le_succ _) _).setCell (p:=⟨W.heap.size+1,2,N⟩) (Nat.le_succ _) _⟩
    | exact⟨x.heap.size,g1,p1,rfl,Cr _ _,lj.o.alloc _,bg.size,bg.alloc bg.size _⟩
 case rest=>
  obtain⟨P,g1,p1,rfl,HP,lj,pe,M7⟩:=hcut;have HC0:=Ab (CS.zero rs HP.o lj.o);have HBX:=Ab M7;clear HP lj c0 c1 c2 iz M7 HN LA LB LC ZA ZB cq gy jo;go_wp2
  go_loopw [4] (λi wr=>∃(k:X)(v2:Z),k≤rs.length∧i=I k∧Hd (CS wr P W.heap.size wd (J (p_ g1) ts.length p1) v2 ts rs k)∧Bw W wr) (λi _=>rs.length-(intOf i).toNat)
  case atStart=>exact⟨0,_,Nat.zero_le _,rfl,HC0.o,HBX.o⟩
  case round=>
   obtain⟨k,v2,hk,rfl,HW,bc⟩:=hrel;have hw:=bt ak bc;obtain⟨_,_,e2⟩:=Bb (Af tz.o bc);clear HC0
   by_cases ai:k<rs.length
   ·obtain⟨rb,ro,rfl,ca,cc,la,lc,B2,us2,I4,A2,c3',r1,cu,r2,r3⟩:=I5.o k ai
    obtain⟨ib,gu⟩:=HKK.o k ai;have fs:(k:Int)<(rs.length:Int):=qg;have H9:rb<w.heap.size:=World.block_lt_of_cell? _ _ I4;replace I4:=Aa hw I4;replace A2:=Aa hw A2;replace c3':=Aa hw c3';have r1':=r1.bl hw;have r2':=Ad r2 hw;obtain⟨AM,eX⟩:=Aj wr;subst eX;have X1:=Ab HW.o;have dP:=X1.o.cell.2.2;have hXW:=bc.size;have hPq:=Fp HW.o.blk;obtain⟨ys0,cv0,lv0,H0,_⟩:=HW.o.t;(have HVR:Hd (M rb≠v2.ownBlock):=λe=>by have:=(H0.lt rb e.symm).1;omega);(have HVA:Hd (M w.heap.size≠v2.ownBlock):=λe=>by have:=(H0.lt _ e.symm).1;omega);have HVP:Hd (M P≠v2.ownBlock):=λe=>Dl.ne (T:=35) ⟨_,HW.o.blk⟩ H0 qh e.symm;have f9:=bc;have vh:Hd (∀W':E,Bw wr W'→Calls prog 25 #[G #[J ca (qx rs k).code.length cc,J la (qx rs k).looks.length lc,S (qx rs k).out]] W' λe w'=>Bw W' w'∧Rz W'.heap.size w' e (qx rs k).code (qx rs k).looks (qx rs k).out):=λW' hW'=>Qp ca cc _ (qx rs k).code (qx rs k).looks us2 (qx rs k).out W' (r1'.bl hW') (Ad r2' hW') r3 cu ib gu;clear H0 HW bc r1 r2 r3 r1' r2' hw;obtain⟨ys,cv,lv,rm,ut⟩:=X1.o.t;have um:=Ab rm;have HPT:=Ab ut;have Y1:Hd (∀(AK AE:E)(nv c d:Z)(zs us:L Z),Bw wr AK→AK.ownsRow wr.heap.size 174 3 c (qx rs k).code.length zs→Cs (qx rs k).code (qx rs k).code.length zs→AK.ownsRow wr.heap.size 115 3 d (qx rs k).looks.length us→Bx (qx rs k).looks (qx rs k).looks.length us→(∃g cap,d=J (p_ g) (qx rs k).looks.length cap)→AK.grownBy AE v2.ownBlock→AE.ownsRow W.heap.size 73 3 nv (k+1) (ys++[c,d,S (qx rs k).out])→CS (AE.setCell ⟨P,2,N⟩ nv) P W.heap.size wd (J (p_ g1) ts.length p1) nv ts rs (k+1)):=λAK AE nv c d zs us j1 j2 j3 j4 j5 j6 j7 j8=>CS.put X1.o j1 hXW um.o HPT.o j2 j3 j4 j5 j6 j7 j8;clear rm ut;generalize qx rs k=s at *;go_wp2_with fail;refine Lt.begin 11 (λw'=>w'.cell? ⟨P,2,N⟩=M v2∧w'.cell? ⟨w.heap.size,2,N⟩=M (J (M ⟨rb,ro,N⟩) rs.length rc)∧w'.cell? ⟨rb,ro+k*3,N⟩=M (J ca s.code.length cc)∧w'.cell? ⟨rb,ro+k*3+1,N⟩=M (J la s.looks.length lc)∧w'.cell? ⟨rb,ro+k*3+2,N⟩=M (S s.out)) qk ?_;have gz:wr.drew.cell? ⟨P,2,N⟩=M v2∧wr.drew.cell? ⟨w.heap.size,2,N⟩=M (J (M ⟨rb,ro,N⟩) rs.length rc)∧wr.drew.cell? ⟨rb,ro+k*3,N⟩=M (J ca s.code.length cc)∧wr.drew.cell? ⟨rb,ro+k*3+1,N⟩=M (J la s.looks.length lc)∧wr.drew.cell? ⟨rb,ro+k*3+2,N⟩=M (S s.out):=⟨dP,e2,I4,A2,c3'⟩;change K 0 _
    iterate 7
     refine Lt.ti (v:=?_) gz ?_ ?_;rotate_left 1
     ·exact qar
     simp only[gX]
    refine Lt.sp (i:=7) (λK hK=>?_);go_simp;refine(vh.o _ ((Below.refl _ _).drew)).mono ?_;rintro e w6 ⟨bj,gc,cpc,gd,cpd,rfl,hoc,hod⟩;have bo:Bw wr w6:=(Below.drew (Below.refl _ _)).trans (bj.mono qi);have HOC:Hd (w6.ownsRow wr.heap.size 174 3 (J (p_ gc) s.code.length cpc) s.code.length (Fd s.code)):=Ah hoc qi;have HOD:Hd (w6.ownsRow wr.heap.size 115 3 (J (p_ gd) s.looks.length cpd) s.looks.length (Lf s.looks)):=Ah hod qi;refine hK.out _ _ (λ_=>⟨Aa bo dP,Aa bo e2,Aa bo I4,Aa bo A2,Aa bo c3'⟩) (λmu=>?_);replace mu:=mu qh;clear hK K gz bj hoc hod;refine Lt.sp (i:=8) (λK hK=>?_);go_simp;refine hK.out _ _ (λ_=>⟨Du mu.1,Du mu.2.1,Du mu.2.2.1,Du mu.2.2.2.1,Du mu.2.2.2.2⟩) (λlx=>?_);replace lx:=lx qh;clear hK K mu;refine Lt.sp (i:=9) (λK hK=>?_);refine Yd rfl qt W.heap.size v2 _ ys qt ((Ad um.o bo).alloc _) w6.heap.size (J (p_ gc) s.code.length cpc) (J (p_ gd) s.looks.length cpd) s.out rfl rfl qt (Cr _ _) (by have:=bo.size;simp;omega) qg ?_;intro g' aj w7 d9 ae;have hsz6:=bo.size;(have x0:w7.cell? ⟨P,2,N⟩=M v2:=by rw[ae.cell_far ⟨P,2,N⟩ qj HVP.o];exact lx.1);(have x1:w7.cell? ⟨w.heap.size,2,N⟩=M (J (M ⟨rb,ro,N⟩) rs.length rc):=by rw[ae.cell_far ⟨w.heap.size,2,N⟩ qj HVA.o];exact lx.2.1);(have x2:w7.cell? ⟨rb,ro+k*3,N⟩=M (J ca s.code.length cc):=by rw[ae.cell_far ⟨rb,ro+k*3,N⟩ qj HVR.o];exact lx.2.2.1);(have x3:w7.cell? ⟨rb,ro+k*3+1,N⟩=M (J la s.looks.length lc):=by rw[ae.cell_far ⟨rb,ro+k*3+1,N⟩ qj HVR.o];exact lx.2.2.2.1);(have x4:w7.cell? ⟨rb,ro+k*3+2,N⟩=M (S s.out):=by rw[ae.cell_far ⟨rb,ro+k*3+2,N⟩ qj HVR.o];exact lx.2.2.2.2);have HNP:Hd (CS (w7.setCell ⟨P,2,N⟩ (J (p_ g') (k+1) aj)) P W.heap.size wd (J (p_ g1) ts.length p1) (J (p_ g') (k+1) aj) ts rs (k+1)):=Y1.o _ w7 _ _ _ _ _ (bo.alloc qg _) (HOC.o.alloc _) (Iz _) (HOD.o.alloc _) (Nm _) ⟨_,_,rfl⟩ ae d9;have hbP7:Bw W w7:=((f9.trans (bo.mono qg)).alloc qg _).grown ae qj (λm hm=>by have:=(um.o.lt m hm).1;omega);(have fz:w7.frozen? ⟨P,2,N⟩=false:=by rw[ae.frozen_far ⟨P,2,N⟩ qj HVP.o];exact fH (by rw[Lib.alloc_old _ _ _ qg];exact(X1.o.bl bo).blk) 2);refine hK.out _ _ (λ_=>⟨x0,x1,x2,x3,x4⟩) (λF5=>?_);replace F5:=F5 qh;clear hK K lx ae d9;simp only[gX];refine Lt.ti (i:=10) (v:=?_) F5 ?_ ?_;rotate_left 1
    ·exact qar
    simp only[gX];refine Lt.sp (i:=11) (λK hK=>?_);exact qjn
   ·have ek:k=rs.length:=qg
    subst ek;have kbr:=Af fb.o bc;obtain⟨r0,r1,r2⟩:=Bb kbr;have fr:=fZ kbr;obtain⟨d0,d1,d2⟩:=HW.o.cell;obtain⟨o1,o2⟩:=HW.o.own (lo:=W.heap.size) (hi:=wr.heap.size) (Nat.le_refl _) (Nat.le_refl _);have lj:=Ab o1;have xr:=Ab o2;obtain⟨a2,p2,rfl,_⟩:=o2.sl;clear kbr bc o1 o2 HW;go_wp2;refine bR (v:=G #[I wd,J (p_ g1) ts.length p1,J a2 rs.length p2]) (by simp[results,results23,go_sem,r0,r1,r2]) rfl ⟨((hw.setCell (p:=⟨w.heap.size+1,0,N⟩) qi _).setCell (p:=⟨w.heap.size+1,1,N⟩) qi _).setCell (p:=⟨w.heap.size+1,2,N⟩) qi _,_,_,_,rfl,?_,?_⟩
    ·exact qmz
    ·exact qmy
end Go.Proofs.YtnflkpmmfpfhlaaGreatDoor
