import Derived.Test.YtoihflimijabjaaGreatDoorBsA
import Derived.Test.YtoihflimijabjaaGreatDoorEdF
namespace Go.Proofs.YtoihflimijabjaaGreatDoor
open _root_.Go.Proofs.Tryz Go.RowKit Go.Deep
open Value renaming slice->J,string->S,bool->F,agg->G,tuple->Y
open Option renaming some->M,none->N
open Obj renaming cells->O
open Go renaming Value->Z,World->E
open Ending renaming returned->H
open _root_ renaming List->L,Nat->X
set_option linter.unusedVariables false
set_option maxHeartbeats 8000000
set_option maxRecDepth 100000
set_option linter.unusedSimpArgs false
variable {B n R m g1 rn p2 r:X} {w0 w':E} {a2:Option Addr} {ts T':L By} {x:By}
theorem Pq(n:X)(ta ra:Option Addr)(tc rn rc:X)(ts:L By)(t:By)(w:E)(h1:1<=n)(h8:n<=8)(hc:Cs w ta ts)(hl:ts.length<=1048576)(hs:∀i,i<ts.length->(nx ts i).size<=2002):Calls prog 40 #[G #[I n,J ta ts.length tc,J ra rn rc],S t] w λe w'=>Bw w w'/\∃k:X,e=H (I k)/\k<=ts.length/\(∀j,j<k->Aw (Ap n (nx ts j)) t=true)/\(k<ts.length->Aw (Ap n (nx ts k)) t=false):=by
 have ba:Bw w (w.alloc (O #[I n,J ta ts.length tc,J ra rn rc] 26)):=aN _ _;have x0:(w.alloc (O #[I n,J ta ts.length tc,J ra rn rc] 26)).cell? ⟨w.heap.size,0,N⟩=M (I n):=qr;have x1:(w.alloc (O #[I n,J ta ts.length tc,J ra rn rc] 26)).cell? ⟨w.heap.size,1,N⟩=M (J ta ts.length tc):=qr;have HC:Hd (Cs w ta ts):=hc;have HS:Hd (∀i,i<ts.length->(nx ts i).size<=2002):=hs;clear hc hs;go_enter func40,ntmps40;go_wp2_with fail
 go_loopw [5] (λv wr=>∃k:X,k<=ts.length/\v=I k/\Hd (∀j,j<k->Aw (Ap n (nx ts j)) t=true)/\wr.cell? ⟨w.heap.size,0,N⟩=M (I n)/\wr.cell? ⟨w.heap.size,1,N⟩=M (J ta ts.length tc)/\Bw w wr) (λv _=>ts.length-(intOf v).toNat)
 case atStart=>exact⟨0,Nat.zero_le _,rfl,(λj hj=>by omega:∀j,j<0->Aw (Ap n (nx ts j)) t=true),x0,x1,ba⟩
 case round=>
  obtain⟨k,hk,rfl,HK,y0,y1,bu⟩:=hrel;clear x0 x1 ba;have ce:Bw wr wr.drew:=(Below.refl _ _).drew
  by_cases au:k<ts.length
  ·obtain⟨b,off,rfl,c1⟩:=(HC.o.bl bu) k au
   replace c1:wr.cell? ⟨b,off+k,N⟩=M (S (nx ts k)):=c1;have jb:=HS.o k au;have gi:(k:Int)<(ts.length:Int):=qg;have fe:(0:Int)<=(k:Int):=qg;have e1:decide ((k:Int)<(ts.length:Int))=true:=qj;obtain⟨v,hv⟩:=Aj (Aw (Ap n (nx ts k)) t);have HV:Hd (Aw (Ap n (nx ts k)) t=v):=hv;have iq:Hd (Aw (Ap n (nx ts k)) t=true->∀j,j<k+1->Aw (Ap n (nx ts j)) t=true):=λh=>Ds HK.o h;generalize nx ts k=x at c1 jb hv;have I8:x.size<=1048576:=qg;obtain⟨q,eq⟩:=Aj (Ap n x);rw[eq]at hv;have mx:Hd (∀W:E,Calls prog 18 #[S x,I n] W λe w'=>e=H (S q)/\Bw W w'):=λW=>qfo;clear eq;unfold Aw at hv;cases v
   ·have HO:Hd (k<ts.length->Aw (Ap n (nx ts k)) t=false):=λ_=>HV.o
    go_wp2_with fail
    go_region_held3 (λw'=>(w'.cell? ⟨w.heap.size,0,N⟩=M (I n)/\w'.cell? ⟨w.heap.size,1,N⟩=M (J (M ⟨b,off,N⟩) ts.length tc))/\w'.cell? ⟨b,off+k,N⟩=M (S x))
     (first|assumption|(simp[*];done)|exact⟨⟨Aa a9 qu,Aa a9 qu⟩,Aa a9 qu⟩)
     (first|(go_at_call 18;refine(mx.o _).mono ?_;rintro e w2 ⟨rfl,a9⟩))
    all_goals
     go_wp2_with fail;go_ret;exact⟨bt bu (bt ce a9),k,rfl,hk,HK.o,HO.o⟩
   ·have HO:Hd (∀j,j<k+1->Aw (Ap n (nx ts j)) t=true):=iq.o HV.o
    go_wp2_with fail
    go_region_held3 (λw'=>(w'.cell? ⟨w.heap.size,0,N⟩=M (I n)/\w'.cell? ⟨w.heap.size,1,N⟩=M (J (M ⟨b,off,N⟩) ts.length tc))/\w'.cell? ⟨b,off+k,N⟩=M (S x))
     (first|assumption|(simp[*];done)|exact⟨⟨Aa a9 qu,Aa a9 qu⟩,Aa a9 qu⟩)
     (first|(go_at_call 18;refine(mx.o _).mono ?_;rintro e w2 ⟨rfl,a9⟩))
    all_goals
     have z0:=Aa a9 (Aa ce y0);have z1:=Aa a9 (Aa ce y1);go_wp2_with fail;go_roundw
     case rel=>exact⟨k+1,qg,qp,HO.o,z0,z1,bt bu (bt ce a9)⟩
     case measure=>simp[intOf];omega
  ·have e1:decide (k<ts.length)=false:=qj
   have HN:Hd (¬ k<ts.length):=au;clear au;go_wp2_with fail
   go_quiet (fail)
   go_wp2;go_ret;exact⟨below_drewN bu _,k,rfl,hk,HK.o,λh=>absurd h HN.o⟩
theorem Tu(n:X)(ta ra:Option Addr)(tc rn rc:X)(ts:L By)(t:By)(w:E)(h1:1<=n)(h8:n<=8)(hc:Cs w ta ts)(hl:ts.length<=1048576)(hs:∀i,i<ts.length->(nx ts i).size<=2002)(l8:Fg (ts.map (Ap n))):Calls prog 53 #[G #[I n,J ta ts.length tc,J ra rn rc],S t] w λe w'=>Bw w w'/\∃A ok,e=H (Y #[S A,F ok])/\Dt n ts t A ok:=by
 have ba:Bw w (w.alloc (O #[I n,J ta ts.length tc,J ra rn rc] 26)):=aN _ _;have x0:(w.alloc (O #[I n,J ta ts.length tc,J ra rn rc] 26)).cell? ⟨w.heap.size,0,N⟩=M (I n):=qr;have x1:(w.alloc (O #[I n,J ta ts.length tc,J ra rn rc] 26)).cell? ⟨w.heap.size,1,N⟩=M (J ta ts.length tc):=qr;have HC:Hd (Cs w ta ts):=hc;have HS:Hd (∀i,i<ts.length->(nx ts i).size<=2002):=hs;have HA:Hd (Fg (ts.map (Ap n))):=l8;clear hc hs l8;go_enter func53,ntmps53;go_wp2_with fail;refine(Pq n ta ra tc rn rc ts t _ h1 h8 (HC.o.bl ba) hl HS.o).mono ?_;rintro e wr ⟨ah,k,rfl,hk,p1,p2⟩;have bu:=bt ba ah;have y0:=Aa ah x0;have y1:=Aa ah x1;have yb:Hd (∀j,j<k->Aw (Ap n (nx ts j)) t=true):=p1;have lm:Hd (k<ts.length->Aw (Ap n (nx ts k)) t=false):=p2;clear x0 x1 ba ah p1 p2;have ce:Bw wr wr.drew:=(Below.refl _ _).drew
 by_cases au:k<ts.length
 ·obtain⟨b,off,rfl,c1⟩:=(HC.o.bl bu) k au
  replace c1:wr.cell? ⟨b,off+k,N⟩=M (S (nx ts k)):=c1;have jb:=HS.o k au;have gi:(k:Int)<(ts.length:Int):=qg;have fe:(0:Int)<=(k:Int):=qg;have e1:decide ((k:Int)<(ts.length:Int))=true:=qj;have rh:Hd (Ap n (nx ts k)=t->Dt n ts t (nx ts k) true):=λh=>Or.inl ⟨rfl,k,au,h,rfl⟩;have md:Hd (¬ Ap n (nx ts k)=t->Dt n ts t ⟨#[]⟩ false):=λh=>Or.inr ⟨rfl,rfl,λhh=>h (Tp HA.o yb.o lm.o hk hh).2⟩;generalize nx ts k=x at *;have I8:x.size<=1048576:=qg;obtain⟨q,eq⟩:=Aj (Ap n x);rw[eq]at rh md;have mx:Hd (∀W:E,Calls prog 18 #[S x,I n] W λe w'=>e=H (S q)/\Bw W w'):=λW=>qfo;clear eq yb lm
  by_cases hq:q=t
  ·have dq:=Eu hq
   have HO:Hd (Dt n ts t x true):=rh.o hq;clear hq rh md;go_wp2_with fail
   go_region_held3 (λw'=>(w'.cell? ⟨w.heap.size,0,N⟩=M (I n)/\w'.cell? ⟨w.heap.size,1,N⟩=M (J (M ⟨b,off,N⟩) ts.length tc))/\w'.cell? ⟨b,off+k,N⟩=M (S x))
    (first|assumption|(simp[*];done)|exact⟨⟨Aa a9 qu,Aa a9 qu⟩,Aa a9 qu⟩)
    (first|(go_at_call 18;refine(mx.o _).mono ?_;rintro e w2 ⟨rfl,a9⟩))
   all_goals
    have z1:=Aa a9 (Aa ce y1);have d1:=Aa a9 (Aa ce c1);go_wp2_with fail
    go_ret2
    exact⟨bt bu (bt ce a9),x,true,rfl,HO.o⟩
  ·have dq:=Fx hq
   have HO:Hd (Dt n ts t ⟨#[]⟩ false):=md.o hq;clear hq rh md;go_wp2_with fail
   go_region_held3 (λw'=>(w'.cell? ⟨w.heap.size,0,N⟩=M (I n)/\w'.cell? ⟨w.heap.size,1,N⟩=M (J (M ⟨b,off,N⟩) ts.length tc))/\w'.cell? ⟨b,off+k,N⟩=M (S x))
    (first|assumption|(simp[*];done)|exact⟨⟨Aa a9 qu,Aa a9 qu⟩,Aa a9 qu⟩)
    (first|(go_at_call 18;refine(mx.o _).mono ?_;rintro e w2 ⟨rfl,a9⟩))
   all_goals
    go_wp2_with fail
    go_ret2
    exact⟨bt bu (bt ce a9),⟨#[]⟩,false,rfl,HO.o⟩
 ·have e1:decide (k<ts.length)=false:=qj
  have HO:Hd (Dt n ts t ⟨#[]⟩ false):=Or.inr ⟨rfl,rfl,λhh=>au (Tp HA.o yb.o lm.o hk hh).1⟩;clear au;go_wp2_with fail
  go_quiet (fail)
  go_wp2
  go_ret2
  exact⟨below_drewN bu _,⟨#[]⟩,false,rfl,HO.o⟩
theorem Wl(s:By)(w:E)(hs:s.size<=1048576)(h:¬ rrB s):Calls prog 101 #[S s] w λe w'=>e=H (resV 0 ⟨#[]⟩ false)/\Bw w w':=by
 rcases parts_no h with h|⟨h,k⟩
 ·go_enter func101,ntmps101
  go_wp2;exact bR (v:=resV 0 ⟨#[]⟩ false) qfe rfl ⟨rfl,aN _ _⟩
 ·have K4:(s[1].toNat:Int)=58\/((s[1].toNat:Int) != 58)=true:=by by_cases e:(s[1].toNat:Int)=58;exact .inl e;exact .inr (by simpa using e)
  rcases K4 with K4|K4
  all_goals
   go_enter func101,ntmps101;go_wp2
  all_goals first
   | exact bR (v:=resV 0 ⟨#[]⟩ false) qfe rfl ⟨rfl,aN _ _⟩
   | (exfalso;omega)
theorem Us(s:By)(w:E)(h:rrB s)(h0:0<s.size):Calls prog 101 #[S s] w λe w'=>e=H (resV ((s[0].toNat:Int)-48) (s.extract 2 s.size) true)/\Bw w w':=by
 obtain⟨h,h2,h3,h4,h5⟩:=h;go_enter func101,ntmps101;go_wp2;go_region;go_wp2;exact bR (v:=resV ((s[0].toNat:Int)-48) (s.extract 2 s.size) true) qfe rfl ⟨rfl,(aN _ _).drew⟩
theorem Ut(A:By)(w:E)(hs:A.size<=2002):Calls prog 101 #[S A] w λe w'=>Bw w w'/\((rrB A/\e=H (Y #[G #[I (rdC A),S (rdT A),nS],F true]))\/(¬ rrB A/\e=H (Y #[G #[I 0,ze,nS],F false]))):=by
 by_cases h:rrB A
 ·refine(Us A w h (Zh h)).mono ?_
  rintro e w' ⟨rfl,hb⟩;rw[rdC_eq (Zh h)];exact⟨hb,Or.inl ⟨h,rfl⟩⟩
 ·refine(Wl A w qg h).mono ?_
  rintro e w' ⟨rfl,hb⟩;exact⟨hb,Or.inr ⟨h,rfl⟩⟩
theorem Gk(w:E)(B e sz:X)(hB:B≤w.heap.size):(w.alloc (O #[] e)).ownsRow B e sz (J (p_ w.heap.size) 0 0) 0 []:=World.ownsRow_lit (base:=B) (e:=e) (size:=sz) w #[] 0 hB qn qi
theorem Dj{w:E}{ops:Array Oper}{o:Oper}{a:Act}{K:Act→E→Prop}{Q:Exit→Act→E→Prop}{AG:Prop}(mg:o.guard=N)(s x:Operand)(t:TypeId)(ho:o.op=.call { callee:=.builtin .append,args:=#[s,x],argTypes:=#[t,t] })(base:X)(e:TypeId)(i:TypeInfo)(z:Z)(size bytes:X)(ht:prog.underlying t=M (.slice e))(hi:prog.info? e=M i)(hz:i.zero=M z)(hsize:i.size=size)(hby:i.bytes=bytes)(hzs:z.cells.size=size)(iz:0<size)(d dl dc:X)(xs:L Z)(hs:a.eval s=J (p_ d) dl dc)(ak:w.ownsRow base e size (J (p_ d) dl dc) dl xs)(ad:Addr)(m c:X)(news:L Z)(hx:a.eval x=J (M ad) m c)(hl:news.length=m*size)(A0:∀j u,news[j]?=M u→w.cell? (ad.add j)=M u)(h1:∀u∈news,u.oneCell'=true)(h63:dl+m≤maxLen)(hbytes:(dl+m)*bytes≤140737488355328)(hbase:base≤w.heap.size)(h:∀g cap w',w'.ownsRow base e size (J (p_ g) (dl+m) cap) (dl+m) (xs++news)→w.grownBy w' (M d)→K (a.put o.dst (J (p_ g) (dl+m) cap)) w'):if Region.wanted o (yielded ops a.tmps)=true then Oper.wp prog o a w K Q else AG:=by
 have hw:Region.wanted o (yielded ops a.tmps)=true:=by simp[Region.wanted,mg]
 rw[if_pos hw];refine wp_append_own w s x t ho base e i z size bytes ht hi hz hsize hby hzs iz _ dl xs hs ak ad m c news hx hl A0 h1 h63 hbytes hbase λv' w' h2 h3 h4=>?_;obtain⟨g,cap,rfl⟩:=Jv h2 (λe=>by have:=(h4.1 e).1;cases this);exact h g cap w' h2 h3
theorem Ts(ts:L By)(k:X):∀u∈(ts.map Value.string).take k,u.oneCell'=true:=λu hu=>Gg ts u (List.mem_of_mem_take hu)
theorem Tt(ts:L By)(k:X):∀u∈(ts.map Value.string).drop k,u.oneCell'=true:=λu hu=>Gg ts u (List.mem_of_mem_drop hu)
def KpS(lo:X)(w0:E)(e:Ending)(w':E)(m g1:X)(a2:Option Addr)(rn p2:X)(ts:L By)(x:By):Prop:=
 ∃r cd T' A B,Oe m ts (Ap m x) r∧Hc m ts x r cd T' A B∧((cd≠0∧e=H (G #[I cd,I 0,nS,nS,S A,S B]))∨(cd=0∧A=⟨#[]⟩∧B=⟨#[]⟩∧∃g p,e=H (G #[I 0,I (m:Int),J (p_ g) T'.length p,J a2 rn p2,ze,ze])∧w'.ownsRow lo 9 1 (J (p_ g) T'.length p) T'.length (T'.map Value.string)∧(g=g1∨w0.heap.size≤g)))
theorem own_set6{w:E}{v:Z}{xs:L Z}(h:w.ownsRow B 9 1 v n xs)(ht:Ai w R 31)(u1 u2 u3 u4 u5 u6:Z):((((((w.setCell ⟨R,0,N⟩ u1).setCell ⟨R,1,N⟩ u2).setCell ⟨R,2,N⟩ u3).setCell ⟨R,3,N⟩ u4).setCell ⟨R,4,N⟩ u5).setCell ⟨R,5,N⟩ u6).ownsRow B 9 1 v n xs:=
 Ak (Ak (Ak (Ak (Ak (Ak h ht qh _) (ht.set _) qh _) ((ht.set _).set _) qh _) (((ht.set _).set _).set _) qh _) ((((ht.set _).set _).set _).set _) qh _) (((((ht.set _).set _).set _).set _).set _) qh _
theorem KpS.no{lo:X}{A B:By}{cd:Int}(h1:Oe m ts (Ap m x) r)(h2:Hc m ts x r cd T' A B)(h3:cd≠0):KpS lo w0 (H (G #[I cd,I 0,nS,nS,S A,S B])) w' m g1 a2 rn p2 ts x:=⟨r,cd,T',A,B,h1,h2,Or.inl ⟨h3,rfl⟩⟩
theorem KpS.yes{lo:X}{g p:X}{l:X}(h1:Oe m ts (Ap m x) r)(h2:Hc m ts x r 0 T' ⟨#[]⟩ ⟨#[]⟩)(hl:l=T'.length)(h3:w'.ownsRow lo 9 1 (J (p_ g) l p) l (T'.map Value.string))(h4:g=g1∨w0.heap.size≤g)(ht:Ai w' R 31)(u1 u2 u3 u4 u5 u6:Z):KpS lo w0 (H (G #[I 0,I (m:Int),J (p_ g) l p,J a2 rn p2,ze,ze])) ((((((w'.setCell ⟨R,0,N⟩ u1).setCell ⟨R,1,N⟩ u2).setCell ⟨R,2,N⟩ u3).setCell ⟨R,3,N⟩ u4).setCell ⟨R,4,N⟩ u5).setCell ⟨R,5,N⟩ u6) m g1 a2 rn p2 ts x:=by
 subst hl;exact⟨r,0,T',_,_,h1,h2,Or.inr ⟨rfl,rfl,rfl,g,p,rfl,own_set6 h3 ht _ _ _ _ _ _,h4⟩⟩
theorem Gx{w:E}{a:Option Addr}{c:X}(h:w.ownsRow B 9 1 (J a n c) ts.length (ts.map Value.string)):Cs w a ts:=by
 intro i hi
 obtain⟨b,e,k⟩:∃b,a=p_ b∧w.cell? ⟨b,i,N⟩=M (S (ts.getD i ByteArray.empty)):=by
  have hl:n=ts.length:=by
   rcases h.2 with⟨e,h0⟩|⟨g,c,cur,e,_⟩
   ·cases e;exact h0.symm
   ·cases e;rfl
  subst hl;exact Bi h (by rw[List.getElem?_map,gQ hi,gG,gQ hi];rfl)
 exact⟨b,0,e,by rw[Nat.zero_add];exact k⟩
theorem l4Put_b(m lo g1 p1:X)(a2:Option Addr)(rn p2:X)(ts:L By)(x:By)(w:E)(hX:w.ownsRow lo 9 1 (J (p_ g1) ts.length p1) ts.length (ts.map Value.string))(ji:lo≤w.heap.size)(U2:1≤m)(hm8:m≤8)(cm:Yd m ts)(hx:x.size≤2002):Calls prog 22 #[G #[I (m:Int),J (p_ g1) ts.length p1,J a2 rn p2],S x] w λe w'=>Bw w w'∧KpS lo w e w' m g1 a2 rn p2 ts x:=by
 obtain⟨i0,hi,bm,bg,bi⟩:=info_parts Tryz.info9b;obtain⟨W,eW⟩:=Aj ((w.alloc (O #[I (m:Int),J (p_ g1) ts.length p1,J a2 rn p2] 26)).alloc (O #[I 0,I 0,nS,nS,ze,ze] 31));have ba:Bw w W:=by rw[←eW];exact(aN _ _).alloc qi _
 have fe:W.heap[w.heap.size]?=M (O #[I (m:Int),J (p_ g1) ts.length p1,J a2 rn p2] 26 (0,0)):=qap;have fh:W.heap[w.heap.size+1]?=M (O #[I 0,I 0,nS,nS,ze,ze] 31 (0,0)):=qaq;have sy:w.heap.size+1+1≤W.heap.size:=qai;obtain⟨c0,c1,c2⟩:=Ab fe;have xh:Hd (W.heap[w.heap.size]?=M (O #[I (m:Int),J (p_ g1) ts.length p1,J a2 rn p2] 26 (0,0))):=fe;have iq:Hd (W.heap[w.heap.size+1]?=M (O #[I 0,I 0,nS,nS,ze,ze] 31 (0,0))):=fh;have HX:Hd (w.ownsRow lo 9 1 (J (p_ g1) ts.length p1) ts.length (ts.map Value.string)):=hX
 have K5:ts.length≤p1∧p1≤maxLen:=by
  rcases hX.2 with⟨h,_⟩|⟨g',c',cur,hv,_,_,h1,h2,_⟩
  ·cases h
  ·cases hv;exact⟨h1,h2⟩
 obtain⟨hcp1,K3⟩:=K5;unfold maxLen at K3
 have gu:Hd (∀W':E,Bw w W'→Cs W' (p_ g1) ts):=λW' hW=>by
  exact Gx (Ae hX hW)
 have hl5:ts.length≤5000:=cm.1;have pc:Hd (∀i,i<ts.length→(nx ts i).size≤2002):=cm.2.1;have I8:x.size≤1048576:=qg;obtain⟨sm,esm⟩:=Aj (Ap m x);have ESM:Hd (Ap m x=sm):=esm;have mx:Hd (∀W':E,Calls prog 18 #[S x,I (m:Int)] W' λe w'=>e=H (S sm)∧Bw W' w'):=λW'=>by rw[←esm];exact Cl x m W' I8 U2 hm8
 have HPLC:Hd (∀W':E,Bw w W'→Calls prog 40 #[G #[I (m:Int),J (p_ g1) ts.length p1,J a2 rn p2],S sm] W' λe w'=>Bw W' w'∧∃k:X,e=H (I k)∧Oe m ts sm k):=λW' hW=>(Pq m _ a2 p1 _ p2 ts sm W' U2 hm8 (gu.o W' hW) qg pc.o).mono λe w' ⟨j1,k,j2,j3,j4,j5⟩=>⟨j1,k,j2,j3,j4,j5⟩;clear hX fe fh cm esm;go_enter func22,ntmps22;go_wp2_with fail;clear eW;refine(mx.o _).mono ?_;rintro e w1 ⟨rfl,ah⟩;have db:=bt ba ah;have d0:=Aa ah c0;have d1:=Aa ah c1;have d2:=Aa ah c2;have kz:Hd (w1.heap[w.heap.size+1]?=M (O #[I 0,I 0,nS,nS,ze,ze] 31 (0,0))):=Ac iq.o ah;have N9:Hd (w1.heap[w.heap.size]?=M (O #[I (m:Int),J (p_ g1) ts.length p1,J a2 rn p2] 26 (0,0))):=Ac xh.o ah;have D9:W.heap.size≤w1.heap.size:=ah.size;clear c0 c1 c2 ah xh iq ba;go_wp2_with fail;refine(HPLC.o _ db).mono ?_;rintro e w2 ⟨a9,k,rfl,dy⟩;have bp:=bt db a9;have L7:Hd (w2.heap[w.heap.size+1]?=M (O #[I 0,I 0,nS,nS,ze,ze] 31 (0,0))):=Ac kz.o a9;have HA2:Hd (w2.heap[w.heap.size]?=M (O #[I (m:Int),J (p_ g1) ts.length p1,J a2 rn p2] 26 (0,0))):=Ac N9.o a9;have hW2:W.heap.size≤w2.heap.size:=Nat.le_trans D9 a9.size;have pe:Hd (Oe m ts sm k):=dy;have pq:=dy.le;clear d0 d1 d2 a9 kz N9 db dy HPLC;obtain⟨c0,c1,c2⟩:=Ab HA2.o;have ce:Bw w2 w2.drew:=(Below.refl _ _).drew;go_wp2_with fail
 go_cut [31] (λc wx=>∃t:Bool,c=F t∧Hd (t=true↔Eh m ts x k)∧Bw w2 wx)
 case first=>
  by_cases au:k<ts.length
  ·have k1:w2.cell? ⟨g1,k,N⟩=M (S (nx ts k)):=by
    obtain⟨b',bq,ea,c⟩:=(gu.o w2 bp) k au;cases ea;rw[Nat.zero_add]at c;exact c
   have jb:=pc.o k au;have gi:(k:Int)<(ts.length:Int):=qg;have fe:(0:Int)≤(k:Int):=qg;have e1:decide ((k:Int)<(ts.length:Int))=true:=qj;have rh:Hd (Ap m (nx ts k)=sm→Eh m ts x k):=λh=>⟨au,by rw[h,ESM.o]⟩;have md:Hd (¬ Ap m (nx ts k)=sm→¬ Eh m ts x k):=λh h'=>h (by rw[h'.2,ESM.o]);generalize nx ts k=z at *;have hz0':z.size≤1048576:=qg;obtain⟨q,eq⟩:=Aj (Ap m z);rw[eq]at rh md;(have HSZ2:Hd (∀W:E,Calls prog 18 #[S z,I (m:Int)] W λe w'=>e=H (S q)∧Bw W w'):=λW=>by rw[←eq];exact Cl z m W hz0' U2 hm8);clear eq
   by_cases hq:q=sm
   ·have dq:=Eu hq
    have HO:Hd (Eh m ts x k):=rh.o hq;clear hq rh md
    go_region_held3 (λw'=>(w'.cell? ⟨w.heap.size,0,N⟩=M (I (m:Int))∧w'.cell? ⟨w.heap.size,1,N⟩=M (J (p_ g1) ts.length p1))∧w'.cell? ⟨g1,k,N⟩=M (S z))
     (first|exact⟨⟨c0,c1⟩,k1⟩|(with_reducible exact⟨⟨s0,s1⟩,s2⟩)|assumption)
     (first|(go_at_call 18;refine(HSZ2.o _).mono ?_;rintro e w3 ⟨rfl,bh⟩;have fm:=bt ce bh;have s0:=Aa fm c0;have s1:=Aa fm c1;have s2:=Aa fm k1))
    all_goals
     go_wp2_with fail;go_meet;exact⟨true,rfl,Lx HO.o,fm⟩
   ·have dq:=Fx hq
    have HO:Hd (¬ Eh m ts x k):=md.o hq;clear hq rh md
    go_region_held3 (λw'=>(w'.cell? ⟨w.heap.size,0,N⟩=M (I (m:Int))∧w'.cell? ⟨w.heap.size,1,N⟩=M (J (p_ g1) ts.length p1))∧w'.cell? ⟨g1,k,N⟩=M (S z))
     (first|exact⟨⟨c0,c1⟩,k1⟩|(with_reducible exact⟨⟨s0,s1⟩,s2⟩)|assumption)
     (first|(go_at_call 18;refine(HSZ2.o _).mono ?_;rintro e w3 ⟨rfl,bh⟩;have fm:=bt ce bh;have s0:=Aa fm c0;have s1:=Aa fm c1;have s2:=Aa fm k1))
    all_goals
     go_wp2_with fail;go_meet;exact⟨false,rfl,Fh HO.o,fm⟩
  ·have e1:decide (k<ts.length)=false:=qj
   have HO:Hd (¬ Eh m ts x k):=λh=>au h.1;clear au
   go_quiet (fail)
   go_wp2_with fail;go_meet;exact⟨false,rfl,Fh HO.o,below_drewN (Below.refl _ _) _⟩
 case rest=>
  obtain⟨t,rfl,ju,ks⟩:=hcut;have E5:=bt bp ks;have fj:Hd (wc.heap[w.heap.size+1]?=M (O #[I 0,I 0,nS,nS,ze,ze] 31 (0,0))):=Ac L7.o ks;have HAX:Hd (wc.heap[w.heap.size]?=M (O #[I (m:Int),J (p_ g1) ts.length p1,J a2 rn p2] 26 (0,0))):=Ac HA2.o ks;have hWx:W.heap.size≤wc.heap.size:=Nat.le_trans hW2 ks.size;clear c0 c1 c2 ce L7 HA2 ks;rw[←ESM.o]at pe;cases t
  ·have HNTH:Hd (¬ Eh m ts x k):=λh=>by have:=ju.o.2 h;cases this
   by_cases h5:5000≤ts.length
   ·have HK:Hd (Hc m ts x k 3 ts ⟨#[]⟩ ⟨#[]⟩):=Or.inr (Or.inr (Or.inl ⟨HNTH.o,h5,rfl,rfl,rfl,rfl⟩))
    have d5:decide ((5000:Int)≤(ts.length:Int))=true:=qj;obtain⟨r0,r1,r2,r3,r4,r5⟩:=Bx fj.o;have rf:=(λj=>fH fj.o j);obtain⟨c0,c1,c2⟩:=Ab HAX.o;clear ju;go_wp2;refine bR (v:=G #[I 3,I 0,nS,nS,ze,ze]) qde rfl ⟨Dh E5 (Nat.le_succ _) _ _ _ _ _ _,KpS.no pe.o HK.o qh⟩
   ·have HK:Hd (Hc m ts x k 0 (Fp ts x k) ⟨#[]⟩ ⟨#[]⟩):=Or.inr (Or.inr (Or.inr ⟨HNTH.o,h5,rfl,rfl,rfl,rfl⟩))
    have d5:decide ((5000:Int)≤(ts.length:Int))=false:=qj;obtain⟨c0,c1,c2⟩:=Ab HAX.o;have rm:Hd ((wc.alloc (O #[] 9)).ownsRow wc.heap.size 9 1 (J (p_ wc.heap.size) 0 0) 0 []):=Gk wc wc.heap.size 9 1 (Nat.le_refl _)
    have M3:Hd (∀j u,((ts.map Value.string).take k)[j]?=M u→(wc.alloc (O #[] 9)).cell? ((⟨g1,0,N⟩:Addr).add j)=M u):=λj u hu=>by
     rw[List.getElem?_take]at hu
     split at hu
     ·exact Gh (gu.o _ (E5.alloc E5.size _)) j u hu
     ·cases hu
    have hk1c:(k:Int)≤(p1:Int):=qg;have c1l:(wc.alloc (O #[] 9)).cell? ⟨w.heap.size,1,N⟩=M (J (p_ g1) ts.length p1):=Bn c1;clear ju HNTH mx
    by_cases tr:p1=k
    ·subst tr
     obtain rfl:p1=ts.length:=qg
     go_wp2_with (first|(at_builtin;refine wpList_append_own _ rfl (.tmp 53) (.tmp 57) 23 rfl wc.heap.size 9 i0 ze 1 16 underlying23 hi bm bg bi rfl qh _ 0 [] rfl rm.o ⟨g1,0,N⟩ ts.length ts.length ((ts.map Value.string).take ts.length) rfl (by rw[List.length_take,List.length_map];omega) M3.o (Ts ts ts.length) qn qg qi ?_;intro v' w3 af ae bn;obtain⟨g3,p3,rfl⟩:=Jv af (λe=>by have:=(bn.1 e).1;cases this);rw[Nat.zero_add,List.nil_append]at af;rw[Nat.zero_add];have sq:Hd (w3.ownsRow wc.heap.size 9 1 (J (p_ g3) ts.length p3) ts.length ((ts.map Value.string).take ts.length)):=af;have fm:Bw wc w3:=(aN _ _).grown ae qi (λj hj=>(rm.o.lt j hj).1);clear ae bn af))
     have s1:=Aa fm c1;have O2:wc.heap.size≤w3.heap.size:=fm.size;have HV4:Hd ((w3.drew.alloc (O #[S x] 9)).heap[w3.heap.size]?=M (O #[S x] 9 (0,0))):=Am w3.drew _;have i7:Bw wc (w3.drew.alloc (O #[S x] 9)):=fm.drew.alloc (by simpa using O2) _;have yd:Hd ((w3.drew.alloc (O #[S x] 9)).ownsRow wc.heap.size 9 1 (J (p_ g3) ts.length p3) ts.length ((ts.map Value.string).take ts.length)):=(Cc (w':=w3.drew) sq.o (λ_ _=>rfl)).alloc _;have t1:=Aa i7 c1;have HN4:Hd (∀W':E,Bw wc W'→∀j u,((ts.map Value.string).drop ts.length)[j]?=M u→W'.cell? ((⟨g1,0,N⟩:Addr).add j)=M u):=λW' hW j u hu=>by rw[List.drop_of_length_le (by rw[List.length_map];omega)]at hu;simp at hu
     go_region_held3 (λw'=>w'.cell? ⟨w.heap.size,1,N⟩=M (J (p_ g1) ts.length ts.length))
      (first|(with_reducible exact v1)|(with_reducible exact u1)|(with_reducible exact t1)|exact s1|exact t1)
      (first
      | (refine Dj (w:=w3.drew.alloc (O #[S x] 9)) rfl (.tmp 59) (.tmp 61) 23 rfl wc.heap.size 9 i0 ze 1 16 underlying23 hi bm bg bi rfl qh g3 ts.length p3 _ qo yd.o ⟨w3.heap.size,0,N⟩ 1 1 [S x] qo rfl (World.news_of_block (cs:=#[S x]) (t:=9) (fr:=(0,0)) HV4.o) qao qn qg i7.size ?_;intro g4 p4 w5 ho5 fu;have mj:Bw wc w5:=i7.grown fu i7.size (λj hj=>by have hj2:g3=j:=qck;rw[←hj2];exact(yd.o.lt g3 rfl).1);have v1:=Aa mj c1;have hs5:wc.heap.size≤w5.heap.size:=mj.size;have HO5:Hd (w5.ownsRow wc.heap.size 9 1 (J (p_ g4) (ts.length+1) p4) (ts.length+1) ((ts.map Value.string).take ts.length++[S x])):=ho5;have C0:Hd (∀j u,((ts.map Value.string).drop ts.length)[j]?=M u→w5.cell? ((⟨g1,0,N⟩:Addr).add j)=M u):=HN4.o w5 mj)
      | (refine Dj (w:=w5) rfl (.tmp 62) (.tmp 66) 23 rfl wc.heap.size 9 i0 ze 1 16 underlying23 hi bm bg bi rfl qh g4 (ts.length+1) p4 _ qo HO5.o ⟨g1,0,N⟩ 0 0 ((ts.map Value.string).drop ts.length) qo (by rw[List.length_drop,List.length_map];omega) (C0.o) (Tt ts ts.length) qn qg hs5 ?_;intro g6 p6 w6 ho6 hgx6;have wm:Bw wc w6:=mj.grown hgx6 hs5 (λj hj=>by have hj2:g4=j:=qck;rw[←hj2];exact(HO5.o.lt g4 rfl).1);have u1:=Aa wm c1;have HO6:Hd (w6.ownsRow wc.heap.size 9 1 (J (p_ g6) (ts.length+1) p6) (ts.length+1) ((Fp ts x ts.length).map Value.string)):=(by rw[show ts.length+1+0=ts.length+1 from qg]at ho6;rw[Np];exact ho6);rw[show ts.length+1+0=ts.length+1 from qg])
      )
     all_goals
      have HR6:=Ad (Ac fj.o wm);have HA6:=Ac HAX.o wm;obtain⟨r0,r1,r2,r3,r4,r5⟩:=Bx HR6.o;have rf:=(λj=>fH HR6.o j);obtain⟨c0,c1,c2⟩:=Ab HA6;have qf:=(λj=>fH HA6 j);have HTA:Hd (Ai w6 w.heap.size 26):=⟨_,HA6⟩;have HX6:Hd (w6.ownsRow lo 9 1 (J (p_ g6) (ts.length+1) p6) (ts.length+1) ((Fp ts x ts.length).map Value.string)):=Al HO6.o (zo E5.size);exact qhu
    ·have hkp':¬ (p1=k):=tr
     go_wp2_with (first|(at_builtin;refine wpList_append_own _ rfl (.tmp 53) (.tmp 57) 23 rfl wc.heap.size 9 i0 ze 1 16 underlying23 hi bm bg bi rfl qh _ 0 [] rfl rm.o ⟨g1,0,N⟩ k p1 ((ts.map Value.string).take k) rfl (by rw[List.length_take,List.length_map];omega) M3.o (Ts ts k) qn qg qi ?_;intro v' w3 af ae bn;obtain⟨g3,p3,rfl⟩:=Jv af (λe=>by have:=(bn.1 e).1;cases this);rw[Nat.zero_add,List.nil_append]at af;rw[Nat.zero_add];have sq:Hd (w3.ownsRow wc.heap.size 9 1 (J (p_ g3) k p3) k ((ts.map Value.string).take k)):=af;have fm:Bw wc w3:=(aN _ _).grown ae qi (λj hj=>(rm.o.lt j hj).1);clear ae bn af))
     have s1:=Aa fm c1;have O2:wc.heap.size≤w3.heap.size:=fm.size;have HV4:Hd ((w3.drew.alloc (O #[S x] 9)).heap[w3.heap.size]?=M (O #[S x] 9 (0,0))):=Am w3.drew _;have i7:Bw wc (w3.drew.alloc (O #[S x] 9)):=fm.drew.alloc (by simpa using O2) _;have yd:Hd ((w3.drew.alloc (O #[S x] 9)).ownsRow wc.heap.size 9 1 (J (p_ g3) k p3) k ((ts.map Value.string).take k)):=(Cc (w':=w3.drew) sq.o (λ_ _=>rfl)).alloc _;have t1:=Aa i7 c1
     have HN4:Hd (∀W':E,Bw wc W'→∀j u,((ts.map Value.string).drop k)[j]?=M u→W'.cell? ((⟨g1,k,N⟩:Addr).add j)=M u):=λW' hW j u hu=>by
      rw[List.getElem?_drop]at hu;have h:=Gh (gu.o _ (bt E5 hW)) (k+j) u hu;rw[Addr.add_lit]at h ⊢;rw[Nat.zero_add]at h;exact h
     go_region_held3 (λw'=>w'.cell? ⟨w.heap.size,1,N⟩=M (J (p_ g1) ts.length p1))
      (first|(with_reducible exact v1)|(with_reducible exact u1)|(with_reducible exact t1)|exact s1|exact t1)
      (first
      | (refine Dj (w:=w3.drew.alloc (O #[S x] 9)) rfl (.tmp 59) (.tmp 61) 23 rfl wc.heap.size 9 i0 ze 1 16 underlying23 hi bm bg bi rfl qh g3 k p3 _ qo yd.o ⟨w3.heap.size,0,N⟩ 1 1 [S x] qo rfl (World.news_of_block (cs:=#[S x]) (t:=9) (fr:=(0,0)) HV4.o) qao qn qg i7.size ?_;intro g4 p4 w5 ho5 fu;have mj:Bw wc w5:=i7.grown fu i7.size (λj hj=>by have hj2:g3=j:=qck;rw[←hj2];exact(yd.o.lt g3 rfl).1);have v1:=Aa mj c1;have hs5:wc.heap.size≤w5.heap.size:=mj.size;have HO5:Hd (w5.ownsRow wc.heap.size 9 1 (J (p_ g4) (k+1) p4) (k+1) ((ts.map Value.string).take k++[S x])):=ho5;have C0:Hd (∀j u,((ts.map Value.string).drop k)[j]?=M u→w5.cell? ((⟨g1,k,N⟩:Addr).add j)=M u):=HN4.o w5 mj)
      | (refine Dj (w:=w5) rfl (.tmp 62) (.tmp 66) 23 rfl wc.heap.size 9 i0 ze 1 16 underlying23 hi bm bg bi rfl qh g4 (k+1) p4 _ qo HO5.o ⟨g1,k,N⟩ (ts.length-k) (p1-k) ((ts.map Value.string).drop k) qo (by rw[List.length_drop,List.length_map];omega) (C0.o) (Tt ts k) qn qg hs5 ?_;intro g6 p6 w6 ho6 hgx6;have wm:Bw wc w6:=mj.grown hgx6 hs5 (λj hj=>by have hj2:g4=j:=qck;rw[←hj2];exact(HO5.o.lt g4 rfl).1);have u1:=Aa wm c1;have HO6:Hd (w6.ownsRow wc.heap.size 9 1 (J (p_ g6) (ts.length+1) p6) (ts.length+1) ((Fp ts x k).map Value.string)):=(by rw[show k+1+(ts.length-k)=ts.length+1 from qg]at ho6;rw[Np];exact ho6);rw[show k+1+(ts.length-k)=ts.length+1 from qg])
      )
     all_goals
      have HR6:=Ad (Ac fj.o wm);have HA6:=Ac HAX.o wm;obtain⟨r0,r1,r2,r3,r4,r5⟩:=Bx HR6.o;have rf:=(λj=>fH HR6.o j);obtain⟨c0,c1,c2⟩:=Ab HA6;have qf:=(λj=>fH HA6 j);have HTA:Hd (Ai w6 w.heap.size 26):=⟨_,HA6⟩;have HX6:Hd (w6.ownsRow lo 9 1 (J (p_ g6) (ts.length+1) p6) (ts.length+1) ((Fp ts x k).map Value.string)):=Al HO6.o (zo E5.size);exact qhu
  ·have W9:=ju.o.1 rfl
   obtain⟨h3,h4⟩:=W9;have W8:Hd (Eh m ts x k):=⟨h3,h4⟩;have gi:(k:Int)<(ts.length:Int):=qg
   have k1:wc.cell? ⟨g1,k,N⟩=M (S (nx ts k)):=by
    obtain⟨b',bq,ea,c⟩:=(gu.o wc E5) k h3;cases ea;rw[Nat.zero_add]at c;exact c
   obtain⟨r0,r1,r2,r3,r4,r5⟩:=Bx fj.o;have rf:=(λj=>fH fj.o j);obtain⟨c0,c1,c2⟩:=Ab HAX.o
   by_cases aq:nx ts k=x
   ·have HK:Hd (Hc m ts x k 0 ts ⟨#[]⟩ ⟨#[]⟩):=Or.inr (Or.inl ⟨W8.o,aq,rfl,rfl,rfl,rfl⟩)
    have jj:=Eu aq;clear ju W8 h4 aq;generalize nx ts k=z at k1 jj;go_wp2;refine bR (v:=G #[I 0,I (m:Int),J (p_ g1) ts.length p1,J a2 rn p2,ze,ze]) qde rfl ⟨Dh E5 (Nat.le_succ _) _ _ _ _ _ _,KpS.yes (R:=w.heap.size+1) pe.o HK.o rfl (Ae HX.o E5) (Or.inl rfl) ⟨_,fj.o⟩ _ _ _ _ _ _⟩
   ·have HK:Hd (Hc m ts x k 2 ts (nx ts k) x):=Or.inl ⟨W8.o,aq,rfl,rfl,rfl,rfl⟩
    have jj:=Fx aq;clear ju W8 h4 aq;generalize nx ts k=z at k1 jj HK;go_wp2;refine bR (v:=G #[I 2,I 0,nS,nS,S z,S x]) qde rfl ⟨Dh E5 (Nat.le_succ _) _ _ _ _ _ _,KpS.no pe.o HK.o qh⟩
end Go.Proofs.YtoihflimijabjaaGreatDoor
