import Derived.Test.YtbkkjodaaijimaaGreatDoorBsR
namespace Go.Proofs.YtbkkjodaaijimaaGreatDoor
open _root_.Go.Proofs.Tryz Go.RowKit Go.Deep
open Value renaming slice->J,string->S,bool->F,agg->G,tuple->Y
open Option renaming some->M,none->N
open Obj renaming cells->O
open Go renaming Value->Z,World->E
open Ending renaming returned->H
open _root_ renaming List->L,Nat->X
set_option linter.unusedVariables false
set_option maxHeartbeats 8000000
set_option maxRecDepth 100000
set_option linter.unusedSimpArgs false
variable {w w0 w':E} {B n R lo m g1 rn p2 r:X} {a2:Option Addr} {ts T':L By} {x:By}
theorem Rb(n:X)(ta ra:Option Addr)(tc rn rc:X)(ts:L By)(t:By)(w:E)(h1:1<=n)(h8:n<=8)(hc:Cc w ta ts)(hl:ts.length<=1048576)(hs:∀i,i<ts.length->(nx ts i).size<=2002):Calls prog 132 #[G #[I n,J ta ts.length tc,J ra rn rc],S t] w λe w'=>Bw w w'/\∃k:X,e=H (I k)/\k<=ts.length/\(∀j,j<k->Ap (Av n (nx ts j)) t=true)/\(k<ts.length->Ap (Av n (nx ts k)) t=false):=by
 have ak:Bw w (w.alloc (O #[I n,J ta ts.length tc,J ra rn rc] 35)):=aN _ _;have x0:(w.alloc (O #[I n,J ta ts.length tc,J ra rn rc] 35)).cell? ⟨w.heap.size,0,N⟩=M (I n):=qk;have x1:(w.alloc (O #[I n,J ta ts.length tc,J ra rn rc] 35)).cell? ⟨w.heap.size,1,N⟩=M (J ta ts.length tc):=qk;have HC:Hd (Cc w ta ts):=hc;have HS:Hd (∀i,i<ts.length->(nx ts i).size<=2002):=hs;clear hc hs;go_enter func132,ntmps132;go_wp2_with fail
 go_loopw [5] (λv wr=>∃k:X,k<=ts.length/\v=I k/\Hd (∀j,j<k->Ap (Av n (nx ts j)) t=true)/\wr.cell? ⟨w.heap.size,0,N⟩=M (I n)/\wr.cell? ⟨w.heap.size,1,N⟩=M (J ta ts.length tc)/\Bw w wr) (λv _=>ts.length-(intOf v).toNat)
 case atStart=>exact⟨0,Nat.zero_le _,rfl,(λj hj=>by omega:∀j,j<0->Ap (Av n (nx ts j)) t=true),x0,x1,ak⟩
 case round=>
  obtain⟨k,hk,rfl,HK,y0,y1,bc⟩:=hrel;clear x0 x1 ak;have bu:Bw wr wr.drew:=(Below.refl _ _).drew
  by_cases aj:k<ts.length
  ·obtain⟨b,off,rfl,c1⟩:=(HC.o.bl bc) k aj
   replace c1:wr.cell? ⟨b,off+k,N⟩=M (S (nx ts k)):=c1;have fx:=HS.o k aj;have io:(k:Int)<(ts.length:Int):=qb;have iy:(0:Int)<=(k:Int):=qb;have e1:decide ((k:Int)<(ts.length:Int))=true:=qh;obtain⟨v,hv⟩:=Aj (Ap (Av n (nx ts k)) t);have HV:Hd (Ap (Av n (nx ts k)) t=v):=hv;have du:Hd (Ap (Av n (nx ts k)) t=true->∀j,j<k+1->Ap (Av n (nx ts j)) t=true):=λh=>Co HK.o h;generalize nx ts k=x at c1 fx hv;have hx0:x.size<=1048576:=qb;obtain⟨q,eq⟩:=Aj (Av n x);rw[eq]at hv;have oq:Hd (∀W:E,Calls prog 58 #[S x,I n] W λe w'=>e=H (S q)/\Bw W w'):=λW=>qgd;clear eq;unfold Ap at hv;cases v
   ·have HO:Hd (k<ts.length->Ap (Av n (nx ts k)) t=false):=λ_=>HV.o
    go_wp2_with fail
    go_region_held3 (λw'=>(w'.cell? ⟨w.heap.size,0,N⟩=M (I n)/\w'.cell? ⟨w.heap.size,1,N⟩=M (J (M ⟨b,off,N⟩) ts.length tc))/\w'.cell? ⟨b,off+k,N⟩=M (S x))
     (first|assumption|(simp[*];done)|exact⟨⟨Aa ag qt,Aa ag qt⟩,Aa ag qt⟩)
     (first|(go_at_call 58;refine(oq.o _).mono ?_;rintro e w2 ⟨rfl,ag⟩))
    all_goals
     go_wp2_with fail;go_ret;exact⟨bt bc (bt bu ag),k,rfl,hk,HK.o,HO.o⟩
   ·have HO:Hd (∀j,j<k+1->Ap (Av n (nx ts j)) t=true):=du.o HV.o
    go_wp2_with fail
    go_region_held3 (λw'=>(w'.cell? ⟨w.heap.size,0,N⟩=M (I n)/\w'.cell? ⟨w.heap.size,1,N⟩=M (J (M ⟨b,off,N⟩) ts.length tc))/\w'.cell? ⟨b,off+k,N⟩=M (S x))
     (first|assumption|(simp[*];done)|exact⟨⟨Aa ag qt,Aa ag qt⟩,Aa ag qt⟩)
     (first|(go_at_call 58;refine(oq.o _).mono ?_;rintro e w2 ⟨rfl,ag⟩))
    all_goals
     have z0:=Aa ag (Aa bu y0);have z1:=Aa ag (Aa bu y1);go_wp2_with fail;go_roundw
     case rel=>exact⟨k+1,qb,qj,HO.o,z0,z1,bt bc (bt bu ag)⟩
     case measure=>simp[intOf];omega
  ·have e1:decide (k<ts.length)=false:=qh
   have HN:Hd (¬ k<ts.length):=aj;clear aj;go_wp2_with fail
   go_quiet (fail)
   go_wp2;go_ret;exact⟨below_drewN bc _,k,rfl,hk,HK.o,λh=>absurd h HN.o⟩
theorem l4Get_any(n:X)(ta ra:Option Addr)(tc rn rc:X)(ts:L By)(t:By)(w:E)(h1:1<=n)(h8:n<=8)(hc:Cc w ta ts)(hl:ts.length<=1048576)(hs:∀i,i<ts.length->(nx ts i).size<=2002)(eg:Fs (ts.map (Av n))):Calls prog 107 #[G #[I n,J ta ts.length tc,J ra rn rc],S t] w λe w'=>Bw w w'/\∃A ok,e=H (Y #[S A,F ok])/\Ff n ts t A ok:=by
 have ak:Bw w (w.alloc (O #[I n,J ta ts.length tc,J ra rn rc] 35)):=aN _ _;have x0:(w.alloc (O #[I n,J ta ts.length tc,J ra rn rc] 35)).cell? ⟨w.heap.size,0,N⟩=M (I n):=qk;have x1:(w.alloc (O #[I n,J ta ts.length tc,J ra rn rc] 35)).cell? ⟨w.heap.size,1,N⟩=M (J ta ts.length tc):=qk;have HC:Hd (Cc w ta ts):=hc;have HS:Hd (∀i,i<ts.length->(nx ts i).size<=2002):=hs;have HA:Hd (Fs (ts.map (Av n))):=eg;clear hc hs eg;go_enter func107,ntmps107;go_wp2_with fail;refine(Rb n ta ra tc rn rc ts t _ h1 h8 (HC.o.bl ak) hl HS.o).mono ?_;rintro e wr ⟨af,k,rfl,hk,p1,p2⟩;have bc:=bt ak af;have y0:=Aa af x0;have y1:=Aa af x1;have jr:Hd (∀j,j<k->Ap (Av n (nx ts j)) t=true):=p1;have pg:Hd (k<ts.length->Ap (Av n (nx ts k)) t=false):=p2;clear x0 x1 ak af p1 p2;have bu:Bw wr wr.drew:=(Below.refl _ _).drew
 by_cases aj:k<ts.length
 ·obtain⟨b,off,rfl,c1⟩:=(HC.o.bl bc) k aj
  replace c1:wr.cell? ⟨b,off+k,N⟩=M (S (nx ts k)):=c1;have fx:=HS.o k aj;have io:(k:Int)<(ts.length:Int):=qb;have iy:(0:Int)<=(k:Int):=qb;have e1:decide ((k:Int)<(ts.length:Int))=true:=qh;have tj:Hd (Av n (nx ts k)=t->Ff n ts t (nx ts k) true):=λh=>Or.inl ⟨rfl,k,aj,h,rfl⟩;have im:Hd (¬ Av n (nx ts k)=t->Ff n ts t ⟨#[]⟩ false):=λh=>Or.inr ⟨rfl,rfl,λhh=>h (Wn HA.o jr.o pg.o hk hh).2⟩;generalize nx ts k=x at *;have hx0:x.size<=1048576:=qb;obtain⟨q,eq⟩:=Aj (Av n x);rw[eq]at tj im;have oq:Hd (∀W:E,Calls prog 58 #[S x,I n] W λe w'=>e=H (S q)/\Bw W w'):=λW=>qgd;clear eq jr pg
  by_cases hq:q=t
  ·have dq:=Dg hq
   have HO:Hd (Ff n ts t x true):=tj.o hq;clear hq tj im;go_wp2_with fail
   go_region_held3 (λw'=>(w'.cell? ⟨w.heap.size,0,N⟩=M (I n)/\w'.cell? ⟨w.heap.size,1,N⟩=M (J (M ⟨b,off,N⟩) ts.length tc))/\w'.cell? ⟨b,off+k,N⟩=M (S x))
    (first|assumption|(simp[*];done)|exact⟨⟨Aa ag qt,Aa ag qt⟩,Aa ag qt⟩)
    (first|(go_at_call 58;refine(oq.o _).mono ?_;rintro e w2 ⟨rfl,ag⟩))
   all_goals
    have z1:=Aa ag (Aa bu y1);have d1:=Aa ag (Aa bu c1);go_wp2_with fail
    go_ret2
    exact⟨bt bc (bt bu ag),x,true,rfl,HO.o⟩
  ·have dq:=Gy hq
   have HO:Hd (Ff n ts t ⟨#[]⟩ false):=im.o hq;clear hq tj im;go_wp2_with fail
   go_region_held3 (λw'=>(w'.cell? ⟨w.heap.size,0,N⟩=M (I n)/\w'.cell? ⟨w.heap.size,1,N⟩=M (J (M ⟨b,off,N⟩) ts.length tc))/\w'.cell? ⟨b,off+k,N⟩=M (S x))
    (first|assumption|(simp[*];done)|exact⟨⟨Aa ag qt,Aa ag qt⟩,Aa ag qt⟩)
    (first|(go_at_call 58;refine(oq.o _).mono ?_;rintro e w2 ⟨rfl,ag⟩))
   all_goals
    go_wp2_with fail
    go_ret2
    exact⟨bt bc (bt bu ag),⟨#[]⟩,false,rfl,HO.o⟩
 ·have e1:decide (k<ts.length)=false:=qh
  have HO:Hd (Ff n ts t ⟨#[]⟩ false):=Or.inr ⟨rfl,rfl,λhh=>aj (Wn HA.o jr.o pg.o hk hh).1⟩;clear aj;go_wp2_with fail
  go_quiet (fail)
  go_wp2
  go_ret2
  exact⟨below_drewN bc _,⟨#[]⟩,false,rfl,HO.o⟩
theorem Qal(s:By)(w:E)(hs:s.size<=1048576)(h:¬ Yh s):Calls prog 108 #[S s] w λe w'=>e=H (Rs 0 ⟨#[]⟩ false)/\Bw w w':=by
 rcases parts_no h with h|⟨h,k⟩
 ·go_enter func108,ntmps108
  go_wp2;exact bR (v:=Rs 0 ⟨#[]⟩ false) qfv rfl ⟨rfl,aN _ _⟩
 ·have sw:(s[1].toNat:Int)=58\/((s[1].toNat:Int) != 58)=true:=by by_cases e:(s[1].toNat:Int)=58;exact .inl e;exact .inr (by simpa using e)
  rcases sw with sw|sw
  all_goals
   go_enter func108,ntmps108;go_wp2
  all_goals first
   | exact bR (v:=Rs 0 ⟨#[]⟩ false) qfv rfl ⟨rfl,aN _ _⟩
   | (exfalso;omega)
theorem Yb(s:By)(w:E)(h:Yh s)(h0:0<s.size):Calls prog 108 #[S s] w λe w'=>e=H (Rs ((s[0].toNat:Int)-48) (s.extract 2 s.size) true)/\Bw w w':=by
 obtain⟨h,h2,h3,h4,h5⟩:=h;go_enter func108,ntmps108;go_wp2;go_region;go_wp2;exact bR (v:=Rs ((s[0].toNat:Int)-48) (s.extract 2 s.size) true) qfv rfl ⟨rfl,(aN _ _).drew⟩
theorem Yc(A:By)(w:E)(hs:A.size<=2002):Calls prog 108 #[S A] w λe w'=>Bw w w'/\((Yh A/\e=H (Y #[G #[I (rdC A),S (rdT A),nS],F true]))\/(¬ Yh A/\e=H (Y #[G #[I 0,ze,nS],F false]))):=by
 by_cases h:Yh A
 ·refine(Yb A w h (Tk h)).mono ?_
  rintro e w' ⟨rfl,hb⟩;rw[rdC_eq (Tk h)];exact⟨hb,Or.inl ⟨h,rfl⟩⟩
 ·refine(Qal A w qb h).mono ?_
  rintro e w' ⟨rfl,hb⟩;exact⟨hb,Or.inr ⟨h,rfl⟩⟩
theorem Ki(w:E)(B e sz:X)(hB:B≤w.heap.size):(w.alloc (O #[] e)).ownsRow B e sz (J (p_ w.heap.size) 0 0) 0 []:=World.ownsRow_lit (base:=B) (e:=e) (size:=sz) w #[] 0 hB qm qg
theorem Du{ops:Array Oper}{o:Oper}{a:Act}{K:Act→E→Prop}{Q:Exit→Act→E→Prop}{AF:Prop}(ri:o.guard=N)(s x:Operand)(t:TypeId)(ho:o.op=.call { callee:=.builtin .append,args:=#[s,x],argTypes:=#[t,t] })(base:X)(e:TypeId)(i:TypeInfo)(z:Z)(size bytes:X)(ht:prog.underlying t=M (.slice e))(hi:prog.info? e=M i)(hz:i.zero=M z)(hsize:i.size=size)(hby:i.bytes=bytes)(hzs:z.cells.size=size)(cz:0<size)(d dl dc:X)(xs:L Z)(hs:a.eval s=J (p_ d) dl dc)(ah:w.ownsRow base e size (J (p_ d) dl dc) dl xs)(ad:Addr)(m c:X)(news:L Z)(hx:a.eval x=J (M ad) m c)(hl:news.length=m*size)(lz:∀j u,news[j]?=M u→w.cell? (ad.add j)=M u)(h1:∀u∈news,u.oneCell'=true)(h63:dl+m≤maxLen)(hbytes:(dl+m)*bytes≤140737488355328)(X2:base≤w.heap.size)(h:∀g cap w',w'.ownsRow base e size (J (p_ g) (dl+m) cap) (dl+m) (xs++news)→w.grownBy w' (M d)→K (a.put o.dst (J (p_ g) (dl+m) cap)) w'):if Region.wanted o (yielded ops a.tmps)=true then Oper.wp prog o a w K Q else AF:=by
 have hw:Region.wanted o (yielded ops a.tmps)=true:=qby
 rw[if_pos hw];refine wp_append_own w s x t ho base e i z size bytes ht hi hz hsize hby hzs cz _ dl xs hs ah ad m c news hx hl lz h1 h63 hbytes X2 λv' w' h2 h3 h4=>?_;obtain⟨g,cap,rfl⟩:=Mz h2 (λe=>by have:=(h4.1 e).1;cases this);exact h g cap w' h2 h3
theorem Wr(ts:L By)(k:X):∀u∈(ts.map Value.string).take k,u.oneCell'=true:=λu hu=>Kf ts u (List.mem_of_mem_take hu)
theorem Ws(ts:L By)(k:X):∀u∈(ts.map Value.string).drop k,u.oneCell'=true:=λu hu=>Kf ts u (List.mem_of_mem_drop hu)
def KpS(lo:X)(w0:E)(e:Ending)(w':E)(m g1:X)(a2:Option Addr)(rn p2:X)(ts:L By)(x:By):Prop:=
 ∃r cd T' A B,Rp m ts (Av m x) r∧Iv m ts x r cd T' A B∧((cd≠0∧e=H (G #[I cd,I 0,nS,nS,S A,S B]))∨(cd=0∧A=⟨#[]⟩∧B=⟨#[]⟩∧∃g p,e=H (G #[I 0,I (m:Int),J (p_ g) T'.length p,J a2 rn p2,ze,ze])∧w'.ownsRow lo 9 1 (J (p_ g) T'.length p) T'.length (T'.map Value.string)∧(g=g1∨w0.heap.size≤g)))
theorem own_set6{v:Z}{xs:L Z}(h:w.ownsRow B 9 1 v n xs)(ht:Cv w R 164)(u1 u2 u3 u4 u5 u6:Z):((((((w.setCell ⟨R,0,N⟩ u1).setCell ⟨R,1,N⟩ u2).setCell ⟨R,2,N⟩ u3).setCell ⟨R,3,N⟩ u4).setCell ⟨R,4,N⟩ u5).setCell ⟨R,5,N⟩ u6).ownsRow B 9 1 v n xs:=
 Ao (Ao (Ao (Ao (Ao (Ao h ht qd _) (ht.set _) qd _) ((ht.set _).set _) qd _) (((ht.set _).set _).set _) qd _) ((((ht.set _).set _).set _).set _) qd _) (((((ht.set _).set _).set _).set _).set _) qd _
theorem KpS.no{A B:By}{cd:Int}(h1:Rp m ts (Av m x) r)(h2:Iv m ts x r cd T' A B)(h3:cd≠0):KpS lo w0 (H (G #[I cd,I 0,nS,nS,S A,S B])) w' m g1 a2 rn p2 ts x:=⟨r,cd,T',A,B,h1,h2,Or.inl ⟨h3,rfl⟩⟩
theorem KpS.yes{g p:X}{l:X}(h1:Rp m ts (Av m x) r)(h2:Iv m ts x r 0 T' ⟨#[]⟩ ⟨#[]⟩)(hl:l=T'.length)(h3:w'.ownsRow lo 9 1 (J (p_ g) l p) l (T'.map Value.string))(h4:g=g1∨w0.heap.size≤g)(ht:Cv w' R 164)(u1 u2 u3 u4 u5 u6:Z):KpS lo w0 (H (G #[I 0,I (m:Int),J (p_ g) l p,J a2 rn p2,ze,ze])) ((((((w'.setCell ⟨R,0,N⟩ u1).setCell ⟨R,1,N⟩ u2).setCell ⟨R,2,N⟩ u3).setCell ⟨R,3,N⟩ u4).setCell ⟨R,4,N⟩ u5).setCell ⟨R,5,N⟩ u6) m g1 a2 rn p2 ts x:=by
 subst hl;exact⟨r,0,T',_,_,h1,h2,Or.inr ⟨rfl,rfl,rfl,g,p,rfl,own_set6 h3 ht _ _ _ _ _ _,h4⟩⟩
theorem Fa{a:Option Addr}{c:X}(h:w.ownsRow B 9 1 (J a n c) ts.length (ts.map Value.string)):Cc w a ts:=by
 intro i hi
 obtain⟨b,e,k⟩:∃b,a=p_ b∧w.cell? ⟨b,i,N⟩=M (S (ts.getD i ByteArray.empty)):=by
  have hl:n=ts.length:=by
   rcases h.2 with⟨e,h0⟩|⟨g,c,cur,e,_⟩
   ·cases e;exact h0.symm
   ·cases e;rfl
  subst hl;exact Cy h (by rw[List.getElem?_map,Ix hi,gG,Ix hi];rfl)
 exact⟨b,0,e,by rw[Nat.zero_add];exact k⟩
theorem l4Put_b(m lo g1 p1:X)(a2:Option Addr)(rn p2:X)(ts:L By)(x:By)(w:E)(hX:w.ownsRow lo 9 1 (J (p_ g1) ts.length p1) ts.length (ts.map Value.string))(sq:lo≤w.heap.size)(up:1≤m)(hm8:m≤8)(ft:Uk m ts)(hx:x.size≤2002):Calls prog 154 #[G #[I (m:Int),J (p_ g1) ts.length p1,J a2 rn p2],S x] w λe w'=>Bw w w'∧KpS lo w e w' m g1 a2 rn p2 ts x:=by
 obtain⟨i0,hi,bq,bg,bv⟩:=info_parts Tryz.info9b;obtain⟨W,eW⟩:=Aj ((w.alloc (O #[I (m:Int),J (p_ g1) ts.length p1,J a2 rn p2] 35)).alloc (O #[I 0,I 0,nS,nS,ze,ze] 164));have ak:Bw w W:=by rw[←eW];exact(aN _ _).alloc qg _
 have iy:W.heap[w.heap.size]?=M (O #[I (m:Int),J (p_ g1) ts.length p1,J a2 rn p2] 35 (0,0)):=qbv;have cq:W.heap[w.heap.size+1]?=M (O #[I 0,I 0,nS,nS,ze,ze] 164 (0,0)):=qbw;have vg:w.heap.size+1+1≤W.heap.size:=qcc;obtain⟨c0,c1,c2⟩:=Bd iy;have pi:Hd (W.heap[w.heap.size]?=M (O #[I (m:Int),J (p_ g1) ts.length p1,J a2 rn p2] 35 (0,0))):=iy;have du:Hd (W.heap[w.heap.size+1]?=M (O #[I 0,I 0,nS,nS,ze,ze] 164 (0,0))):=cq;have HX:Hd (w.ownsRow lo 9 1 (J (p_ g1) ts.length p1) ts.length (ts.map Value.string)):=hX
 have zw:ts.length≤p1∧p1≤maxLen:=by
  rcases hX.2 with⟨h,_⟩|⟨g',c',cur,hv,_,_,h1,h2,_⟩
  ·cases h
  ·cases hv;exact⟨h1,h2⟩
 obtain⟨hcp1,hcp2⟩:=zw;unfold maxLen at hcp2
 have fh:Hd (∀W':E,Bw w W'→Cc W' (p_ g1) ts):=λW' hW=>by
  exact Fa (Ab hX hW)
 have hl5:ts.length≤5000:=ft.1;have HSZ:Hd (∀i,i<ts.length→(nx ts i).size≤2002):=ft.2.1;have hx0:x.size≤1048576:=qb;obtain⟨sm,esm⟩:=Aj (Av m x);have ESM:Hd (Av m x=sm):=esm;have oq:Hd (∀W':E,Calls prog 58 #[S x,I (m:Int)] W' λe w'=>e=H (S sm)∧Bw W' w'):=λW'=>by rw[←esm];exact Fo x m W' hx0 up hm8
 have HPLC:Hd (∀W':E,Bw w W'→Calls prog 132 #[G #[I (m:Int),J (p_ g1) ts.length p1,J a2 rn p2],S sm] W' λe w'=>Bw W' w'∧∃k:X,e=H (I k)∧Rp m ts sm k):=λW' hW=>(Rb m _ a2 p1 _ p2 ts sm W' up hm8 (fh.o W' hW) qb HSZ.o).mono λe w' ⟨j1,k,j2,j3,j4,j5⟩=>⟨j1,k,j2,j3,j4,j5⟩;clear hX iy cq ft esm;go_enter func154,ntmps154;go_wp2_with fail;clear eW;refine(oq.o _).mono ?_;rintro e w1 ⟨rfl,af⟩;have bh:=bt ak af;have d0:=Aa af c0;have d1:=Aa af c1;have d2:=Aa af c2;have ik:Hd (w1.heap[w.heap.size+1]?=M (O #[I 0,I 0,nS,nS,ze,ze] 164 (0,0))):=Af du.o af;have HA1:Hd (w1.heap[w.heap.size]?=M (O #[I (m:Int),J (p_ g1) ts.length p1,J a2 rn p2] 35 (0,0))):=Af pi.o af;have hW1:W.heap.size≤w1.heap.size:=af.size;clear c0 c1 c2 af pi du ak;go_wp2_with fail;refine(HPLC.o _ bh).mono ?_;rintro e w2 ⟨ag,k,rfl,dr⟩;have be:=bt bh ag;have mx:Hd (w2.heap[w.heap.size+1]?=M (O #[I 0,I 0,nS,nS,ze,ze] 164 (0,0))):=Af ik.o ag;have HA2:Hd (w2.heap[w.heap.size]?=M (O #[I (m:Int),J (p_ g1) ts.length p1,J a2 rn p2] 35 (0,0))):=Af HA1.o ag;have hW2:W.heap.size≤w2.heap.size:=Nat.le_trans hW1 ag.size;have xk:Hd (Rp m ts sm k):=dr;have oa:=dr.le;clear d0 d1 d2 ag ik HA1 bh dr HPLC;obtain⟨c0,c1,c2⟩:=Bd HA2.o;have bu:Bw w2 w2.drew:=(Below.refl _ _).drew;go_wp2_with fail
 go_cut [31] (λc wx=>∃t:Bool,c=F t∧Hd (t=true↔Hq m ts x k)∧Bw w2 wx)
 case first=>
  by_cases aj:k<ts.length
  ·have k1:w2.cell? ⟨g1,k,N⟩=M (S (nx ts k)):=by
    obtain⟨b',bp,ea,c⟩:=(fh.o w2 be) k aj;cases ea;rw[Nat.zero_add]at c;exact c
   have fx:=HSZ.o k aj;have io:(k:Int)<(ts.length:Int):=qb;have iy:(0:Int)≤(k:Int):=qb;have e1:decide ((k:Int)<(ts.length:Int))=true:=qh;have tj:Hd (Av m (nx ts k)=sm→Hq m ts x k):=λh=>⟨aj,by rw[h,ESM.o]⟩;have im:Hd (¬ Av m (nx ts k)=sm→¬ Hq m ts x k):=λh h'=>h (by rw[h'.2,ESM.o]);generalize nx ts k=z at *;have hz0':z.size≤1048576:=qb;obtain⟨q,eq⟩:=Aj (Av m z);rw[eq]at tj im;(have HSZ2:Hd (∀W:E,Calls prog 58 #[S z,I (m:Int)] W λe w'=>e=H (S q)∧Bw W w'):=λW=>by rw[←eq];exact Fo z m W hz0' up hm8);clear eq
   by_cases hq:q=sm
   ·have dq:=Dg hq
    have HO:Hd (Hq m ts x k):=tj.o hq;clear hq tj im
    go_region_held3 (λw'=>(w'.cell? ⟨w.heap.size,0,N⟩=M (I (m:Int))∧w'.cell? ⟨w.heap.size,1,N⟩=M (J (p_ g1) ts.length p1))∧w'.cell? ⟨g1,k,N⟩=M (S z))
     (first|exact⟨⟨c0,c1⟩,k1⟩|(with_reducible exact⟨⟨s0,s1⟩,s2⟩)|assumption)
     (first|(go_at_call 58;refine(HSZ2.o _).mono ?_;rintro e w3 ⟨rfl,ba⟩;have ij:=bt bu ba;have s0:=Aa ij c0;have s1:=Aa ij c1;have s2:=Aa ij k1))
    all_goals
     go_wp2_with fail;go_meet;exact⟨true,rfl,Gi HO.o,ij⟩
   ·have dq:=Gy hq
    have HO:Hd (¬ Hq m ts x k):=im.o hq;clear hq tj im
    go_region_held3 (λw'=>(w'.cell? ⟨w.heap.size,0,N⟩=M (I (m:Int))∧w'.cell? ⟨w.heap.size,1,N⟩=M (J (p_ g1) ts.length p1))∧w'.cell? ⟨g1,k,N⟩=M (S z))
     (first|exact⟨⟨c0,c1⟩,k1⟩|(with_reducible exact⟨⟨s0,s1⟩,s2⟩)|assumption)
     (first|(go_at_call 58;refine(HSZ2.o _).mono ?_;rintro e w3 ⟨rfl,ba⟩;have ij:=bt bu ba;have s0:=Aa ij c0;have s1:=Aa ij c1;have s2:=Aa ij k1))
    all_goals
     go_wp2_with fail;go_meet;exact⟨false,rfl,Ea HO.o,ij⟩
  ·have e1:decide (k<ts.length)=false:=qh
   have HO:Hd (¬ Hq m ts x k):=λh=>aj h.1;clear aj
   go_quiet (fail)
   go_wp2_with fail;go_meet;exact⟨false,rfl,Ea HO.o,below_drewN (Below.refl _ _) _⟩
 case rest=>
  obtain⟨t,rfl,N9,wz⟩:=hcut;have N6:=bt be wz;have mu:Hd (wc.heap[w.heap.size+1]?=M (O #[I 0,I 0,nS,nS,ze,ze] 164 (0,0))):=Af mx.o wz;have HAX:Hd (wc.heap[w.heap.size]?=M (O #[I (m:Int),J (p_ g1) ts.length p1,J a2 rn p2] 35 (0,0))):=Af HA2.o wz;have hWx:W.heap.size≤wc.heap.size:=Nat.le_trans hW2 wz.size;clear c0 c1 c2 bu mx HA2 wz;rw[←ESM.o]at xk;cases t
  ·have HNTH:Hd (¬ Hq m ts x k):=λh=>by have:=N9.o.2 h;cases this
   by_cases h5:5000≤ts.length
   ·have HK:Hd (Iv m ts x k 3 ts ⟨#[]⟩ ⟨#[]⟩):=Or.inr (Or.inr (Or.inl ⟨HNTH.o,h5,rfl,rfl,rfl,rfl⟩))
    have d5:decide ((5000:Int)≤(ts.length:Int))=true:=qh;obtain⟨r0,r1,r2,r3,r4,r5⟩:=Hj mu.o;have rf:=(λj=>fH mu.o j);obtain⟨c0,c1,c2⟩:=Bd HAX.o;clear N9;go_wp2;refine bR (v:=G #[I 3,I 0,nS,nS,ze,ze]) qdq rfl ⟨It N6 (Nat.le_succ _) _ _ _ _ _ _,KpS.no xk.o HK.o qd⟩
   ·have HK:Hd (Iv m ts x k 0 (Gs ts x k) ⟨#[]⟩ ⟨#[]⟩):=Or.inr (Or.inr (Or.inr ⟨HNTH.o,h5,rfl,rfl,rfl,rfl⟩))
    have d5:decide ((5000:Int)≤(ts.length:Int))=false:=qh;obtain⟨c0,c1,c2⟩:=Bd HAX.o;have tz:Hd ((wc.alloc (O #[] 9)).ownsRow wc.heap.size 9 1 (J (p_ wc.heap.size) 0 0) 0 []):=Ki wc wc.heap.size 9 1 (Nat.le_refl _)
    have O3:Hd (∀j u,((ts.map Value.string).take k)[j]?=M u→(wc.alloc (O #[] 9)).cell? ((⟨g1,0,N⟩:Addr).add j)=M u):=λj u hu=>by
     rw[List.getElem?_take]at hu
     split at hu
     ·exact Ky (fh.o _ (N6.alloc N6.size _)) j u hu
     ·cases hu
    have hk1c:(k:Int)≤(p1:Int):=qb;have c1l:(wc.alloc (O #[] 9)).cell? ⟨w.heap.size,1,N⟩=M (J (p_ g1) ts.length p1):=Dl c1;clear N9 HNTH oq
    by_cases J2:p1=k
    ·subst J2
     obtain rfl:p1=ts.length:=qb
     go_wp2_with (first|(at_builtin;refine wpList_append_own _ rfl (.tmp 53) (.tmp 57) 22 rfl wc.heap.size 9 i0 ze 1 16 underlying22 hi bq bg bv rfl qd _ 0 [] rfl tz.o ⟨g1,0,N⟩ ts.length ts.length ((ts.map Value.string).take ts.length) rfl (by rw[List.length_take,List.length_map];omega) O3.o (Wr ts ts.length) qm qb qg ?_;intro v' w3 au ae cu;obtain⟨g3,p3,rfl⟩:=Mz au (λe=>by have:=(cu.1 e).1;cases this);rw[Nat.zero_add,List.nil_append]at au;rw[Nat.zero_add];have G9:Hd (w3.ownsRow wc.heap.size 9 1 (J (p_ g3) ts.length p3) ts.length ((ts.map Value.string).take ts.length)):=au;have ij:Bw wc w3:=(aN _ _).grown ae qg (λj hj=>(tz.o.lt j hj).1);clear ae cu au))
     have s1:=Aa ij c1;have nj:wc.heap.size≤w3.heap.size:=ij.size;have HV4:Hd ((w3.drew.alloc (O #[S x] 9)).heap[w3.heap.size]?=M (O #[S x] 9 (0,0))):=Ch w3.drew _;have ii:Bw wc (w3.drew.alloc (O #[S x] 9)):=ij.drew.alloc (by simpa using nj) _;have tu:Hd ((w3.drew.alloc (O #[S x] 9)).ownsRow wc.heap.size 9 1 (J (p_ g3) ts.length p3) ts.length ((ts.map Value.string).take ts.length)):=(Al (w':=w3.drew) G9.o (λ_ _=>rfl)).alloc _;have t1:=Aa ii c1;have HN4:Hd (∀W':E,Bw wc W'→∀j u,((ts.map Value.string).drop ts.length)[j]?=M u→W'.cell? ((⟨g1,0,N⟩:Addr).add j)=M u):=λW' hW j u hu=>by rw[List.drop_of_length_le (by rw[List.length_map];omega)]at hu;simp at hu
     go_region_held3 (λw'=>w'.cell? ⟨w.heap.size,1,N⟩=M (J (p_ g1) ts.length ts.length))
      (first|(with_reducible exact v1)|(with_reducible exact u1)|(with_reducible exact t1)|exact s1|exact t1)
      (first
      | (refine Du (w:=w3.drew.alloc (O #[S x] 9)) rfl (.tmp 59) (.tmp 61) 22 rfl wc.heap.size 9 i0 ze 1 16 underlying22 hi bq bg bv rfl qd g3 ts.length p3 _ qo tu.o ⟨w3.heap.size,0,N⟩ 1 1 [S x] qo rfl (World.news_of_block (cs:=#[S x]) (t:=9) (fr:=(0,0)) HV4.o) qbt qm qb ii.size ?_;intro g4 p4 w5 ho5 jh;have yj:Bw wc w5:=ii.grown jh ii.size (λj hj=>by have hj2:g3=j:=qce;rw[←hj2];exact(tu.o.lt g3 rfl).1);have v1:=Aa yj c1;have vp:wc.heap.size≤w5.heap.size:=yj.size;have K6:Hd (w5.ownsRow wc.heap.size 9 1 (J (p_ g4) (ts.length+1) p4) (ts.length+1) ((ts.map Value.string).take ts.length++[S x])):=ho5;have HN5:Hd (∀j u,((ts.map Value.string).drop ts.length)[j]?=M u→w5.cell? ((⟨g1,0,N⟩:Addr).add j)=M u):=HN4.o w5 yj)
      | (refine Du (w:=w5) rfl (.tmp 62) (.tmp 66) 22 rfl wc.heap.size 9 i0 ze 1 16 underlying22 hi bq bg bv rfl qd g4 (ts.length+1) p4 _ qo K6.o ⟨g1,0,N⟩ 0 0 ((ts.map Value.string).drop ts.length) qo (by rw[List.length_drop,List.length_map];omega) (HN5.o) (Ws ts ts.length) qm qb vp ?_;intro g6 p6 w6 U3 hgx6;have J8:Bw wc w6:=yj.grown hgx6 vp (λj hj=>by have hj2:g4=j:=qce;rw[←hj2];exact(K6.o.lt g4 rfl).1);have u1:=Aa J8 c1;have HO6:Hd (w6.ownsRow wc.heap.size 9 1 (J (p_ g6) (ts.length+1) p6) (ts.length+1) ((Gs ts x ts.length).map Value.string)):=(by rw[show ts.length+1+0=ts.length+1 from qb]at U3;rw[Po];exact U3);rw[show ts.length+1+0=ts.length+1 from qb])
      )
     all_goals
      have HR6:=Ac (Af mu.o J8);have HA6:=Af HAX.o J8;obtain⟨r0,r1,r2,r3,r4,r5⟩:=Hj HR6.o;have rf:=(λj=>fH HR6.o j);obtain⟨c0,c1,c2⟩:=Bd HA6;have qf:=(λj=>fH HA6 j);have R1:Hd (Cv w6 w.heap.size 35):=⟨_,HA6⟩;have HX6:Hd (w6.ownsRow lo 9 1 (J (p_ g6) (ts.length+1) p6) (ts.length+1) ((Gs ts x ts.length).map Value.string)):=Ah HO6.o (zo N6.size);exact qhk
    ·have hkp':¬ (p1=k):=J2
     go_wp2_with (first|(at_builtin;refine wpList_append_own _ rfl (.tmp 53) (.tmp 57) 22 rfl wc.heap.size 9 i0 ze 1 16 underlying22 hi bq bg bv rfl qd _ 0 [] rfl tz.o ⟨g1,0,N⟩ k p1 ((ts.map Value.string).take k) rfl (by rw[List.length_take,List.length_map];omega) O3.o (Wr ts k) qm qb qg ?_;intro v' w3 au ae cu;obtain⟨g3,p3,rfl⟩:=Mz au (λe=>by have:=(cu.1 e).1;cases this);rw[Nat.zero_add,List.nil_append]at au;rw[Nat.zero_add];have G9:Hd (w3.ownsRow wc.heap.size 9 1 (J (p_ g3) k p3) k ((ts.map Value.string).take k)):=au;have ij:Bw wc w3:=(aN _ _).grown ae qg (λj hj=>(tz.o.lt j hj).1);clear ae cu au))
     have s1:=Aa ij c1;have nj:wc.heap.size≤w3.heap.size:=ij.size;have HV4:Hd ((w3.drew.alloc (O #[S x] 9)).heap[w3.heap.size]?=M (O #[S x] 9 (0,0))):=Ch w3.drew _;have ii:Bw wc (w3.drew.alloc (O #[S x] 9)):=ij.drew.alloc (by simpa using nj) _;have tu:Hd ((w3.drew.alloc (O #[S x] 9)).ownsRow wc.heap.size 9 1 (J (p_ g3) k p3) k ((ts.map Value.string).take k)):=(Al (w':=w3.drew) G9.o (λ_ _=>rfl)).alloc _;have t1:=Aa ii c1
     have HN4:Hd (∀W':E,Bw wc W'→∀j u,((ts.map Value.string).drop k)[j]?=M u→W'.cell? ((⟨g1,k,N⟩:Addr).add j)=M u):=λW' hW j u hu=>by
      rw[List.getElem?_drop]at hu;have h:=Ky (fh.o _ (bt N6 hW)) (k+j) u hu;rw[Addr.add_lit]at h ⊢;rw[Nat.zero_add]at h;exact h
     go_region_held3 (λw'=>w'.cell? ⟨w.heap.size,1,N⟩=M (J (p_ g1) ts.length p1))
      (first|(with_reducible exact v1)|(with_reducible exact u1)|(with_reducible exact t1)|exact s1|exact t1)
      (first
      | (refine Du (w:=w3.drew.alloc (O #[S x] 9)) rfl (.tmp 59) (.tmp 61) 22 rfl wc.heap.size 9 i0 ze 1 16 underlying22 hi bq bg bv rfl qd g3 k p3 _ qo tu.o ⟨w3.heap.size,0,N⟩ 1 1 [S x] qo rfl (World.news_of_block (cs:=#[S x]) (t:=9) (fr:=(0,0)) HV4.o) qbt qm qb ii.size ?_;intro g4 p4 w5 ho5 jh;have yj:Bw wc w5:=ii.grown jh ii.size (λj hj=>by have hj2:g3=j:=qce;rw[←hj2];exact(tu.o.lt g3 rfl).1);have v1:=Aa yj c1;have vp:wc.heap.size≤w5.heap.size:=yj.size;have K6:Hd (w5.ownsRow wc.heap.size 9 1 (J (p_ g4) (k+1) p4) (k+1) ((ts.map Value.string).take k++[S x])):=ho5;have HN5:Hd (∀j u,((ts.map Value.string).drop k)[j]?=M u→w5.cell? ((⟨g1,k,N⟩:Addr).add j)=M u):=HN4.o w5 yj)
      | (refine Du (w:=w5) rfl (.tmp 62) (.tmp 66) 22 rfl wc.heap.size 9 i0 ze 1 16 underlying22 hi bq bg bv rfl qd g4 (k+1) p4 _ qo K6.o ⟨g1,k,N⟩ (ts.length-k) (p1-k) ((ts.map Value.string).drop k) qo (by rw[List.length_drop,List.length_map];omega) (HN5.o) (Ws ts k) qm qb vp ?_;intro g6 p6 w6 U3 hgx6;have J8:Bw wc w6:=yj.grown hgx6 vp (λj hj=>by have hj2:g4=j:=qce;rw[←hj2];exact(K6.o.lt g4 rfl).1);have u1:=Aa J8 c1;have HO6:Hd (w6.ownsRow wc.heap.size 9 1 (J (p_ g6) (ts.length+1) p6) (ts.length+1) ((Gs ts x k).map Value.string)):=(by rw[show k+1+(ts.length-k)=ts.length+1 from qb]at U3;rw[Po];exact U3);rw[show k+1+(ts.length-k)=ts.length+1 from qb])
      )
     all_goals
      have HR6:=Ac (Af mu.o J8);have HA6:=Af HAX.o J8;obtain⟨r0,r1,r2,r3,r4,r5⟩:=Hj HR6.o;have rf:=(λj=>fH HR6.o j);obtain⟨c0,c1,c2⟩:=Bd HA6;have qf:=(λj=>fH HA6 j);have R1:Hd (Cv w6 w.heap.size 35):=⟨_,HA6⟩;have HX6:Hd (w6.ownsRow lo 9 1 (J (p_ g6) (ts.length+1) p6) (ts.length+1) ((Gs ts x k).map Value.string)):=Ah HO6.o (zo N6.size);exact qhk
  ·have A6:=N9.o.1 rfl
   obtain⟨h3,h4⟩:=A6;have HTH2:Hd (Hq m ts x k):=⟨h3,h4⟩;have io:(k:Int)<(ts.length:Int):=qb
   have k1:wc.cell? ⟨g1,k,N⟩=M (S (nx ts k)):=by
    obtain⟨b',bp,ea,c⟩:=(fh.o wc N6) k h3;cases ea;rw[Nat.zero_add]at c;exact c
   obtain⟨r0,r1,r2,r3,r4,r5⟩:=Hj mu.o;have rf:=(λj=>fH mu.o j);obtain⟨c0,c1,c2⟩:=Bd HAX.o
   by_cases hne:nx ts k=x
   ·have HK:Hd (Iv m ts x k 0 ts ⟨#[]⟩ ⟨#[]⟩):=Or.inr (Or.inl ⟨HTH2.o,hne,rfl,rfl,rfl,rfl⟩)
    have n6:=Dg hne;clear N9 HTH2 h4 hne;generalize nx ts k=z at k1 n6;go_wp2;refine bR (v:=G #[I 0,I (m:Int),J (p_ g1) ts.length p1,J a2 rn p2,ze,ze]) qdq rfl ⟨It N6 (Nat.le_succ _) _ _ _ _ _ _,KpS.yes (R:=w.heap.size+1) xk.o HK.o rfl (Ab HX.o N6) (Or.inl rfl) ⟨_,mu.o⟩ _ _ _ _ _ _⟩
   ·have HK:Hd (Iv m ts x k 2 ts (nx ts k) x):=Or.inl ⟨HTH2.o,hne,rfl,rfl,rfl,rfl⟩
    have n6:=Gy hne;clear N9 HTH2 h4 hne;generalize nx ts k=z at k1 n6 HK;go_wp2;refine bR (v:=G #[I 2,I 0,nS,nS,S z,S x]) qdq rfl ⟨It N6 (Nat.le_succ _) _ _ _ _ _ _,KpS.no xk.o HK.o qd⟩
end Go.Proofs.YtbkkjodaaijimaaGreatDoor
