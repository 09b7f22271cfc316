import Derived.Test.YtnflkpmmfpfhlaaGreatDoorBaE
import Derived.Test.YtnflkpmmfpfhlaaGreatDoorTmT
namespace Go.Proofs.YtnflkpmmfpfhlaaGreatDoor
open _root_.Go.Proofs.Tryz Go.RowKit Go.Deep
open Value renaming slice->J,string->S,bool->F,agg->G
open Option renaming some->M,none->N
open Obj renaming cells->O
open Go renaming Value->Z,World->E
open Ending renaming returned->H
open _root_ renaming List->L,Nat->X
set_option linter.unusedVariables false
set_option linter.unusedSimpArgs false
set_option maxRecDepth 100000
set_option maxHeartbeats 8000000
variable {w w':E} {B r n P i lo lo':X} {R:L T3} {xs zs:L Z} {cv:X->Z} {lv kv:X→Z} {rs:L Int} {ss:L S2} {ts:L T2} {s:Sb} {nm:By} {qv:Z} {T:L By}
theorem Dv.addW{v nw c d:Z}{rec:T3}{lv:X->Z}(r:Dv w B v R xs cv lv)(hg:w.grownBy w' v.ownBlock)(ho:w'.ownsRow B 73 3 nw (R.length+1) (xs++[c,d,S rec.out])){us:L Z}(h1:w.ownsRow B 174 3 c rec.code.length zs)(h2:Cs rec.code rec.code.length zs)(h3:w.ownsRow B 115 3 d rec.looks.length us)(h4:Bx rec.looks rec.looks.length us)(hc:∀i,i<R.length->∀b,(cv i).ownBlock=M b->c.ownBlock≠M b)(hd:∀i,i<R.length->∀b,(lv i).ownBlock=M b->d.ownBlock≠M b):Eo w' B nw (R++[rec]):=by
 have lq:=r.row.1;have ne:∀ {e sz n:X} {u:Z} {ys:L Z},w.ownsRow B e sz u n ys->e≠73->∀b,u.ownBlock=M b->v.ownBlock≠M b:=λq he=>apart q r.row he;refine⟨_,λi=>if i<R.length then cv i else c,λi=>if i<R.length then lv i else d,by rw[List.length_append];exact ho,λi hi=>?_,λi hi=>?_,λi hi=>?_,λi j n9 hj b e=>?_,λi j n9 hj b e=>?_⟩
 ·rw[List.length_append,List.length_singleton]at hi
  rcases Nat.lt_or_ge i R.length with k|k
  ·obtain⟨a,b,e⟩:=r.fil i k
   rw[if_pos k,if_pos k,Yh k];refine⟨?_,?_,?_⟩<;>rw[List.getElem?_append_left qg]<;>assumption
  ·obtain rfl:i=R.length:=qg
   rw[if_neg qg,if_neg qg,Yi];refine⟨?_,?_,?_⟩
   ·rw[List.getElem?_append_right qg,show R.length*3-xs.length=0 from qg];rfl
   ·rw[List.getElem?_append_right qg,show R.length*3+1-xs.length=1 from qg];rfl
   ·rw[List.getElem?_append_right qg,show R.length*3+2-xs.length=2 from qg];rfl
 ·rw[List.length_append,List.length_singleton]at hi
  rcases Nat.lt_or_ge i R.length with k|k
  ·obtain⟨ys,a,b⟩:=r.code i k
   show ∃ys,World.ownsRow _ _ _ _ (if i<R.length then cv i else c) _ _/\_;rw[if_pos k,Yh k];exact⟨ys,Fj a r.row qh hg,b⟩
  ·obtain rfl:i=R.length:=qg
   show ∃ys,World.ownsRow _ _ _ _ (if R.length<R.length then cv R.length else c) _ _/\_;rw[if_neg qg,Yi];exact⟨zs,Fj h1 r.row qh hg,h2⟩
 ·rw[List.length_append,List.length_singleton]at hi
  rcases Nat.lt_or_ge i R.length with k|k
  ·obtain⟨ys,a,b⟩:=r.look i k
   show ∃ys,World.ownsRow _ _ _ _ (if i<R.length then lv i else d) _ _/\_;rw[if_pos k,Yh k];exact⟨ys,Fj a r.row qh hg,b⟩
  ·obtain rfl:i=R.length:=qg
   show ∃ys,World.ownsRow _ _ _ _ (if R.length<R.length then lv R.length else d) _ _/\_;rw[if_neg qg,Yi];exact⟨us,Fj h3 r.row qh hg,h4⟩
 ·rw[List.length_append,List.length_singleton]at hj
  have hi:i<R.length:=qg;simp only[if_pos hi]at e
  rcases Nat.lt_or_ge j R.length with k|k
  ·simp only[if_pos k];exact r.apc i j n9 k b e
  ·simp only[if_neg (show ¬ j<R.length from qg)];exact hc i hi b e
 ·rw[List.length_append,List.length_singleton]at hj
  have hi:i<R.length:=qg;simp only[if_pos hi]at e
  rcases Nat.lt_or_ge j R.length with k|k
  ·simp only[if_pos k];exact r.apl i j n9 k b e
  ·simp only[if_neg (show ¬ j<R.length from qg)];exact hd i hi b e
def usJ(rs:L Int)(j:X):L X:=((rs.take j).filter λr=>decide (0<=r)).map Int.toNat
theorem Xz{j:X}(h:j<rs.length):rs.take (j+1)=rs.take j++[rs.getD j 0]:=by
 rw[List.take_succ_eq_append_getElem h,gG,Hq h];rfl
theorem usJ_yes{j:X}(h:j<rs.length)(hr:rs.getD j 0=(r:Int)):usJ rs (j+1)=usJ rs j++[r]:=by
 unfold usJ;rw[Xz h,List.filter_append,List.map_append,hr];simp
theorem usJ_no{j:X}(h:j<rs.length)(hr:¬ 0≤rs.getD j 0):usJ rs (j+1)=usJ rs j:=by
 unfold usJ;rw[Xz h,List.filter_append,List.map_append,List.filter_cons,decide_eq_false hr];simp
theorem usJ_mem{j:X}(h:j<rs.length)(hr:rs.getD j 0=(r:Int)):r∈usJ rs rs.length:=by
 unfold usJ;rw[List.take_length,List.mem_map];refine⟨(r:Int),List.mem_filter.2 ⟨?_,qi⟩,rfl⟩;rw[←hr,gG,Hq h];exact List.getElem_mem h
theorem Ew.inv{c:Int}{t:By}{xs:L By}{sF:Sb}{cF:Int}{tF:By}(h:Ew ss ts n s c t (nm::xs) (.ok sF cF tF)):Ao nm∧∃ms' s' d,Az ss ts n [] s [] (.make nm) ms' s' (.ok d)∧Ew ss ts n s' d.c d.t xs (.ok sF cF tF):=by
 cases h with
 | go h1 h2 h3=>exact⟨h1,_,_,_,h2,h3⟩
theorem WorkE.good{h:X}{ms':Mm}{s':Sb}{d:Md}(hv:Xv ss ts)(hw:WorkE B h n ss ts s.T s.R nm w')(hb:Az ss ts n [] s [] (.make nm) ms' s' (.ok d)):∃sv tv g p qa qc ma mm mc kv nv ev xs rs,w'.heap[h]?=M (O #[sv,tv,I n,J (p_ g) s'.T.length p,J qa s'.R.length qc,J ma mm mc,kv,nv,ev,F false,I d.c,S d.t,nS,I n,J (p_ g) s'.T.length p,J qa s'.R.length qc,nv,ev,ze,ze] 63 (0,0))∧Dz w' B (J (p_ g) s'.T.length p) (J qa s'.R.length qc) s'.T s'.R∧w'.ownsRow B 67 5 (J ma mm mc) mm xs∧rs.length=mm∧(∀i,i<mm→xs[i*5+4]?=M (I (rs.getD i 0)))∧s'.us=s.us++usJ rs rs.length:=by
 obtain⟨ce,s2,a,bv,pre,e,d7,hk,h1⟩:=hw;have hp:=Az.pf s.us s.ran s.held bv;rw[show Sb.pf s.ran s.held s.us ⟨s.T,s.R,[],[],[]⟩=s from by simp[Sb.pf]]at hp;obtain⟨rfl,es,ea⟩:=Az.unique hv.ascS hv.ascT hb hp;subst es
 rcases h1 with⟨d2,tx,qv,nv,ev,rfl,rfl,cr,h2,h3,h4,h5,sv,tv,mv,kv,m,xs,rfl,hmv,rs,r1,r2,r3⟩|⟨b,_,_,_,_,_,_,_,rfl,_⟩
 ·cases ea
  obtain⟨g,p,rfl⟩:=cr.txa;obtain⟨ma,mc,rfl⟩:=Al hmv;(obtain⟨qa,qc,rfl⟩:∃a c,qv=J a s2.R.length c:=by obtain⟨zs,cv,lv,qr⟩:=cr.rcs;exact Al qr.row);refine⟨sv,tv,g,p,qa,qc,ma,m,mc,kv,nv,ev,xs,rs,hk,cr,hmv,r1,r2,?_⟩;show s.us++s2.us=_;rw[r3,List.append_nil];unfold usJ;rw[List.take_length]
 ·cases ea
theorem Dz.far{AA:X}{tx:Z}(h:Dz w B tx qv T R)(ht:Dl w AA 4)(hk:∀b,b≠AA→w'.heap[b]?=w.heap[b]?):Dz w' B tx qv T R:=by
 have key:∀ {e sz n:X} {u:Z} {xs:L Z},w.ownsRow B e sz u n xs→4≠e→w'.ownsRow B e sz u n xs:=λho he=>An ho λb q=>hk b λe'=>by
  obtain⟨cs,hc⟩:=ht;exact Ae ho he hc (by rw[←e'];exact q)
 obtain⟨xs,cv,lv,r⟩:=h.rcs;exact⟨key h.txt qh,h.txa,xs,cv,lv,key r.row qh,r.fil,λi hi=>by obtain⟨ys,a,b⟩:=r.code i hi;exact⟨ys,key a qh,b⟩,λi hi=>by obtain⟨ys,a,b⟩:=r.look i hi;exact⟨ys,key a qh,b⟩,r.apc,r.apl⟩
theorem Dz.set3{tx:Z}(h:Dz w B tx qv T R)(ht:Dl w P 35)(a b c:Z):Dz (((w.setCell ⟨P,0,N⟩ a).setCell ⟨P,1,N⟩ b).setCell ⟨P,2,N⟩ c) B tx qv T R:=by
 obtain⟨xs,cv,lv,r⟩:=h.rcs;exact⟨Ha h.txt ht qh _ _ _,h.txa,xs,cv,lv,Ha r.row ht qh _ _ _,r.fil,λi hi=>by obtain⟨ys,a,b⟩:=r.code i hi;exact⟨ys,Ha a ht qh _ _ _,b⟩,λi hi=>by obtain⟨ys,a,b⟩:=r.look i hi;exact⟨ys,Ha a ht qh _ _ _,b⟩,r.apc,r.apl⟩
theorem Eo.setT{j:X}{v:Z}(h:Eo w B v R)(ht:Dl w P 35)(u:Z):Eo (w.setCell ⟨P,j,N⟩ u) B v R:=by
 obtain⟨xs,cv,lv,r⟩:=h;exact⟨xs,cv,lv,Ak r.row ht qh _,r.fil,λi hi=>by obtain⟨ys,a,b⟩:=r.code i hi;exact⟨ys,Ak a ht qh _,b⟩,λi hi=>by obtain⟨ys,a,b⟩:=r.look i hi;exact⟨ys,Ak a ht qh _,b⟩,r.apc,r.apl⟩
theorem Dv.grown9{B':X}{v u:Z}{ys:L Z}{cv:X→Z}(r:Dv w B v R xs cv lv)(hu:w.ownsRow B' 9 1 u n ys)(hg:w.grownBy w' u.ownBlock):Dv w' B v R xs cv lv:=
 ⟨Fj r.row hu qh hg,r.fil,λi hi=>by obtain⟨ys,a,b⟩:=r.code i hi;exact⟨ys,Fj a hu qh hg,b⟩,λi hi=>by obtain⟨ys,a,b⟩:=r.look i hi;exact⟨ys,Fj a hu qh hg,b⟩,r.apc,r.apl⟩
theorem Dv.setT{j:X}{v:Z}{cv:X→Z}(r:Dv w B v R xs cv lv)(ht:Dl w P 35)(u:Z):Dv (w.setCell ⟨P,j,N⟩ u) B v R xs cv lv:=
 ⟨Ak r.row ht qh _,r.fil,λi hi=>by obtain⟨ys,a,b⟩:=r.code i hi;exact⟨ys,Ak a ht qh _,b⟩,λi hi=>by obtain⟨ys,a,b⟩:=r.look i hi;exact⟨ys,Ak a ht qh _,b⟩,r.apc,r.apl⟩
theorem made_at{cap:X}{a:Option Addr}(h:w.ownsRow B 67 5 (J a n cap) n xs)(hi:i<n):∃b off,a=M ⟨b,off,N⟩∧w.cell? ⟨b,off+i*5+4,N⟩=xs[i*5+4]?:=by
 rcases h.2 with⟨e,h0⟩|⟨g,c,cur,e,_⟩
 ·omega
 ·cases e
  refine⟨g,0,rfl,?_⟩;rw[Nat.zero_add,h.cellAt _ qg]
theorem Zz(n:Int)(tb tc nc:X)(na:Option Addr)(xs:L By)(qa sa ta:Option Addr)(qc c1 c2:X)(T:L By)(R:L T3)(ss:L S2)(ts:L T2)(w:E)(cr:Nv w (p_ tb) T qa R)(rv:Rc w qa R)(hr:R.length≤1048576)(jg:∀i,i<R.length→(qx R i).code.length≤1048576∧(qx R i).looks.length≤1048576)(sw:Li w sa ss ta ts)(ku:Ep ss ts)(lq:xs.length≤1048576)(ue:Cu w na xs)(P7:∀i,(nx xs i).size≤9223372036854775807):Calls prog 7 #[G #[I n,J (p_ tb) T.length tc,J qa R.length qc],G #[J sa ss.length c1,J ta ts.length c2],J na xs.length nc] w λe w'=>Bw w w'/\∃v,e=H v/\TrO w.heap.size n ss ts T R xs v w':=by
 obtain⟨W,eW⟩:=Aj (((w.alloc (O #[I n,J (p_ tb) T.length tc,J qa R.length qc] 35)).alloc (O #[J sa ss.length c1,J ta ts.length c2] 42)).alloc (O #[I 0,nS,nS] 35));have cj:Bw w W:=qbv;have HQ:Hd (W.heap[w.heap.size]?=M (O #[I n,J (p_ tb) T.length tc,J qa R.length qc] 35 (0,0))):=qca
 have HP:Hd (W.heap[w.heap.size+1]?=M (O #[J sa ss.length c1,J ta ts.length c2] 42 (0,0))):=by
  exact qjb
 have HZ:Hd (W.heap[w.heap.size+1+1]?=M (O #[I 0,nS,nS] 35 (0,0))):=by
  show _=_;rw[←eW];have:=Fg ((w.alloc (O #[I n,J (p_ tb) T.length tc,J qa R.length qc] 35)).alloc (O #[J sa ss.length c1,J ta ts.length c2] 42)) (O #[I 0,nS,nS] 35);exact qfj
 have I0:=Ag HZ.o;have HB:=Ab cj;have Y9:=Ab (specAll_any n tb tc nc na xs qa sa ta qc c1 c2 T R ss ts W (cr.bl cj) (rv.bl cj) hr jg (sw.bl cj) ku lq (ue.bl cj) P7);have vh:=Ab (λ(V:E) (hV:Bw w V)=>Ke n tb 0 tc qa qc T R V (cr.st.bl hV) (rv.bl hV) cr.lt hr jg);have HENV:=Ab (λ(V:E) (hV:Bw w V) (e:Fx ss ts=0)=>Mf (sw.bl hV) e);have HXS:=Ab ue;have HXN:=Ab P7;obtain⟨mx,emx⟩:=Aj xs.length;have EMX:=Ab emx;rw[emx]at Y9 lq ⊢;obtain⟨q0,q1,q2,qf⟩:=Ci HQ.o;obtain⟨x0,x1⟩:=En HP.o;clear cj cr rv hr jg sw ku ue P7 emx;go_enter func7,ntmps7;go_wp2_with fail;clear eW q0 q1 q2 qf x0 x1;refine Y9.o.mono ?_;rintro e w1 ⟨ag,d,cv,tx,qv,nv,ev,zs,kv,lv,rfl,hd,lh⟩;clear Y9;have fg:=ag.size;replace HQ:=Ab (Ac ag HQ.o);replace HP:=Ab (Ac ag HP.o);replace HZ:=Ab (Ac ag HZ.o);have d6:=Ab (bt HB.o ag);clear HB ag;obtain⟨⟨ca,cc,rfl⟩,⟨txa,txc,rfl⟩,⟨rqa,rqc,rfl⟩,⟨na',nc',rfl⟩,⟨ea',ec',rfl⟩⟩:=lh.slices;have HD:=Ab hd;clear hd lh;obtain⟨dc,edc⟩:=Aj d.c;have EDC:=Ab edc;unfold bV;rw[edc];clear edc;obtain⟨tn,etn⟩:=Aj d.T.length;obtain⟨rqn,ern⟩:=Aj d.R.length;rw[etn,ern];have ERN:=Ab ern;clear etn ern
 go_upto_region 2 with fail
 obtain⟨w2,e2⟩:=Aj (w1.alloc (O #[I dc,S d.t,J ca d.ch.length cc,I d.n,J txa tn txc,J rqa rqn rqc,J na' d.ran.length nc',J ea' d.held.length ec',S d.A,S d.B] 55));have af:=aB e2;have HX:Hd (w2.heap[w1.heap.size]?=M (O #[I dc,S d.t,J ca d.ch.length cc,I d.n,J txa tn txc,J rqa rqn rqc,J na' d.ran.length nc',J ea' d.held.length ec',S d.A,S d.B] 55 (0,0))):=by show _=_;rw[←e2];exact Fg _ _
 rw[e2];obtain⟨AJ,eD⟩:=Aj w1.heap.size;rw[eD]at HX ⊢;have hDw:W.heap.size≤AJ:=qg;have hD2:=Ag HX.o;clear e2;replace HQ:=Ab (Ac af HQ.o);replace HP:=Ab (Ac af HP.o);replace HZ:=Ab (Ac af HZ.o);have dy:=Ab (bt d6.o af);clear af d6 fg
 by_cases h5:5<dc
 ·have rd:Hd (Kx n ss ts T R xs 0 [] [] dc):=⟨d,HD.o,Or.inl ⟨by rw[EDC.o];exact h5,rfl,rfl,rfl,EDC.o.symm⟩⟩
  obtain⟨y0,y1,y2,y3,y4,y5,y6,y7,y8,y9⟩:=Mi HX.o;go_wp2_with fail;clear y0 y1 y2 y3 y4 y5 y6 y7 y8 y9;obtain⟨U,eU⟩:=Aj w2.drew;have be:Bw w2 U:=qan;have HXU:=Ab (Ac be HX.o);have HZU:=Ab (Ac be HZ.o);have kh:=Ab (bt dy.o be);have br:=Ab ((Mi HXU.o).1);clear be;refine Lt.begin 99 (λw'=>w'.cell? ⟨AJ,0,N⟩=M (I dc)) qk ?_;rw[eU];clear eU;change K 0 _
  iterate 3
   refine Lt.ti (v:=?_) br.o ?_ ?_;rotate_left 1
   ·intro w s1
    try dsimp only at s1
    exact qae
   simp only[gX]
  obtain⟨z0,z1,z2,zf⟩:=Ci HZU.o;obtain⟨V,eV⟩:=Aj (((U.setCell ⟨w.heap.size+1+1,0,N⟩ (I 0)).setCell ⟨w.heap.size+1+1,1,N⟩ nS).setCell ⟨w.heap.size+1+1,2,N⟩ nS);(have HVZ:Hd (V.heap[w.heap.size+1+1]?=M (O #[I 0,nS,nS] 35 (0,0))):=by show _=_;rw[←eV];exact Ba HZU.o _ _ _);(have HVD:Hd (V.cell? ⟨AJ,0,N⟩=M (I dc)):=by show _=_;rw[←eV,Ce (Ea (show AJ≠w.heap.size+1+1 from qg) _ _ _)];exact br.o);(have gj:Hd (Bw w V):=by show Below _ _ _;rw[←eV];exact Co kh.o qg _ _ _);refine Lt.sp (i:=3) (λK hK=>?_);go_simp
  try rw[eV]
  refine hK.out _ _ (λ_=>HVD.o) (λ_=>?_);clear hK K z0 z1 z2 zf eV
  try simp only[gX]
  refine Lt.sp (i:=4) (λK hK=>?_);go_simp;refine hK.out _ _ (λ_=>HVD.o) (λ_=>?_);clear hK K
  try simp only[gX]
  refine Lt.done qk ?_ _;go_wp2_with fail;obtain⟨y0,y1,y2,-⟩:=Ci HVZ.o;exact bR (v:=.tuple #[G #[I 0,nS,nS],I dc]) (by simp[results,results7,go_sem,y0,y1,y2]) rfl ⟨gj.o,_,rfl,0,[],[],dc,_,_,_,_,_,rfl,rd.o,SW.nil _ _⟩
 obtain⟨uf,sF,cF,tF,ik,eT,eR⟩:=HD.o.okd qdb;have Gt:=Ab (HENV.o w (Below.refl _ _) uf.2.1).v;have rd:Hd (Kx n ss ts T R xs n (Iw n.toNat sF.T (Gm sF.us sF.R)) (Gm sF.us sF.R) 0):=⟨d,HD.o,Or.inr ⟨qdb,uf.2.1,rfl,rfl,sF,cF,tF,ik,rfl,rfl⟩⟩;obtain⟨m,rfl⟩:=Int.eq_ofNat_of_zero_le (show 0<=n by have:=uf.1.1;omega);have hm8:m≤8:=zo uf.1.2.1;have sd:1≤m:=zo uf.1.1;have HSBF:=Ab (ik.small Gt.o (HENV.o w (Below.refl _ _) uf.2.1).l2 (show Fy m ⟨T,R,[],[],[]⟩ from uf.1.2.2) sF cF tF rfl).1;have HGR:=Ab (ik.grow (λx hx=>by cases hx) sF cF tF rfl);have HAL0:=Ab ik;have HOK0:=Ab uf.1.2.2;have HCH:=Ab uf.2.1;have hmx:mx≤200:=by rw[←EMX.o];exact uf.2.2
 rw[eR]at ERN;have hrq2:rqn≤2000:=by rw[←ERN.o];exact HSBF.o.2.1
 clear ik uf HD eT eR;obtain⟨q0,q1,q2,qf⟩:=Ci HQ.o;obtain⟨y0,y1,y2,y3,y4,y5,y6,y7,y8,y9⟩:=Mi HX.o;go_wp2_with fail;clear q0 q1 q2 qf y0 y1 y2 y3 y4 y5 y6 y7 y8 y9;refine(vh.o w2 dy.o).mono ?_;clear vh;rintro e w3 ⟨au,g1,p1,v2,rfl,o1,o2⟩;obtain⟨a2,p2,rfl,_⟩:=o2.sl;have vg:=Ab (show Dz w3 w.heap.size (J (p_ g1) T.length p1) (J a2 R.length p2) T R from ⟨Ah o1.own (zo dy.o.size),⟨g1,p1,rfl⟩,o2.recO.base (zo dy.o.size)⟩);have o6:=au.size;replace HQ:=Ab (Ac au HQ.o);replace HP:=Ab (Ac au HP.o);replace HZ:=Ab (Ac au HZ.o);replace HX:=Ab (Ac au HX.o);have ia:=Ab (bt dy.o au);clear au o1 o2 dy
 go_upto_region 5 with fail
 obtain⟨w4,e4⟩:=Aj (w3.alloc (O #[I m,J (p_ g1) T.length p1,J a2 R.length p2] 35));have bp:Bw w3 w4:=qep;have HN4:Hd (w4.heap[w3.heap.size]?=M (O #[I m,J (p_ g1) T.length p1,J a2 R.length p2] 35 (0,0))):=by show _=_;rw[←e4];exact Fg _ _
 have h4s:w3.heap.size+1=w4.heap.size:=by rw[←e4];simp
 rw[e4];clear e4;have HX4:=Ab (Ac bp HX.o);have gq:=Ab (vg.o.bl bp);clear vg;obtain⟨y0,y1,y2,y3,y4,y5,y6,y7,y8,y9⟩:=Mi HX4.o;obtain⟨i0,zr,bq,bi,ci⟩:=info_parts Tryz.info4b
 go_upto_region 6 with(at_make;refine wpList_make_full _ rfl (.tmp 32) (.tmp 32) 58 rfl w4.heap.size 4 i0 (F false) 1 underlying58 zr bq bi .i64 .i64 _ _ rqn rfl rfl rfl rfl qaq qq (Nat.le_refl _) ?_;intro w5 gw vq)
 clear y0 y1 y2 y3 y4 y5 y6 y7 y8 y9;rw[Pn]at gw;have co:Bw w4 w5:=(Below.refl _ _).grown vq (Nat.le_refl _) qi;obtain⟨Nb,eNb⟩:=Aj w3.heap.size;obtain⟨Mb,eMb⟩:=Aj w4.heap.size;rw[eNb]at HN4 h4s ⊢;rw[eMb]at gw h4s ⊢;have ko:Hd (Below Nb w3 w5):=by show Below _ _ _;rw[←eNb];exact bp.trans (co.mono qg)
 have HN5:=Ab (Ac co HN4.o);have iq:=Ab (gq.o.bl co);have S5:=Ab gw;have hNbw:w.heap.size+1+1<Nb:=by rw[←eNb];exact Ag HZ.o
 clear bp co vq gw HN4 gq HX4;go_wp2
 go_loopw [11] (λi wr=>∃(k:X)(s:Sb)(c:Int)(t:By)(g p:X)(vi:Option Addr)(rj:X)(ys:L Bool),k≤mx∧i=I k∧Hd (Ew ss ts m s c t (xs.drop k) (.ok sF cF tF))∧Hd (Fy m s)∧Hd (∀x∈s.us,x<s.R.length)∧Hd (Dz wr w.heap.size (J (p_ g) s.T.length p) (J vi s.R.length rj) s.T s.R)∧Hd (wr.heap[Nb]?=M (O #[I m,J (p_ g) s.T.length p,J vi s.R.length rj] 35 (0,0)))∧Hd (wr.ownsRow Mb 4 1 (J (p_ Mb) rqn rqn) rqn (ys.map .bool))∧Hd (∀j:X,ys[j]?=M true↔j∈s.us)∧Hd (Below Nb w3 wr)) (λi _=>mx-(intOf i).toNat)
 case atStart=>exact⟨0,_,_,_,_,_,_,_,_,Nat.zero_le _,rfl,HAL0.o,HOK0.o,(λx hx=>by cases hx),iq.o,HN5.o,S5.o,(λj=>by simp[List.getElem?_replicate]),ko.o⟩
 case round=>
  clear ko HN5 iq S5 HAL0 HOK0;obtain⟨k,s,c,t,g,p,vi,rj,ys,hk,rfl,HAL,ke,HUL,di,HN,HM,um,jl⟩:=hrel;(have fu:Hd (Bw w3 wr):=by have q:=jl.o;rw[←eNb]at q;exact q);have py:=Ab (ia.o.trans (fu.o.mono ia.o.size))
  by_cases ai:k<mx
  ·have M4:k<xs.length:=by rw[EMX.o];exact ai
   have fs:(k:Int)<(mx:Int):=qg;obtain⟨nb,nf,ena,G9⟩:=(HXS.o.bl py.o) k M4;subst ena;obtain⟨nm,enm⟩:=Aj (nx xs k);replace G9:wr.cell? ⟨nb,nf+k,N⟩=M (S (nx xs k)):=G9;have ju:=HAL.o;rw[Mh M4,enm]at ju;rw[enm]at G9;obtain⟨cz,ms',s',dd,bv,hal'⟩:=ju.inv;have jr:=Ab bv;have HAL':=Ab hal';have pn:=Ab cz;clear ju bv hal' enm cz HAL;have HPr:=Ab (Ac fu.o HP.o);obtain⟨U,eU⟩:=Aj wr.drew;have be:Bw wr U:=qan;have HWK:=Ab (Vq sa ta vi c1 c2 m g p rj ss ts s.T s.R nm U (HENV.o U (bt py.o be) HCH.o) sd hm8 (by obtain⟨a,b,e,hh⟩:=Rj (di.o.bl be).txt;cases e;exact hh) ((di.o.bl be).rcs.rowW (λi hi=>((Ph ke.o).2.2 i hi).1)) ke.o pn.o (Ph ke.o));have br:Hd (U.heap[Nb]?=M (O #[I m,J (p_ g) s.T.length p,J vi s.R.length rj] 35 (0,0))∧U.heap[w.heap.size+1]?=M (O #[J sa ss.length c1,J ta ts.length c2] 42 (0,0))∧U.cell? ⟨nb,nf+k,N⟩=M (S nm)):=⟨Ac be HN.o,Ac be HPr.o,Aa be G9⟩;have kh:=Ab (jl.o.trans (be.mono (zo (Ag HN.o))));have HMU:=Ab (Ad HM.o be);have hNU:Nb<U.heap.size:=Ag br.o.1;have hMU:Mb<U.heap.size:=(HMU.o.lt Mb rfl).2;clear be HM G9 HPr jl fu py di HN;go_wp2_with fail;refine Lt.begin 99 (λw'=>w'.heap[Nb]?=M (O #[I m,J (p_ g) s.T.length p,J vi s.R.length rj] 35 (0,0))∧w'.heap[w.heap.size+1]?=M (O #[J sa ss.length c1,J ta ts.length c2] 42 (0,0))∧w'.cell? ⟨nb,nf+k,N⟩=M (S nm)) qk ?_;rw[eU];clear eU;change K 0 _
   iterate 6
    refine Lt.ti (v:=?_) br.o ?_ ?_;rotate_left 1
    ·rintro w ⟨s1,s2,s3⟩
     obtain⟨p0,p1,p2,-⟩:=Ci s1;obtain⟨x0,x1⟩:=En s2;exact qae
    simp only[gX]
   refine Lt.sp (i:=6) (λK hK=>?_);go_simp;refine HWK.o.mono ?_;rintro e w6 ⟨bj,h,hh,rfl,hwk⟩;obtain⟨sv,tv,g',p',qb,qd,ma,mm,mc,kv',nv',ev',xm,rs,it,hst6,hm6,hrl,hrs,hus⟩:=hwk.good Gt.o jr.o;have HH6:=Ab it;have HST6:=Ab (hst6.base (show w.heap.size≤U.heap.size from qg));have HMM:=Ab hm6;have HRS:=Ab hrs;have HUS:=Ab hus;have HRL:=Ab hrl;have fl:=Ab (show _∧_∧_ from ⟨Ac bj br.o.1,Ac bj br.o.2.1,Aa bj br.o.2.2⟩);have ni:=Ab (kh.o.trans (bj.mono qg));have HM6:=Ab (Ad HMU.o bj);have xu:=bj.size;refine hK.out _ _ (λ_=>fl.o) (λ_=>?_);clear hK K hwk it hst6 hm6 hrs hus hrl bj kh HMU br HWK
   try simp only[gX]
   refine Lt.sp (i:=7) (λK hK=>?_);go_simp;refine hK.out _ _ (λ_=>fl.o) (λ_=>?_);clear hK K
   try simp only[gX]
   refine Lt.done qk ?_ _;obtain⟨-,-,k2,k3,k4⟩:=ck5 HH6.o;obtain⟨n0,n1,n2,nf'⟩:=Ci fl.o.1;obtain⟨w7,e7⟩:=Aj (((w6.setCell ⟨Nb,0,N⟩ (I m)).setCell ⟨Nb,1,N⟩ (J (p_ g') s'.T.length p')).setCell ⟨Nb,2,N⟩ (J qb s'.R.length qd))
   go_upto_region 11 with fail
   try rw[e7]
   clear k2 k3 k4 n0 n1 n2 nf';have htN:Dl w6 Nb 35:=⟨_,fl.o.1⟩;(have HN7:Hd (w7.heap[Nb]?=M (O #[I m,J (p_ g') s'.T.length p',J qb s'.R.length qd] 35 (0,0))):=by show _=_;rw[←e7];exact Ba fl.o.1 _ _ _);(have HM7:Hd (w7.ownsRow Mb 4 1 (J (p_ Mb) rqn rqn) rqn (ys.map .bool)):=by show World.ownsRow _ _ _ _ _ _ _;rw[←e7];exact Ha HM6.o htN qh _ _ _);(have HST7:Hd (Dz w7 w.heap.size (J (p_ g') s'.T.length p') (J qb s'.R.length qd) s'.T s'.R):=by show Dz _ _ _ _ _ _;rw[←e7];exact HST6.o.set3 htN _ _ _);(have HMM7:Hd (w7.ownsRow U.heap.size 67 5 (J ma mm mc) mm xm):=by show World.ownsRow _ _ _ _ _ _ _;rw[←e7];exact Ha HMM.o htN qh _ _ _);(have HH7:Hd (w7.cell? ⟨h,5,N⟩=M (J ma mm mc)):=by show _=_;rw[←e7,Ce (Ea (show h≠Nb from qg) _ _ _),cH HH6.o];rfl);(have t8:Hd (Below Nb w3 w7):=by show Below _ _ _;rw[←e7];exact Co ni.o (Nat.le_refl _) _ _ _);have hMh:h≠Mb:=qg;have hbl2:=(jr.o.usl (λ_ _ _ e=>qw) HUL.o).1;have HUL':=Ab hbl2;have HGR':=Ab (HAL'.o.grow hbl2 sF cF tF rfl).2
   have HOK':Hd (Fy m s'):=by
    have h1:=(HAL'.o);exact(Az.one Gt.o (HENV.o w (Below.refl _ _) HCH.o).l2 ke.o pn.o jr.o).1
   have HUSB:Hd (∀r,r∈usJ rs rs.length→r<rqn):=λr hr=>by
    have h1:=HUL'.o r (by rw[HUS.o];exact List.mem_append.2 (Or.inr hr));have h2:=HGR'.o;rw[←ERN.o];omega
   (have hmml:mm≤maxLen:=by rcases HMM7.o.2 with⟨_,h0⟩|⟨_,cap,_,_,_,_,h1,h2,_⟩<;>omega);unfold maxLen at hmml;clear e7 htN fl HM6 HST6 HMM HH6 ni hbl2 pn jr HUL HGR';go_wp2
   go_loopw [13] (λi wq=>∃(j:X)(zs:L Bool),j≤mm∧i=I j∧Hd (wq.ownsRow Mb 4 1 (J (p_ Mb) rqn rqn) rqn (zs.map .bool))∧Hd (∀x:X,zs[x]?=M true↔x∈s.us++usJ rs j)∧Hd (∀b,b≠Mb→wq.heap[b]?=w7.heap[b]?)∧Hd (Below Nb w3 wq)) (λi _=>mm-(intOf i).toNat)
   case atStart=>exact⟨0,ys,Nat.zero_le _,rfl,HM7.o,(λx=>by rw[um.o x];simp[usJ]),(λb _=>rfl),t8.o⟩
   case round=>
    obtain⟨j,zs,hj,rfl,HMq,HZq,HKq,HBq⟩:=hrel;have hc5:=(Ce (HKq.o h hMh)).trans HH7.o
    by_cases hlj:j<mm
    ·have hjI:(j:Int)<(mm:Int):=qg
     obtain⟨-,mcur,vo⟩:=Dh HM7.o (b:=Mb) rfl;obtain⟨b2,off2,rfl,hc4⟩:=made_at (An (w':=wr) HMM7.o (λb q=>HKq.o b (λe=>Ae HMM7.o qh vo (by rw[←e];exact q)))) hlj;rw[HRS.o j hlj]at hc4;obtain⟨rc,erc⟩:=Aj (rs.getD j 0);have ERC:=Ab erc;(have hjl:j<rs.length:=by rw[HRL.o];exact hlj);rw[erc]at hc4;clear erc mcur vo
     by_cases hrc:0≤rc
     ·obtain⟨r,rfl⟩:=Int.eq_ofNat_of_zero_le hrc
      have ym:=HUSB.o r (usJ_mem hjl ERC.o);have hrI:(r:Int)<(rqn:Int):=qg;(have hzl:r<zs.length:=by have:=HMq.o.1;rw[List.length_map]at this;omega);obtain⟨bb,oo,vv,ebb,-,zv⟩:=bool_at HMq.o ym;cases ebb;rw[Nat.zero_add]at zv;obtain⟨-,mcur,vo⟩:=Dh HMq.o (b:=Mb) rfl;have hfz:∀x,wr.frozen? ⟨Mb,x,N⟩=false:=λx=>fH vo x
      have Ge:Hd (∀x:X,(zs.set r true)[x]?=M true↔x∈s.us++usJ rs (j+1)):=by
       rw[usJ_yes hjl ERC.o,←List.append_assoc];exact usSet HZq.o hzl
      have lz:=Ab (Vi HMq.o ym true);(have ft:Hd (∀b,b≠Mb→(wr.setCell ⟨Mb,r,N⟩ (F true)).heap[b]?=w7.heap[b]?):=λb hb=>by rw[Dm _ ⟨Mb,r,N⟩ _ b hb];exact HKq.o b hb);have dy:=Ab (HBq.o.setCell (p:=⟨Mb,r,N⟩) (by show Nb≤Mb;omega) (F true));go_wp2;go_roundw
      case rel=>exact⟨j+1,_,qg,qm,lz.o,Ge.o,ft.o,dy.o⟩
      case measure=>simp[intOf];omega
     ·have Ge:Hd (∀x:X,zs[x]?=M true↔x∈s.us++usJ rs (j+1)):=by
       rw[usJ_no hjl (by rw[ERC.o];exact hrc)];exact HZq
      go_wp2;go_roundw
      case rel=>exact⟨j+1,zs,qg,qm,HMq.o,Ge.o,HKq.o,HBq.o⟩
      case measure=>simp[intOf];omega
    ·have hjI:¬ (j:Int)<(mm:Int):=qg
     obtain rfl:j=mm:=qg;obtain⟨-,mcur,vo⟩:=Dh HM7.o (b:=Mb) rfl;have HSTq:=Ab (HST7.o.far ⟨_,vo⟩ HKq.o);have HNq:Hd (wr.heap[Nb]?=M (O #[I m,J (p_ g') s'.T.length p',J qb s'.R.length qd] 35 (0,0))):=(HKq.o Nb qg).trans HN7.o
     have HYq:Hd (∀x:X,zs[x]?=M true↔x∈s'.us):=by
      rw[HUS.o,HRL.o];exact HZq
     clear mcur vo;go_wp2;go_roundw
     case rel=>exact⟨k+1,s',dd.c,dd.t,g',p',qb,qd,zs,qg,qm,HAL'.o,HOK'.o,HUL'.o,HSTq.o,HNq.o,HMq.o,HYq.o,HBq.o⟩
     case measure=>simp[intOf];omega
  ·have fs:¬ (k:Int)<(mx:Int):=qg
   obtain rfl:k=mx:=qg;have ju:=HAL.o;rw[List.drop_of_length_le (by rw[EMX.o];omega)]at ju;(have es:s=sF:=by cases ju;rfl);clear ju HAL HUL HGR HENV HXS HXN EMX HCH Gt;obtain⟨f,ef⟩:∃y:X→Bool,(λi=>decide (i∈sF.us))=y:=⟨_,rfl⟩;have EF:=Ab ef;(have D2:Hd (∀i,f i=true↔ys[i]?=M true):=λi=>by rw[←ef,decide_eq_true_iff,um.o i,es]);rw[es]at di HN ke;rw[ERN.o]at di HN;clear ef um es;obtain⟨zg,etn2⟩:=Aj sF.T.length;have ETN:=Ab etn2;rw[etn2]at di HN;clear etn2;have HQr:=Ab (Ac fu.o HQ.o);have HZr:=Ab (Ac fu.o HZ.o);have hNr:=Ag HN.o;(have htn5:zg≤5000:=by rw[←ETN.o];exact HSBF.o.1.1);clear jl fu HQ HZ HP HX;obtain⟨q0,q1,q2,qf⟩:=Ci HQr.o
   go_upto_region 17 with fail
   clear q0 q1 q2 qf;obtain⟨wE,eE⟩:=Aj wr;subst eE;obtain⟨w8,e8⟩:=Aj (wr.alloc (O #[I m,nS,nS] 35));have mn:=aB e8;(have HO8:Hd (w8.heap[wr.heap.size]?=M (O #[I m,nS,nS] 35 (0,0))):=by show _=_;rw[←e8];exact Fg _ _);rw[e8];obtain⟨Ob,eOb⟩:=Aj wr.heap.size;rw[eOb]at HO8 mn hNr ⊢;have B6:=Ab mn;clear e8 mn;obtain⟨wE,eE⟩:=Aj wr;rw[eE]at B6 di HN HM HQr HZr py eOb;clear eE;go_wp2
   go_loopw [15] (λi wr=>∃(k:X)(q:Z),k≤rqn∧i=I k∧Hd (wr.heap[Ob]?=M (O #[I m,nS,q] 35 (0,0)))∧Hd (Eo wr (Ob+1) q (Gk f (qx sF.R) k))∧Hd (Below Ob wE wr)) (λi _=>rqn-(intOf i).toNat)
   case atStart=>exact⟨0,_,Nat.zero_le _,rfl,HO8.o,⟨_,_,_,(SW.nil _ _).rq⟩,B6.o⟩
   case round=>
    clear HO8 B6;obtain⟨k,q,hk,rfl,HO,HW,jl⟩:=hrel;(have fu:Hd (Bw wE wr):=by have q:=jl.o;rw[←eOb]at q;exact q);obtain⟨xw,cw,lw,hw⟩:=HW.o;obtain⟨l,el⟩:=Aj ((Gk f (qx sF.R) k).length);have EL:=Ab el;(have nr:l≤k:=by rw[←el];exact Gx _ _ _);obtain⟨me,l8,rfl⟩:=Al hw.row;rw[el]at HO HW hw;have HW1:=Ab hw;clear hw el HW;have HNr:=Ab (Ac fu.o HN.o);obtain⟨n0,n1,n2,nf⟩:=Ci HNr.o
    by_cases ai:k<rqn
    ·have fs:(k:Int)<(rqn:Int):=qg
     obtain⟨ub,uo,v,eub,hyv,hcv⟩:=bool_at (Ad HM.o fu.o) ai
     have HFK:Hd (f k=v):=by
      exact qlf
     cases eub;rw[Nat.zero_add]at hcv;clear hyv;cases v
     ·have ct:=Ab (Qah (g:=qx sF.R) HFK.o)
      (have HRE:Hd (Eo wr (Ob+1) (J me l l8) (Gk f (qx sF.R) (k+1))):=by rw[ct.o];exact⟨_,_,_,HW1.o⟩);go_wp2;go_roundw
      case rel=>exact⟨k+1,_,qg,qm,HO.o,HRE.o,jl.o⟩
      case measure=>simp[intOf];omega
     ·have ct:=Ab (Ug (g:=qx sF.R) HFK.o)
      have rv:Rc wE vi sF.R:=by
       have h:=di.o.rcs;rw[←ERN.o]at h;exact h.rowW (λi hi=>((Ph ke.o).2.2 i hi).1)
      obtain⟨rb,ro,ero,ca',cc',zh,B7,B2,us2,d1,d2,d3,r1,cu,r2,r3⟩:=rv k qey;obtain⟨-,ib,gu⟩:=(Ph ke.o).2.2 k qey;subst ero;clear rv n0 n1 n2 nf;have H9:rb<wE.heap.size:=World.block_lt_of_cell? _ _ d1;rw[eOb]at H9;obtain⟨r,er⟩:=Aj (qx sF.R k);have ER:=Ab er;rw[er]at d1 d2 d3 r1 cu r2 r3 ib gu;clear er;obtain⟨U,eU⟩:=Aj wr.drew;have be:Bw wr U:=qan;have V8:=bt fu.o be;have kh:=Ab (jl.o.trans (be.mono (zo (Ag HO.o))));have N7:=Ab (Qp ca' cc' _ r.code r.looks us2 r.out U (r1.bl V8) (Ad r2 V8) r3 cu ib gu);have br:Hd (U.heap[Ob]?=M (O #[I m,nS,J me l l8] 35 (0,0))∧U.heap[Nb]?=M (O #[I m,J (p_ g) zg p,J (M ⟨rb,ro,N⟩) rqn rj] 35 (0,0))∧U.cell? ⟨rb,ro+k*3,N⟩=M (J ca' r.code.length cc')∧U.cell? ⟨rb,ro+k*3+1,N⟩=M (J zh r.looks.length B7)∧U.cell? ⟨rb,ro+k*3+2,N⟩=M (S r.out)):=⟨Ac be HO.o,Ac be HNr.o,Aa V8 d1,Aa V8 d2,Aa V8 d3⟩;have HWU:=Ab (HW1.o.bl be);have hOU:=Ag br.o.1;obtain⟨n0,n1,n2,nf⟩:=Ci HNr.o;clear d1 d2 d3 r1 r2 r3 cu be V8 HO HNr HW1 jl;obtain⟨kn,ekn⟩:=Aj r.code.length;obtain⟨ln,eln⟩:=Aj r.looks.length;obtain⟨ot,eot⟩:=Aj r.out;rw[ekn,eln,eot]at N7 br;have EKN:=Ab ekn;have ELN:=Ab eln;have EOT:=Ab eot;clear ekn eln eot ib gu;go_wp2_with fail;clear n0 n1 n2 nf hcv;refine Lt.begin 11 (λw'=>w'.heap[Ob]?=M (O #[I m,nS,J me l l8] 35 (0,0))∧w'.heap[Nb]?=M (O #[I m,J (p_ g) zg p,J (M ⟨rb,ro,N⟩) rqn rj] 35 (0,0))∧w'.cell? ⟨rb,ro+k*3,N⟩=M (J ca' kn cc')∧w'.cell? ⟨rb,ro+k*3+1,N⟩=M (J zh ln B7)∧w'.cell? ⟨rb,ro+k*3+2,N⟩=M (S ot)) qk ?_;rw[eU];clear eU;change K 0 _
      iterate 7
       refine Lt.ti (v:=?_) br.o ?_ ?_;rotate_left 1
       ·rintro w ⟨s1,s2,s3,s4,s5⟩
        obtain⟨p0,p1,p2,-⟩:=Ci s1;obtain⟨q0,q1,q2,-⟩:=Ci s2;exact qae
       simp only[gX]
      refine Lt.sp (i:=7) (λK hK=>?_);go_simp;refine N7.o.mono ?_;rintro e w6 ⟨bj,gc,pc,gd,pd,rfl,hoc,hod⟩;rw[EKN.o]at hoc;rw[ELN.o]at hod;have fl:Hd (w6.heap[Ob]?=M (O #[I m,nS,J me l l8] 35 (0,0))∧w6.heap[Nb]?=M (O #[I m,J (p_ g) zg p,J (M ⟨rb,ro,N⟩) rqn rj] 35 (0,0))∧w6.cell? ⟨rb,ro+k*3,N⟩=M (J ca' kn cc')∧w6.cell? ⟨rb,ro+k*3+1,N⟩=M (J zh ln B7)∧w6.cell? ⟨rb,ro+k*3+2,N⟩=M (S ot)):=⟨Ac bj br.o.1,Ac bj br.o.2.1,Aa bj br.o.2.2.1,Aa bj br.o.2.2.2.1,Aa bj br.o.2.2.2.2⟩;have ni:=Ab (kh.o.trans (bj.mono qg));have ye:=Ab (HWU.o.bl bj);have xu:=bj.size;rw[EKN.o,ELN.o];refine hK.out _ _ (λ_=>fl.o) (λ_=>?_);clear hK K bj N7 kh br
      try simp only[gX]
      obtain⟨w7,e7⟩:=Aj (w6.alloc (O #[J (p_ gc) kn pc,J (p_ gd) ln pd,S ot] 73));have bo:Bw w6 w7:=qhk;(have O0:Hd (w7.heap[w6.heap.size]?=M (O #[J (p_ gc) kn pc,J (p_ gd) ln pd,S ot] 73 (0,0))):=by show _=_;rw[←e7];exact Fg _ _);have my:Hd (w7.heap[Ob]?=M (O #[I m,nS,J me l l8] 35 (0,0))∧w7.heap[Nb]?=M (O #[I m,J (p_ g) zg p,J (M ⟨rb,ro,N⟩) rqn rj] 35 (0,0))∧w7.cell? ⟨rb,ro+k*3,N⟩=M (J ca' kn cc')∧w7.cell? ⟨rb,ro+k*3+1,N⟩=M (J zh ln B7)∧w7.cell? ⟨rb,ro+k*3+2,N⟩=M (S ot)):=⟨Ac bo fl.o.1,Ac bo fl.o.2.1,Aa bo fl.o.2.2.1,Aa bo fl.o.2.2.2.1,Aa bo fl.o.2.2.2.2⟩;have t8:=Ab (ni.o.trans (bo.mono qg));have HW7:=Ab (ye.o.bl bo);have HC7:=Ab (Ad hoc bo);have O4:=Ab (Ad hod bo);have hs7:=bo.size;refine Lt.sp (i:=8) (λK hK=>?_);go_simp
      try rw[e7]
      refine hK.out _ _ (λ_=>my.o) (λ_=>?_);clear hK K bo e7 hoc hod fl ni ye
      try simp only[gX]
      have mg:=HW7.o.row;rw[EL.o]at mg;(have hn9:∀b,b<Ob+1→(Value.slice me l l8).ownBlock≠M b:=λb hb e=>by have:=(mg.lt b e).1;omega);refine Lt.sp (i:=9) (λK hK=>?_);refine Uv rfl qt (Ob+1) (J me l l8) l xw qt mg w6.heap.size (J (p_ gc) kn pc) (J (p_ gd) ln pd) (S ot) qt O0.o (by intro u hu;simp at hu;rcases hu with rfl|rfl|rfl<;>rfl) qg qg ?_;intro g9 p9 w9 E3 gp hlie9;(have F0:∀ {b j:X} {v:Z},b<Ob+1→w7.cell? ⟨b,j,N⟩=M v→w9.cell? ⟨b,j,N⟩=M v:=fun {b j v} hb hc=>by rw[←hc];exact Ce (gp.block b qg (λe=>hn9 b hb e.symm)));have mw:Hd (w9.heap[Ob]?=M (O #[I m,nS,J me l l8] 35 (0,0))∧w9.heap[Nb]?=M (O #[I m,J (p_ g) zg p,J (M ⟨rb,ro,N⟩) rqn rj] 35 (0,0))∧w9.cell? ⟨rb,ro+k*3,N⟩=M (J ca' kn cc')∧w9.cell? ⟨rb,ro+k*3+1,N⟩=M (J zh ln B7)∧w9.cell? ⟨rb,ro+k*3+2,N⟩=M (S ot)):=⟨Bh my.o.1 gp (hn9 Ob qg),Bh my.o.2.1 gp (hn9 Nb qg),F0 qg my.o.2.2.1,F0 qg my.o.2.2.2.1,F0 qg my.o.2.2.2.2⟩;have Y7:=Ab (t8.o.grown gp qg (λj hj=>by have:=(mg.lt j hj).1;omega))
      have G1:Hd (Eo w9 (Ob+1) (J (p_ g9) (l+1) p9) (Gk f (qx sF.R) k++[r])):=by
       refine HW7.o.addW (c:=J (p_ gc) kn pc) (d:=J (p_ gd) ln pd) (rec:=r) gp (by rw[EL.o,EOT.o];exact E3) (by rw[EKN.o];exact Ah HC7.o qg) (Iz _) (by rw[ELN.o];exact Ah O4.o qg) (Nm _) (λi hi b e1 e2=>?_) (λi hi b e1 e2=>?_)
       ·obtain⟨ys',a,_⟩:=HWU.o.code i hi
        have h1:=(a.lt b e1).2;have h2:=(HC7.o.lt b e2).1;omega
       ·obtain⟨ys',a,_⟩:=HWU.o.look i hi
        have h1:=(a.lt b e1).2;have h2:=(O4.o.lt b e2).1;omega
      refine hK.out _ _ (λ_=>mw.o) (λ_=>?_);clear hK K gp E3 hlie9 my t8 HW7 HC7 O4 mg hn9 F0 HWU O0;simp only[gX];change K 10 _
      iterate 1
       refine Lt.ti (v:=?_) mw.o ?_ ?_;rotate_left 1
       ·rintro w ⟨s1,s2,s3,s4,s5⟩
        exact qae
       simp only[gX]
      obtain⟨o0,o1,o2,of⟩:=Ci mw.o.1;refine Lt.sp (i:=11) (λK hK=>?_);go_simp;refine hK.out _ _ (λh=>absurd rfl h) (λ_=>?_);clear hK K o0 o1 o2 of;refine Lt.done qk ?_ _;have HOZ:=Ab (setC_at mw.o.1 (J (p_ g9) (l+1) p9));(have HRZ:Hd (Eo (w9.setCell ⟨Ob,2,N⟩ (J (p_ g9) (l+1) p9)) (Ob+1) (J (p_ g9) (l+1) p9) (Gk f (qx sF.R) (k+1))):=by rw[ct.o,ER.o];exact G1.o.setT ⟨_,mw.o.1⟩ _);have HBZ:=Ab (Y7.o.setCell (p:=⟨Ob,2,N⟩) (Nat.le_refl _) (J (p_ g9) (l+1) p9));go_wp2;go_roundw
      case rel=>exact⟨k+1,_,qg,qm,HOZ.o,HRZ.o,HBZ.o⟩
      case measure=>simp[intOf];omega
    ·have fs:¬ (k:Int)<(rqn:Int):=qg
     have xx:k=rqn:=qg;rw[xx]at HW1 EL;(have EQ:Gk f (qx sF.R) rqn=Gm sF.us sF.R:=by unfold Gm;rw[EF.o,ERN.o]);obtain⟨Q,eQ⟩:=Aj (Gm sF.us sF.R);have HPS:=Ab (Vg ke.o hm8 sF.us);rw[EQ,eQ]at HW1 EL;rw[eQ]at HPS rd;replace rd:=Ab rd;clear eQ EQ D2 HM;go_wp2;clear n0 n1 n2 nf
     go_loopw [16] (λi wq=>∃(k:X)(q1:Z),k≤zg∧i=I k∧Hd (wq.heap[Ob]?=M (O #[I m,q1,J me l l8] 35 (0,0)))∧Hd (Dv wq (Ob+1) (J me l l8) Q xw cw lw)∧Hd (wq.ownsRow (Ob+1) 9 1 q1 (Gk (Ht m sF.T Q) (nx sF.T) k).length (Ar (Gk (Ht m sF.T Q) (nx sF.T) k)))∧Hd (Below Ob wE wq)) (λi _=>zg-(intOf i).toNat)
     case atStart=>exact⟨0,_,Nat.zero_le _,rfl,HO.o,HW1.o,Ff _ _,jl.o⟩
     case round=>
      clear HO HW1 jl fu HNr;obtain⟨k,q1,hk,rfl,HO,HW,A4,jl⟩:=hrel;(have fu:Hd (Bw wE wr):=by have q:=jl.o;rw[←eOb]at q;exact q);obtain⟨P2,P0,rfl⟩:=Al A4.o;obtain⟨tl,etl⟩:=Aj ((Gk (Ht m sF.T Q) (nx sF.T) k).length);have ETL:=Ab etl;(have htl:tl≤k:=by rw[←etl];exact Gx _ _ _);rw[etl]at HO A4;clear etl;have HNr:=Ab (Ac fu.o HN.o);obtain⟨n0,n1,n2,nf⟩:=Ci HNr.o
      by_cases ai:k<zg
      ·have fs:(k:Int)<(zg:Int):=qg
       obtain⟨tb2,to2,etb,hct⟩:=str_at (Ad (by have h:=di.o.txt;rw[ETN.o]at h;exact h) fu.o) ETN.o ai;cases etb;rw[Nat.zero_add]at hct;have ue:(nx sF.T k).size≤1048576:=zo (ke.o.1.2.1 k (by rw[ETN.o];exact ai));obtain⟨x,ex⟩:=Aj (nx sF.T k);have EX:=Ab ex;rw[ex]at hct ue;clear ex;obtain⟨sm,esm⟩:=Aj (Ap m x);(have ly:Hd (∀V:E,Calls prog 27 #[S x,I m] V λe w'=>e=H (S sm)∧Bw V w'):=λV=>by rw[←esm];exact Ex x m V ue sd hm8);have ESM:=Ab esm;clear esm ue;obtain⟨U,eU⟩:=Aj wr.drew;have be:Bw wr U:=qan;have hOr:=Ag HO.o;have kh:=Ab (jl.o.trans (be.mono qg));have br:Hd (U.heap[Ob]?=M (O #[I m,J P2 tl P0,J me l l8] 35 (0,0))∧U.heap[Nb]?=M (O #[I m,J (p_ g) zg p,J vi rqn rj] 35 (0,0))∧U.cell? ⟨g,k,N⟩=M (S x)∧U.cell? ⟨w.heap.size,0,N⟩=M (I m)):=⟨Ac be HO.o,Ac be HNr.o,Aa be hct,Aa be (Aa fu.o (Ci HQr.o).1)⟩;have HWU:=Ab (HW.o.bl be);have R7:=Ab (Ad A4.o be);clear be HO HW A4 jl fu HNr hct;go_wp2_with fail;clear n0 n1 n2 nf;refine Lt.begin 99 (λw'=>w'.heap[Ob]?=M (O #[I m,J P2 tl P0,J me l l8] 35 (0,0))∧w'.heap[Nb]?=M (O #[I m,J (p_ g) zg p,J vi rqn rj] 35 (0,0))∧w'.cell? ⟨g,k,N⟩=M (S x)∧w'.cell? ⟨w.heap.size,0,N⟩=M (I m)) qk ?_;rw[eU];clear eU;change K 0 _
       iterate 9
        refine Lt.ti (v:=?_) br.o ?_ ?_;rotate_left 1
        ·exact qlc
        simp only[gX]
       refine Lt.sp (i:=9) (λK hK=>?_);go_simp;refine(ly.o U).mono ?_;rintro e w6 ⟨rfl,bj⟩;have fl:Hd (w6.heap[Ob]?=M (O #[I m,J P2 tl P0,J me l l8] 35 (0,0))∧w6.heap[Nb]?=M (O #[I m,J (p_ g) zg p,J vi rqn rj] 35 (0,0))∧w6.cell? ⟨g,k,N⟩=M (S x)∧w6.cell? ⟨w.heap.size,0,N⟩=M (I m)):=⟨Ac bj br.o.1,Ac bj br.o.2.1,Aa bj br.o.2.2.1,Aa bj br.o.2.2.2⟩;have hOU:=Ag br.o.1;have ni:=Ab (kh.o.trans (bj.mono qg));have ye:=Ab (HWU.o.bl bj);have HT6:=Ab (Ad R7.o bj)
       have HND:Hd (Calls prog 26 #[J me l l8,S sm] w6 λe w'=>w6=w'∧∃b,e=H (F b)∧(b=true↔Qk Q sm)):=by
        obtain⟨a',c',e',hq'⟩:=ye.o.rowQ;(obtain⟨rfl,e2,rfl⟩:me=a'∧l=Q.length∧l8=c':=by simpa using e');rw[e2];exact l6Needed_any me l8 Q sm w6 hq' HPS.o.1
       refine hK.out _ _ (λ_=>fl.o) (λ_=>?_);clear hK K bj ly kh HWU R7 br
       try simp only[gX]
       refine Lt.sp (i:=10) (λK hK=>?_);go_simp;refine HND.o.mono ?_;rintro e w7 ⟨rfl,b,rfl,hbq⟩
       have HBQ:Hd (Ht m sF.T Q k=b):=by
        show _=_;(have h1:Ht m sF.T Q k=true↔Qk Q sm:=by rw[Rf,EX.o,ESM.o]);cases b
        ·cases h2:Ht m sF.T Q k
         ·rfl
         ·have:=hbq.2 (h1.1 h2);cases this
        ·exact h1.2 (hbq.1 rfl)
       refine hK.out _ _ (λ_=>fl.o) (λ_=>?_);clear hK K hbq HND
       try simp only[gX]
       refine Lt.done qk ?_ _;cases b
       ·have HSN:=Ab (Qah (g:=nx sF.T) HBQ.o)
        (have HTN:Hd (w6.ownsRow (Ob+1) 9 1 (J P2 tl P0) (Gk (Ht m sF.T Q) (nx sF.T) (k+1)).length (Ar (Gk (Ht m sF.T Q) (nx sF.T) (k+1)))):=by rw[HSN.o,ETL.o];exact HT6.o);go_wp2;go_roundw
        case rel=>exact⟨k+1,_,qg,qm,fl.o.1,ye.o,HTN.o,ni.o⟩
        case measure=>simp[intOf];omega
       ·have HSN:=Ab (Ug (g:=nx sF.T) HBQ.o)
        go_wp2_with fail;obtain⟨U,eU⟩:=Aj w6.drew;have be:Bw w6 U:=qan;have hO6:=Ag fl.o.1;have kh:=Ab (ni.o.trans (be.mono qg));have br:Hd (U.heap[Ob]?=M (O #[I m,J P2 tl P0,J me l l8] 35 (0,0))∧U.heap[Nb]?=M (O #[I m,J (p_ g) zg p,J vi rqn rj] 35 (0,0))∧U.cell? ⟨g,k,N⟩=M (S x)∧U.cell? ⟨w.heap.size,0,N⟩=M (I m)):=⟨Ac be fl.o.1,Ac be fl.o.2.1,Aa be fl.o.2.2.1,Aa be fl.o.2.2.2⟩;have HWU:=Ab (ye.o.bl be);have R7:=Ab (Ad HT6.o be);have hOU2:=Ag br.o.1;clear be fl ye HT6 ni;refine Lt.begin 10 (λw'=>w'.heap[Ob]?=M (O #[I m,J P2 tl P0,J me l l8] 35 (0,0))∧w'.heap[Nb]?=M (O #[I m,J (p_ g) zg p,J vi rqn rj] 35 (0,0))∧w'.cell? ⟨g,k,N⟩=M (S x)∧w'.cell? ⟨w.heap.size,0,N⟩=M (I m)) qk ?_;rw[eU];clear eU;change K 0 _
        iterate 7
         refine Lt.ti (v:=?_) br.o ?_ ?_;rotate_left 1
         ·exact qlc
         simp only[gX]
        obtain⟨w7,e7⟩:=Aj (U.alloc (O #[S x] 9));have bo:Bw U w7:=qhk;(have O0:Hd (w7.heap[U.heap.size]?=M (O #[S x] 9 (0,0))):=by show _=_;rw[←e7];exact Fg _ _);have my:Hd (w7.heap[Ob]?=M (O #[I m,J P2 tl P0,J me l l8] 35 (0,0))∧w7.heap[Nb]?=M (O #[I m,J (p_ g) zg p,J vi rqn rj] 35 (0,0))∧w7.cell? ⟨g,k,N⟩=M (S x)∧w7.cell? ⟨w.heap.size,0,N⟩=M (I m)):=⟨Ac bo br.o.1,Ac bo br.o.2.1,Aa bo br.o.2.2.1,Aa bo br.o.2.2.2⟩;have t8:=Ab (kh.o.trans (bo.mono qg));have HW7:=Ab (HWU.o.bl bo);have mg:=Ad R7.o bo;have hs7:=bo.size;refine Lt.sp (i:=7) (λK hK=>?_);go_simp
        try rw[e7]
        refine hK.out _ _ (λ_=>my.o) (λ_=>?_);clear hK K bo e7 br kh HWU R7
        try simp only[gX]
        (have hn9:∀b,b<Ob+1→(Value.slice P2 tl P0).ownBlock≠M b:=λb hb e=>by have:=(mg.lt b e).1;omega);refine Lt.sp (i:=8) (λK hK=>?_);refine Nz rfl qt (Ob+1) P2 tl P0 _ qt mg U.heap.size x qt O0.o qg qg ?_;intro g9 p9 w9 E3 gp hlie9
        have hgl:g<Ob+1:=by
         have h1:=di.o.txt.lt g rfl;rw[eOb]at h1;omega
        (have F0:∀ {b j:X} {v:Z},b<Ob+1→w7.cell? ⟨b,j,N⟩=M v→w9.cell? ⟨b,j,N⟩=M v:=fun {b j v} hb hc=>by rw[←hc];exact Ce (gp.block b qg (λe=>hn9 b hb e.symm)));have mw:Hd (w9.heap[Ob]?=M (O #[I m,J P2 tl P0,J me l l8] 35 (0,0))∧w9.heap[Nb]?=M (O #[I m,J (p_ g) zg p,J vi rqn rj] 35 (0,0))∧w9.cell? ⟨g,k,N⟩=M (S x)∧w9.cell? ⟨w.heap.size,0,N⟩=M (I m)):=⟨Bh my.o.1 gp (hn9 Ob qg),Bh my.o.2.1 gp (hn9 Nb qg),F0 hgl my.o.2.2.1,F0 qg my.o.2.2.2⟩;have Y7:=Ab (t8.o.grown gp qg (λj hj=>by have:=(mg.lt j hj).1;omega));have HW9:=Ab (HW7.o.grown9 mg gp);have HT9:=Ab E3;refine hK.out _ _ (λ_=>mw.o) (λ_=>?_);clear hK K gp E3 hlie9 my t8 HW7 mg hn9 F0 O0 hgl;simp only[gX];change K 9 _
        iterate 1
         refine Lt.ti (v:=?_) mw.o ?_ ?_;rotate_left 1
         ·rintro w ⟨s1,s2,s3,s4⟩
          exact qae
         simp only[gX]
        obtain⟨o0,o1,o2,of⟩:=Ci mw.o.1;refine Lt.sp (i:=10) (λK hK=>?_);go_simp;refine hK.out _ _ (λh=>absurd rfl h) (λ_=>?_);clear hK K o0 o1 o2 of;refine Lt.done qk ?_ _;have HOZ:=Ab (setB_at mw.o.1 (J (p_ g9) (tl+1) p9))
        have HTZ:Hd ((w9.setCell ⟨Ob,1,N⟩ (J (p_ g9) (tl+1) p9)).ownsRow (Ob+1) 9 1 (J (p_ g9) (tl+1) p9) (Gk (Ht m sF.T Q) (nx sF.T) (k+1)).length (Ar (Gk (Ht m sF.T Q) (nx sF.T) (k+1)))):=by
         rw[HSN.o,EX.o,List.length_append,ETL.o,show ∀l:L By,Ar (l++[x])=Ar l++[S x] from λl=>qal];exact Ak HT9.o ⟨_,mw.o.1⟩ qh _
        have HWZ:=Ab (HW9.o.setT (j:=1) ⟨_,mw.o.1⟩ (J (p_ g9) (tl+1) p9));have HBZ:=Ab (Y7.o.setCell (p:=⟨Ob,1,N⟩) (Nat.le_refl _) (J (p_ g9) (tl+1) p9));go_wp2;go_roundw
        case rel=>exact⟨k+1,_,qg,qm,HOZ.o,HWZ.o,HTZ.o,HBZ.o⟩
        case measure=>simp[intOf];omega
      ·have fs:¬ (k:Int)<(zg:Int):=qg
       have hkq2:k=zg:=qg;have oa:=Ab (Ac fu.o HZr.o);have B6:=Ab (py.o.trans (fu.o.mono py.o.size))
       have up:Hd (SW wr w.heap.size (Iw m sF.T Q) Q (J P2 tl P0) (J me l l8) xw cw lw):=by
        have h2:=A4.o;rw[hkq2]at h2 ETL;(have hv2:wr.ownsRow (Ob+1) 9 1 (J P2 tl P0) (Iw m sF.T Q).length (Ar (Iw m sF.T Q)):=by unfold Iw;rw[ETN.o,ETL.o];exact h2);have h1:=HW.o;exact⟨Ah hv2 qg,⟨Ah h1.row qg,h1.fil,λi hi=>by obtain⟨ys',a,b⟩:=h1.code i hi;exact⟨ys',Ah a qg,b⟩,λi hi=>by obtain⟨ys',a,b⟩:=h1.look i hi;exact⟨ys',Ah a qg,b⟩,h1.apc,h1.apl⟩⟩
       obtain⟨o0,o1,o2,of⟩:=Ci HO.o;obtain⟨z0,z1,z2,zf⟩:=Ci oa.o;clear jl fu;go_wp2_with fail;obtain⟨y0,y1,y2,-⟩:=Ci (Ba oa.o (I m) (J P2 tl P0) (J me l l8));refine bR (v:=.tuple #[G #[I m,J P2 tl P0,J me l l8],I 0]) (by simp only[results,results7,go_sem];simp[go_sem,y0,y1,y2]) rfl ⟨Co B6.o qg _ _ _,_,rfl,m,_,Q,0,_,_,_,_,_,rfl,rd.o,up.o.set3 ⟨_,oa.o⟩ _ _ _⟩
theorem Mr.rows{hi:X}{v:Z}(h:Mr w lo hi v ts xs cv):Ey w lo hi v ts.length (λi=>(tx ts i).code.length) xs cv:=
 ⟨h.row,λi hi=>(h.fil i hi).2,λi hi=>by obtain⟨ys,h1,_⟩:=h.code i hi;exact⟨ys,h1⟩,λi j hi hj hne b e1 e2=>by
  rcases Nat.lt_or_gt_of_ne hne with h1|h1
  ·exact h.apart i j h1 hj b e1 e2
  ·exact h.apart j i h1 hi b e2 e1⟩
theorem Dv.keptB{v:Z}(h:Dv w lo v R zs kv lv)(h1:∀b,v.ownBlock=M b→w'.heap[b]?=w.heap[b]?)(h2:∀i,i<R.length→∀b,(kv i).ownBlock=M b→w'.heap[b]?=w.heap[b]?)(h3:∀i,i<R.length→∀b,(lv i).ownBlock=M b→w'.heap[b]?=w.heap[b]?):Dv w' lo v R zs kv lv:=
 ⟨An h.row h1,h.fil,λi hi=>by obtain⟨ys,a,b⟩:=h.code i hi;exact⟨ys,An a (h2 i hi),b⟩,λi hi=>by obtain⟨ys,a,b⟩:=h.look i hi;exact⟨ys,An a (h3 i hi),b⟩,h.apc,h.apl⟩
theorem Dv.rowsT{w8:E}{v:Z}(h:Dv w lo v R zs kv lv)(k:Dv w8 lo v R zs kv lv):Di w lo w8.heap.size v R.length (λi=>(qx R i).code.length) (λi=>(qx R i).looks.length) zs kv lv:=
 ⟨⟨h.row,λb e=>(k.row.lt b e).2⟩,λi hi=>(h.fil i hi).1,λi hi=>(h.fil i hi).2.1,λi hi=>by obtain⟨ys,h1,_⟩:=h.code i hi;obtain⟨_,k1,_⟩:=k.code i hi;exact⟨ys,h1,λb e=>(k1.lt b e).2⟩,λi hi=>by obtain⟨ys,h1,_⟩:=h.look i hi;obtain⟨_,k1,_⟩:=k.look i hi;exact⟨ys,h1,λb e=>(k1.lt b e).2⟩,λi j hi hj hne b e1 e2=>by
  rcases Nat.lt_or_gt_of_ne hne with h1|h1
  ·exact h.apc i j h1 hj b e1 e2
  ·exact h.apc j i h1 hi b e2 e1,λi j hi hj hne b e1 e2=>by
  rcases Nat.lt_or_gt_of_ne hne with h1|h1
  ·exact h.apl i j h1 hj b e1 e2
  ·exact h.apl j i h1 hi b e2 e1⟩
theorem kR1_le(hT:T.length≤1048576)(hR:Ec R):kR (λi=>(qx R i).code.length) (λi=>(qx R i).looks.length) (1+T.length) R.length≤100000000000000:=by
 have h1:=kR_bound (λi=>(qx R i).code.length) (λi=>(qx R i).looks.length) (1+T.length) R.length hR.2;have h2:=hR.1;omega
theorem kT1_le{tp:L T2}{K:X}(hs:Ep ss tp)(hK:K≤100000000000000):kT (λi=>(tx tp i).code.length) (K+2*ss.length) tp.length≤800000000000000:=by
 have h1:=kT_bound (λi=>(tx tp i).code.length) (K+2*ss.length) tp.length hs.lc;have h2:=hs.ls;have h3:=hs.lt;omega
theorem SW.base{tx:Z}(h:SW w lo T R tx qv zs kv lv)(hl:lo'≤lo):SW w lo' T R tx qv zs kv lv:=
 ⟨Ah h.txs hl,Ah h.rq.row hl,h.rq.fil,λi hi=>by obtain⟨ys,a,b⟩:=h.rq.code i hi;exact⟨ys,Ah a hl,b⟩,λi hi=>by obtain⟨ys,a,b⟩:=h.rq.look i hi;exact⟨ys,Ah a hl,b⟩,h.rq.apc,h.rq.apl⟩
theorem SW.keepGe{tx:Z}(h:SW w lo T R tx qv zs kv lv)(hk:∀b,lo≤b→b<w.heap.size→w'.heap[b]?=w.heap[b]?):SW w' lo T R tx qv zs kv lv:=
 ⟨An h.txs λb q=>hk b (h.txs.lt b q).1 (h.txs.lt b q).2,h.rq.keptB (λb q=>hk b (h.rq.row.lt b q).1 (h.rq.row.lt b q).2) (λi hi b q=>by obtain⟨ys,a,_⟩:=h.rq.code i hi;exact hk b (a.lt b q).1 (a.lt b q).2) (λi hi b q=>by obtain⟨ys,a,_⟩:=h.rq.look i hi;exact hk b (a.lt b q).1 (a.lt b q).2)⟩
theorem SW.keepLt{w3:E}{tx:Z}(h:SW w lo T R tx qv zs kv lv)(k:SW w3 lo T R tx qv zs kv lv)(hk:∀b,b<w3.heap.size→w'.heap[b]?=w.heap[b]?):SW w' lo T R tx qv zs kv lv:=
 ⟨An h.txs λb q=>hk b (k.txs.lt b q).2,h.rq.keptB (λb q=>hk b (k.rq.row.lt b q).2) (λi hi b q=>by obtain⟨ys,a,_⟩:=k.rq.code i hi;exact hk b (a.lt b q).2) (λi hi b q=>by obtain⟨ys,a,_⟩:=k.rq.look i hi;exact hk b (a.lt b q).2)⟩
theorem SW.eq{ta ur qa vi:Option Addr}{tn tc P1 qn qc rj:X}{zs':L Z}{kv' lv':X→Z}(h:SW w lo T R (J ta tn tc) (J qa qn qc) zs kv lv)(k:SW w lo' T R (J ur tn P1) (J vi qn rj) zs' kv' lv')(hT:T.length≤1048576∧Ec R)(n:Int):Calls prog 12 #[G #[I n,J ta tn tc,J qa qn qc],G #[I n,J ur tn P1,J vi qn rj]] w λe w'=>Bw w w'∧e=H (F true):=by
 obtain⟨a1,c1,e1,s1⟩:=Rj h.txs;obtain⟨a2,c2,e2,s2⟩:=Rj k.txs;obtain⟨a3,c3,e3,s3⟩:=h.rq.rowQ;obtain⟨a4,c4,e4,s4⟩:=k.rq.rowQ
 cases e1;cases e2;cases e3;cases e4
 exact Qx n _ _ _ _ _ _ _ _ T R w s1 s2 s3 s4 hT.1 hT.2
theorem Lt.tw{P:Program}{ops:Array Oper}{Q:Exit->Act->E->Prop}{AC:E->Prop}{z j:X}{oi oj:Oper}{l:Array Bool}{a:Act}(h1:∀K:Act->E->Prop,Shut (∀a w,(i≠z->AC w)->((i≠z->AC w)->Lt P ops Q AC z n (l.setIfInBounds i true) a w)->K a w)->if Region.wanted oi (yielded ops a.tmps)=true then Oper.wp P oi a w K Q else K (a.put oi.dst undef) w)(h2:∀K:Act->E->Prop,Shut (∀a w,(j≠z->AC w)->((j≠z->AC w)->Lt P ops Q AC z n (l.setIfInBounds j true) a w)->K a w)->if Region.wanted oj (yielded ops a.tmps)=true then Oper.wp P oj a w K Q else K (a.put oj.dst undef) w)(hi:ops.toList[i]?=M oi:=by rfl)(hj:ops.toList[j]?=M oj:=by rfl)(hr:Region.ready .any ops l=[i,j]:=by kernel_rfl):Lt P ops Q AC z (n+1) l a w:=Lt.two hr (Array.getElem?_toList.symm.trans hi) (Array.getElem?_toList.symm.trans hj) h1 h2
section
variable {w0:E} {ta ra sa ua na:Option Addr} {T:L By} {R:L T3} {ss:L S2} {tp:L T2} {xs:L By} {n:Int} {V:E} {lo hi lo' hi' lo2 hi2 g1 tc:X} {v2 u1 u2 v3:Z}
theorem Qaa(h:LawL w0 ta ra sa ua na T R ss tp xs)(o1:Ds V lo hi (J (p_ g1) T.length tc) T)(o2:Ko V lo hi v2 R)(s1:Jj V lo' hi' u1 ss)(s2:Je V lo' hi' u2 tp)(o3:Ds V lo2 hi2 v3 xs):Calls prog 7 #[G #[I n,J (p_ g1) T.length tc,v2],G #[u1,u2],v3] V λe w'=>Bw V w'∧∃v,e=H v∧TrO V.heap.size n ss tp T R xs v w':=by
 obtain⟨a2,p2,rfl,rz,rw_⟩:=o2.sl;obtain⟨a3,p3,rfl,r3⟩:=s1.sl;obtain⟨a4,p4,rfl,r4⟩:=s2.sl;obtain⟨a5,p5,rfl,r5⟩:=o3.sl;exact Zz n g1 tc p5 a5 xs a2 a3 a4 p2 p3 p4 T R ss tp V (h.stIn o1 rz.row) rw_ h.qs.1 h.qs.2 (h.sp.move r3 r4) h.sm h.nl r5 h.nn
theorem Uj(h:LawL w0 ta ra sa ua na T R ss tp xs)(hT:Mv V)(hP:Pg V)(o1:Ds V lo hi (J (p_ g1) T.length tc) T)(o2:Ko V lo hi v2 R)(s1:Jj V lo' hi' u1 ss)(s2:Je V lo' hi' u2 tp)(o3:Ds V lo2 hi2 v3 xs):Calls prog 11 #[G #[I n,J (p_ g1) T.length tc,v2],G #[u1,u2],v3] V λe w'=>Bw V w'∧∃v,e=H v∧TrO V.heap.size n ss tp T R xs v w':=by
 obtain⟨a2,p2,rfl,rz,rw_⟩:=o2.sl;obtain⟨a3,p3,rfl,r3⟩:=s1.sl;obtain⟨a4,p4,rfl,r4⟩:=s2.sl;obtain⟨a5,p5,rfl,r5⟩:=o3.sl;exact implTrim_any n g1 0 tc p5 a5 a2 a3 a4 p2 p3 p4 T R ss tp xs V ⟨hT,hP,h.stIn o1 rz.row,rz,h.qs.1,h.qs.2,h.sp.move r3 r4,h.sm,h.nl,r5,h.nn⟩
end
theorem trimLaw(n:Int)(ta ra sa ua na:Option Addr)(tc rc c1 c2 xc:X)(T:L By)(R:L T3)(ss:L S2)(tp:L T2)(xs:L By)(w:E)(hT:Mv w)(hP:Pg w)(h:SoOk w ta T ra R)(hs:Li w sa ss ua tp)(ue:Cu w na xs)(lq:xs.length≤maxLen)(P7:∀s∈xs,s.size≤maxLen):Calls prog 3 #[G #[I n,J ta T.length tc,J ra R.length rc],G #[J sa ss.length c1,J ua tp.length c2],J na xs.length xc] w λe w'=>e=H (F true)∧Bw w w':=by
 obtain⟨W,eW⟩:=Aj ((w.alloc (O #[I n,J ta T.length tc,J ra R.length rc] 25)).alloc (O #[J sa ss.length c1,J ua tp.length c2] 29));have cj:Bw w W:=by rw[←eW];exact Ay (Ai _ _) (Ai _ _)
 have HA:Hd (W.heap[w.heap.size]?=M (O #[I n,J ta T.length tc,J ra R.length rc] 25 (0,0))):=qhd
 have HS:Hd (W.heap[w.heap.size+1]?=M (O #[J sa ss.length c1,J ua tp.length c2] 29 (0,0))):=by
  show _=_;rw[←eW];have:=Fg (w.alloc (O #[I n,J ta T.length tc,J ra R.length rc] 25)) (O #[J sa ss.length c1,J ua tp.length c2] 29)
  rwa [show(w.alloc (O #[I n,J ta T.length tc,J ra R.length rc] 25)).heap.size=w.heap.size+1 from qi]at this
 have HT:=Ab hT;have HP:=Ab hP;have R9:=Ab h;have HSP:=Ab hs;have HB:=Ab cj;have HXS:=Ab ue
 have U3:∀i,(nx xs i).size≤9223372036854775807:=λi=>by
  have h1:(nx xs i).size≤maxLen:=by
   unfold nx;rw[gG]
   rcases Nat.lt_or_ge i xs.length with q|q
   ·rw[Hq q];exact P7 _ (List.getElem_mem q)
   ·rw[List.getElem?_eq_none q];exact Nat.zero_le _
  unfold maxLen at h1;omega
 have HXN:=Ab (And.intro lq P7);obtain⟨xm,exm⟩:=Aj xs.length;have EXM:=Ab exm;have HSZ:=Ab (λ(V:E) (hV:Bw w V) (AL:Int) (h0:0≤AL) (h1:AL≤1048576)=>Ox na xc xs V (ue.bl hV) lq P7 AL h0 h1);rw[exm]at HSZ ⊢;clear hT hP h hs cj ue lq P7 exm;obtain⟨p0,p1,p2,pf⟩:=Ci HA.o;obtain⟨s0,s1⟩:=En HS.o;go_enter func3,ntmps3;go_wp2_with fail;clear eW p0 p1 p2 pf s0 s1;refine(Zs n ta ra tc rc T R 1048576 qg qg W (R9.o.bl HB.o)).mono ?_;rintro e w1 ⟨ag,r,rfl,hr⟩;replace HA:=Ab (Ac ag HA.o);replace HS:=Ab (Ac ag HS.o);replace HB:=Ab (bt HB.o ag);clear ag
 rcases hr with hr|⟨yn,nj,ai,hqs⟩
 ·exact qdz
 have mq:¬ r<0:=qg;obtain⟨s0,s1⟩:=En HS.o;go_wp2_with fail;clear s0 s1;refine(szSpace_l2 sa ua c1 c2 ss tp r yn nj w1 (HSP.o.bl HB.o)).mono ?_;rintro e w2 ⟨af,r2,rfl,xv⟩;replace HA:=Ab (Ac af HA.o);replace HS:=Ab (Ac af HS.o);replace HB:=Ab (bt HB.o af);clear af yn nj mq
 rcases xv with xv|⟨ku,yn,nj⟩
 ·exact qdz
 have hr4:¬ r2<0:=qg;go_wp2_with fail;refine(HSZ.o w2 HB.o r2 yn nj).mono ?_;rintro e w2b ⟨rfl,r3,rfl,hr5⟩
 rcases hr5 with hr5|⟨hxm,hr6,-⟩
 ·exact qdz
 have hr7:¬ r3<0:=qg;have hxl2:xs.length≤1048576:=by rw[EXM.o];omega
 have HL:=Ab (show LawL w ta ra sa ua na T R ss tp xs from ⟨R9.o,ai,hqs,HSP.o,ku,hxl2,HXS.o,U3⟩);have HTC:=Ab (λ(V:E) (hV:Bw w V)=>toNames_own na xc xs V (HXS.o.bl hV) HL.o.nl);rw[EXM.o]at HTC;clear ai hqs ku hxm HSZ
 go_upto_region 11 with fail
 have X2:=Ab (λ(V:E) (hV:Bw w V)=>My n ta ra tc rc T R V (HL.o.so.st.bl hV) (HL.o.so.rq.bl hV) HL.o.lt HL.o.qs);have Do:=Ab (λ(V:E) (hV:Bw w V)=>Mz sa ua c1 c2 ss tp V (HL.o.sp.rs.bl hV) (HL.o.sp.rt.bl hV) HL.o.sm);obtain⟨wD,eD⟩:=Aj w2.drew;have bD:Bw w2 wD:=qaf;have bh:Hd (∀V:E,Bw w2 V→V.heap[w.heap.size]?=M (O #[I n,J ta T.length tc,J ra R.length rc] 25 (0,0))∧V.heap[w.heap.size+1]?=M (O #[J sa ss.length c1,J ua tp.length c2] 29 (0,0))):=λV h=>⟨Ac h HA.o,Ac h HS.o⟩
 go_cut [8,9] (λp c wx=>∃(P:X)(wd:Int)(T':L By)(R':L T3)(cc:Int)(t1:Option Addr)(t2:X)(q1:Option Addr)(q2:X)(zs:L Z)(kv lv:X→Z),p=.pointer (p_ P)∧c=I cc∧Hd (wx.heap[P]?=M (O #[I wd,J t1 T'.length t2,J q1 R'.length q2] 35 (0,0))∧Kx n ss tp T R xs wd T' R' cc∧SW wx w2.heap.size T' R' (J t1 T'.length t2) (J q1 R'.length q2) zs kv lv∧Bw w2 wx))
 case first=>
  refine Lt.begin 99 (λw'=>w'.heap[w.heap.size]?=M (O #[I n,J ta T.length tc,J ra R.length rc] 25 (0,0))∧w'.heap[w.heap.size+1]?=M (O #[J sa ss.length c1,J ua tp.length c2] 29 (0,0))) qk ?_;rw[eD];clear eD;change K 0 _
  iterate 1
   refine Lt.ti (v:=?_) (bh.o _ bD) ?_ ?_;rotate_left 1
   ·exact qay
   simp only[gX]
  change K 2 _
  iterate 1
   refine Lt.ti (v:=?_) (bh.o _ bD) ?_ ?_;rotate_left 1
   ·exact qay
   simp only[gX]
  change K 4 _
  iterate 1
   refine Lt.ti (v:=?_) (bh.o _ bD) ?_ ?_;rotate_left 1
   ·exact qay
   simp only[gX]
  refine Lt.tw (i:=1) (j:=10) (λK hK=>?_) (λK hK=>?_)
  ·skip
   go_simp;refine(X2.o _ (bt HB.o bD)).mono ?_;rintro e wA ⟨cq,g1,v2,rfl,i6,ii⟩;obtain⟨a2,p2,rfl,-⟩:=ii.sl;have bA:=bt bD cq;refine hK.out _ _ (λ_=>bh.o _ bA) (λ_=>?_);clear hK K
   try simp only[gX]
   refine Lt.tw (i:=3) (j:=10) (λK hK=>?_) (λK hK=>?_)
   ·skip
    go_simp;refine(Do.o _ (bt HB.o bA)).mono ?_;rintro e wB ⟨gy,u1,u2,rfl,kt,ks⟩;obtain⟨a3,p3,rfl,-⟩:=kt.sl;obtain⟨a4,p4,rfl,-⟩:=ks.sl;have bB:=bt bA gy;replace i6:=i6.bl gy;replace ii:=ii.bl gy;refine hK.out _ _ (λ_=>bh.o _ bB) (λ_=>?_);clear hK K
    try simp only[gX]
    refine Lt.tw (i:=5) (j:=10) (λK hK=>?_) (λK hK=>?_)
    ·skip
     go_simp;refine(HTC.o _ (bt HB.o bB)).mono ?_;rintro e wZ ⟨li,g3,rfl,oz⟩;have bZ:=bt bB li;replace i6:=i6.bl li;replace ii:=ii.bl li;replace kt:=kt.bl li;replace ks:=ks.bl li;refine hK.out _ _ (λ_=>bh.o _ bZ) (λ_=>?_);clear hK K
     try simp only[gX]
     refine Lt.tw (i:=6) (j:=10) (λK hK=>?_) (λK hK=>?_)
     ·skip
      go_simp;refine(Qaa (n:=n) HL.o i6 ii kt ks oz).mono ?_;rintro e wC ⟨jo,v,rfl,wd,T',R',cc,tx,qv,zs,kv,lv,rfl,ww,ow⟩;have rd:=Ab ww;clear ww;obtain⟨t1,t2,rfl⟩:=Al ow.txs;obtain⟨q1,q2,rfl⟩:=Al ow.rq.row;replace ow:=ow.base (show w2.heap.size≤_ from bZ.size);have bC:=bt bZ jo;refine hK.out _ _ (λ_=>bh.o _ bC) (λ_=>?_);clear hK K
      try simp only[gX]
      clear i6 ii kt ks oz;change K 7 _
      iterate 3
       refine Lt.ti (v:=?_) (bh.o _ bC) ?_ ?_;rotate_left 1
       ·exact qay
       simp only[gX]
      refine Lt.sp (i:=10) (λK hK=>?_);obtain⟨P,eP⟩:=Aj wC.heap.size;(have pe:w2.heap.size≤P:=by rw[←eP];exact bC.size);exact qid
     ·skip
      obtain⟨P,eP⟩:=Aj wZ.heap.size;(have pe:w2.heap.size≤P:=by rw[←eP];exact bZ.size);go_simp;refine Cb (Q:=λx=>K _ x) ?_;intro wZ f9 zP
      try dsimp only
      rw[eP]at zP;replace zP:=zP.out;have bZ:=bt bZ f9;replace i6:=i6.bl f9;replace ii:=ii.bl f9;replace kt:=kt.bl f9;replace ks:=ks.bl f9;replace oz:=oz.bl f9;refine hK.out _ _ (λ_=>bh.o _ bZ) (λ_=>?_);clear hK K
      try simp only[gX]
      clear f9 eP;exact qia
    ·skip
     obtain⟨P,eP⟩:=Aj wB.heap.size;(have pe:w2.heap.size≤P:=by rw[←eP];exact bB.size);go_simp;refine Cb (Q:=λx=>K _ x) ?_;intro wB f9 zP
     try dsimp only
     rw[eP]at zP;replace zP:=zP.out;have bB:=bt bB f9;replace i6:=i6.bl f9;replace ii:=ii.bl f9;replace kt:=kt.bl f9;replace ks:=ks.bl f9;refine hK.out _ _ (λ_=>bh.o _ bB) (λ_=>?_);clear hK K
     try simp only[gX]
     clear f9 eP;refine Lt.sp (i:=5) (λK hK=>?_);go_simp;refine(HTC.o _ (bt HB.o bB)).mono ?_;rintro e wZ ⟨li,g3,rfl,oz⟩;have bZ:=bt bB li;replace i6:=i6.bl li;replace ii:=ii.bl li;replace kt:=kt.bl li;replace ks:=ks.bl li;replace zP:=Ac li zP;refine hK.out _ _ (λ_=>bh.o _ bZ) (λ_=>?_);clear hK K
     try simp only[gX]
     exact qia
   ·skip
    obtain⟨P,eP⟩:=Aj wA.heap.size;(have pe:w2.heap.size≤P:=by rw[←eP];exact bA.size);go_simp;refine Cb (Q:=λx=>K _ x) ?_;intro wA f9 zP
    try dsimp only
    rw[eP]at zP;replace zP:=zP.out;have bA:=bt bA f9;replace i6:=i6.bl f9;replace ii:=ii.bl f9;refine hK.out _ _ (λ_=>bh.o _ bA) (λ_=>?_);clear hK K
    try simp only[gX]
    clear f9 eP;exact qhw
  ·skip
   obtain⟨P,eP⟩:=Aj wD.heap.size;(have pe:w2.heap.size≤P:=by rw[←eP];exact bD.size);go_simp;refine Cb (Q:=λx=>K _ x) ?_;intro wD f9 zP
   try dsimp only
   rw[eP]at zP;replace zP:=zP.out;have bD:=bt bD f9;refine hK.out _ _ (λ_=>bh.o _ bD) (λ_=>?_);clear hK K
   try simp only[gX]
   clear f9 eP;refine Lt.sp (i:=1) (λK hK=>?_);go_simp;refine(X2.o _ (bt HB.o bD)).mono ?_;rintro e wA ⟨cq,g1,v2,rfl,i6,ii⟩;obtain⟨a2,p2,rfl,-⟩:=ii.sl;have bA:=bt bD cq;replace zP:=Ac cq zP;refine hK.out _ _ (λ_=>bh.o _ bA) (λ_=>?_);clear hK K
   try simp only[gX]
   exact qhw
 case rest=>
  obtain⟨P8,wd,T8,R8,cc8,Z3,Z2,Z6,Z4,zs8,B8,lv8,rfl,rfl,C8⟩:=hcut;obtain⟨w3,rfl⟩:∃wk,wk=wc:=⟨_,rfl⟩;have HA3:=Ab (Ac C8.o.2.2.2 HA.o);have vg:=Ab (Ac C8.o.2.2.2 HS.o);have ia:=Ab (bt HB.o C8.o.2.2.2);clear X2 Do bh bD eD;have X2:=Ab (λ(V:E) (hV:Bw w V)=>My n ta ra tc rc T R V (HL.o.so.st.bl hV) (HL.o.so.rq.bl hV) HL.o.lt HL.o.qs);have Do:=Ab (λ(V:E) (hV:Bw w V)=>Mz sa ua c1 c2 ss tp V (HL.o.sp.rs.bl hV) (HL.o.sp.rt.bl hV) HL.o.sm);obtain⟨p0,p1,p2,pf⟩:=Ci HA3.o;go_wp2_with fail;clear p0 p1 p2 pf;refine(X2.o w3 ia.o).mono ?_;rintro e w4 ⟨bp,g9,v9,rfl,o9,z9⟩;obtain⟨a9,c9,rfl,-⟩:=z9.sl
  go_upto_region 13 with fail
  obtain⟨w5,e5⟩:=Aj (w4.alloc (O #[I n,J (p_ g9) T.length T.length,J a9 R.length c9] 35));obtain⟨P9,eP9⟩:=Aj w4.heap.size;have co:Bw w4 w5:=qeq;have HP9:=Ab (nW e5 eP9);rw[e5,eP9];have O9:=Ab (show Ds w5 w3.heap.size P9 (J (p_ g9) T.length T.length) T∧Ko w5 w3.heap.size P9 (J a9 R.length c9) R from by rw[←eP9];exact⟨o9.bl co,z9.bl co⟩);have h35:=Ay bp co;have hs34:=bp.size;have hs45:=co.size;clear e5 o9 z9 bp co;replace HA3:=Ab (Ac h35 HA3.o);replace vg:=Ab (Ac h35 vg.o);replace ia:=Ab (bt ia.o h35);have tj:=Ab (show w5.heap[P8]?=M (O #[I wd,J Z3 T8.length Z2,J Z6 R8.length Z4] 35 (0,0))∧SW w5 w2.heap.size T8 R8 (J Z3 T8.length Z2) (J Z6 R8.length Z4) zs8 B8 lv8 from ⟨Ac h35 C8.o.1,C8.o.2.2.1.bl h35⟩);clear h35;obtain⟨s0,s1⟩:=En vg.o;go_wp2_with fail;clear s0 s1;refine(Do.o w5 ia.o).mono ?_;rintro e w6 ⟨bj,u1,u2,rfl,o10,z10'⟩;obtain⟨a10,Oh,rfl,-⟩:=o10.sl;obtain⟨a11,A3,rfl,-⟩:=z10'.sl
  go_upto_region 14 with fail
  obtain⟨Z0,e7⟩:=Aj (w6.alloc (O #[J a10 ss.length Oh,J a11 tp.length A3] 42));obtain⟨sj,eP10⟩:=Aj w6.heap.size;have bo:Bw w6 Z0:=qhk;have G4:=Ab (nW e7 eP10);rw[e7,eP10];have O10:=Ab (show Jj Z0 w5.heap.size sj (J a10 ss.length Oh) ss∧Je Z0 w5.heap.size sj (J a11 tp.length A3) tp from by rw[←eP10];exact⟨o10.bl bo,z10'.bl bo⟩);have h57:=Ay bj bo;have hs56:=bj.size;have hs67:=bo.size;clear e7 o10 z10' bj bo;replace HA3:=Ab (Ac h57 HA3.o);replace vg:=Ab (Ac h57 vg.o);replace ia:=Ab (bt ia.o h57);replace HP9:=Ab (Ac h57 HP9.o);replace O9:=Ab (show Ds Z0 w3.heap.size P9 (J (p_ g9) T.length T.length) T∧Ko Z0 w3.heap.size P9 (J a9 R.length c9) R from ⟨O9.o.1.bl h57,O9.o.2.bl h57⟩);replace tj:=Ab (show Z0.heap[P8]?=M (O #[I wd,J Z3 T8.length Z2,J Z6 R8.length Z4] 35 (0,0))∧SW Z0 w2.heap.size T8 R8 (J Z3 T8.length Z2) (J Z6 R8.length Z4) zs8 B8 lv8 from ⟨Ac h57 tj.o.1,tj.o.2.bl h57⟩);clear h57;go_wp2_with fail;refine(HTC.o Z0 ia.o).mono ?_;rintro e w7 ⟨si,g12,rfl,o12⟩;replace HA3:=Ab (Ac si HA3.o);replace vg:=Ab (Ac si vg.o);replace ia:=Ab (bt ia.o si);replace HP9:=Ab (Ac si HP9.o);replace G4:=Ab (Ac si G4.o);replace O9:=Ab (show Ds w7 w3.heap.size P9 (J (p_ g9) T.length T.length) T∧Ko w7 w3.heap.size P9 (J a9 R.length c9) R from ⟨O9.o.1.bl si,O9.o.2.bl si⟩);replace O10:=Ab (show Jj w7 w5.heap.size sj (J a10 ss.length Oh) ss∧Je w7 w5.heap.size sj (J a11 tp.length A3) tp from ⟨O10.o.1.bl si,O10.o.2.bl si⟩);replace tj:=Ab (show w7.heap[P8]?=M (O #[I wd,J Z3 T8.length Z2,J Z6 R8.length Z4] 35 (0,0))∧SW w7 w2.heap.size T8 R8 (J Z3 T8.length Z2) (J Z6 R8.length Z4) zs8 B8 lv8 from ⟨Ac si tj.o.1,tj.o.2.bl si⟩);have O12:=Ab o12;have hs7n:=si.size;clear si o12;obtain⟨q0,q1,q2,qf⟩:=Ci HP9.o;obtain⟨t0,t1⟩:=En G4.o;go_wp2_with fail;clear q0 q1 q2 qf t0 t1;refine(Uj (n:=n) HL.o (HT.o.bl ia.o) (HP.o.bl ia.o) O9.o.1 O9.o.2 O10.o.1 O10.o.2 O12.o).mono ?_;rintro e w8 ⟨mn,v,rfl,wd',T',R',cc',tx,qv,zs,kv,lv,rfl,ww,ow⟩;obtain⟨rfl,rfl,rfl,rfl⟩:=Kx.uniq C8.o.2.1 ww HL.o.spv;obtain⟨t1,t2,rfl⟩:=Al ow.txs;obtain⟨q1,q2,rfl⟩:=Al ow.rq.row;have ph:=Ab (ww.sm HL.o.spv HL.o.tl HL.o.lt HL.o.qs);have rd:=Ab ww;clear ww
  go_upto_region 16 with fail
  obtain⟨w9,e9⟩:=Aj (w8.alloc (O #[I wd',J t1 T'.length t2,J q1 R'.length q2] 35));obtain⟨P11,eP11⟩:=Aj w8.heap.size;have yu:=aB e9;have wf:=Ab (nW e9 eP11);rw[e9,eP11];have W8:=Ay mn yu;have OW:=Ab (ow.bl yu);have OW8:=Ab ow;have hs78:=mn.size;have hs89:=yu.size;clear e9 ow mn yu;obtain⟨AG,eF⟩:∃AG:E→Prop,AG=λV=>V.heap[w.heap.size]?=M (O #[I n,J ta T.length tc,J ra R.length rc] 25 (0,0))∧V.heap[w.heap.size+1]?=M (O #[J sa ss.length c1,J ua tp.length c2] 29 (0,0))∧Bw w V∧V.heap[P11]?=M (O #[I wd',J t1 T'.length t2,J q1 R'.length q2] 35 (0,0))∧V.heap[P8]?=M (O #[I wd',J Z3 T'.length Z2,J Z6 R'.length Z4] 35 (0,0))∧SW V w7.heap.size T' R' (J t1 T'.length t2) (J q1 R'.length q2) zs kv lv∧SW V w2.heap.size T' R' (J Z3 T'.length Z2) (J Z6 R'.length Z4) zs8 B8 lv8:=⟨_,rfl⟩;obtain⟨AH,eG⟩:∃AG:E→Prop,AG=λV=>V.heap[P9]?=M (O #[I n,J (p_ g9) T.length T.length,J a9 R.length c9] 35 (0,0))∧V.heap[sj]?=M (O #[J a10 ss.length Oh,J a11 tp.length A3] 42 (0,0))∧Ds V w3.heap.size P9 (J (p_ g9) T.length T.length) T∧Ko V w3.heap.size P9 (J a9 R.length c9) R∧Jj V w5.heap.size sj (J a10 ss.length Oh) ss∧Je V w5.heap.size sj (J a11 tp.length A3) tp∧Ds V Z0.heap.size w7.heap.size (J (p_ g12) xm xm) xs:=⟨_,rfl⟩;have hP8:=Ag C8.o.1;have hwl:=Nat.lt_of_lt_of_le (Ag HS.o) C8.o.2.2.2.size;have HFB:Hd (∀V V':E,Bw V V'→AG V→AG V'):=by rw[eF];exact λV V' hb h=>⟨Ac hb h.1,Ac hb h.2.1,bt h.2.2.1 hb,Ac hb h.2.2.2.1,Ac hb h.2.2.2.2.1,h.2.2.2.2.2.1.bl hb,h.2.2.2.2.2.2.bl hb⟩
  have HGB:Hd (∀V V':E,Bw V V'→AH V→AH V'):=by rw[eG];exact λV V' hb h=>⟨Ac hb h.1,Ac hb h.2.1,h.2.2.1.bl hb,h.2.2.2.1.bl hb,h.2.2.2.2.1.bl hb,h.2.2.2.2.2.1.bl hb,h.2.2.2.2.2.2.bl hb⟩
  have HFK:Hd (∀(lo hi:X)(V V':E),w3.heap.size≤lo→hi≤w7.heap.size→w7.heap.size≤V.heap.size→P11<V.heap.size→Dw lo hi V V'→Below lo V V'→AG V→AG V'):=by rw[eF];exact λlo hi V V' h1 h2 h3 h4 hk hb h=>⟨(hk _ qg (Or.inl qg)).trans h.1,(hk _ qg (Or.inl qg)).trans h.2.1,h.2.2.1.trans (hb.mono qg),(hk _ h4 (Or.inr qg)).trans h.2.2.2.1,(hk _ qg (Or.inl qg)).trans h.2.2.2.2.1,h.2.2.2.2.2.1.keepGe (λb q1 q2=>hk b q2 (Or.inr qg)),h.2.2.2.2.2.2.keepLt C8.o.2.2.1 (λb q=>hk b qg (Or.inl qg))⟩
  have HF:Hd (AG w9):=by rw[eF];exact⟨Ac W8 HA3.o,Ac W8 vg.o,bt ia.o W8,wf.o,Ac W8 tj.o.1,OW.o,tj.o.2.bl W8⟩
  have HG:Hd (AH w9):=by rw[eG];exact⟨Ac W8 HP9.o,Ac W8 G4.o,O9.o.1.bl W8,O9.o.2.bl W8,O10.o.1.bl W8,O10.o.2.bl W8,O12.o.bl W8⟩
  subst eF eG;clear W8 HA3 vg ia wf tj OW HP9 G4 O9 O10 O12;obtain⟨x0,x1,x2,xf⟩:=Ci HF.o.2.2.2.1;obtain⟨y0,y1,y2,yf⟩:=Ci HF.o.2.2.2.2.1;go_wp2_with fail;clear x0 x1 x2 xf y0 y1 y2 yf;refine(HF.o.2.2.2.2.2.1.eq HF.o.2.2.2.2.2.2 ph.o wd').mono ?_;rintro e w10 ⟨hb10,rfl⟩;replace HF:=Ab (HFB.o _ _ hb10 HF.o);replace HG:=Ab (HGB.o _ _ hb10 HG.o);have hs910:=hb10.size;clear hb10
  go_upto_region 18 with fail
  obtain⟨wD,eD⟩:=Aj w10.drew;have bD:Bw w10 wD:=qaf;have bh:Hd (∀V:E,Bw w10 V→V.heap[P9]?=M (O #[I n,J (p_ g9) T.length T.length,J a9 R.length c9] 35 (0,0))∧V.heap[w.heap.size]?=M (O #[I n,J ta T.length tc,J ra R.length rc] 25 (0,0))):=λV h=>⟨Ac h HG.o.1,Ac h HF.o.1⟩;refine Lt.begin 99 (λw'=>w'.heap[P9]?=M (O #[I n,J (p_ g9) T.length T.length,J a9 R.length c9] 35 (0,0))∧w'.heap[w.heap.size]?=M (O #[I n,J ta T.length tc,J ra R.length rc] 25 (0,0))) qk ?_;rw[eD];clear eD;change K 0 _
  iterate 2
   refine Lt.ti (v:=?_) (bh.o _ bD) ?_ ?_;rotate_left 1
   ·rintro w ⟨r1,r2⟩
    obtain⟨p0,p1,p2,-⟩:=Ci r1;obtain⟨q0,q1,q2,-⟩:=Ci r2;exact qae
   simp only[gX]
  refine Lt.sp (i:=2) (λK hK=>?_);go_simp;refine(X2.o _ (bt HF.o.2.2.1 bD)).mono ?_;rintro e wA ⟨cq,gA,vA,rfl,oA,zA⟩;obtain⟨aA,cA,rfl,rA,-⟩:=zA.sl;have bA:=bt bD cq;refine hK.out _ _ (λ_=>bh.o _ bA) (λ_=>?_);clear hK K
  try simp only[gX]
  refine Lt.sp (i:=3) (λK hK=>?_);go_simp;obtain⟨_,_,h1e,h1s⟩:=(HG.o.2.2.1.bl bA).sl;cases h1e;obtain⟨_,_,h2e,h2r,-⟩:=(HG.o.2.2.2.1.bl bA).sl;cases h2e;obtain⟨_,_,h3e,h3s⟩:=oA.sl;cases h3e;refine(Qx n _ _ _ _ _ _ _ _ T R wA h1s h3s h2r.row rA.row HL.o.lt HL.o.qs).mono ?_;rintro e Z1 ⟨jo,rfl⟩;have bC:=bt bA jo;refine hK.out _ _ (λ_=>bh.o _ bC) (λ_=>?_);clear hK K
  try simp only[gX]
  change K 4 _
  iterate 1
   refine Lt.ti (v:=?_) (bh.o _ bC) ?_ ?_;rotate_left 1
   ·exact qdo
   simp only[gX]
  refine Lt.done qk ?_ _;replace HF:=Ab (HFB.o _ _ bC HF.o);replace HG:=Ab (HGB.o _ _ bC HG.o);have hs_w11:=bC.size;clear bh bC jo bA cq bD oA zA
  go_upto_region 20 with fail
  obtain⟨wD,eD⟩:=Aj Z1.drew;have bD:Bw Z1 wD:=qaf;have bh:Hd (∀V:E,Bw Z1 V→V.heap[sj]?=M (O #[J a10 ss.length Oh,J a11 tp.length A3] 42 (0,0))∧V.heap[w.heap.size+1]?=M (O #[J sa ss.length c1,J ua tp.length c2] 29 (0,0))):=λV h=>⟨Ac h HG.o.2.1,Ac h HF.o.2.1⟩;refine Lt.begin 99 (λw'=>w'.heap[sj]?=M (O #[J a10 ss.length Oh,J a11 tp.length A3] 42 (0,0))∧w'.heap[w.heap.size+1]?=M (O #[J sa ss.length c1,J ua tp.length c2] 29 (0,0))) qk ?_;rw[eD];clear eD;change K 0 _
  iterate 2
   refine Lt.ti (v:=?_) (bh.o _ bD) ?_ ?_;rotate_left 1
   ·rintro w ⟨r1,r2⟩
    obtain⟨p0,p1⟩:=En r1;obtain⟨q0,q1⟩:=En r2;exact qae
   simp only[gX]
  refine Lt.sp (i:=2) (λK hK=>?_);go_simp;refine(Do.o _ (bt HF.o.2.2.1 bD)).mono ?_;rintro e wA ⟨cq,uA,vA,rfl,oA,zA⟩;have bA:=bt bD cq;refine hK.out _ _ (λ_=>bh.o _ bA) (λ_=>?_);clear hK K
  try simp only[gX]
  refine Lt.sp (i:=3) (λK hK=>?_);go_simp;refine(eqSpace_own (HG.o.2.2.2.2.1.bl bA) (HG.o.2.2.2.2.2.1.bl bA) oA zA HL.o.sm).mono ?_;rintro e w12a ⟨jo,rfl⟩;have bC:=bt bA jo;refine hK.out _ _ (λ_=>bh.o _ bC) (λ_=>?_);clear hK K
  try simp only[gX]
  change K 4 _
  iterate 1
   refine Lt.ti (v:=?_) (bh.o _ bC) ?_ ?_;rotate_left 1
   ·exact qdo
   simp only[gX]
  refine Lt.done qk ?_ _;replace HF:=Ab (HFB.o _ _ bC HF.o);replace HG:=Ab (HGB.o _ _ bC HG.o);have hs_w12a:=bC.size;clear bh bC jo bA cq bD oA zA;go_wp2_with fail;refine(HTC.o w12a HF.o.2.2.1).mono ?_;rintro e w12b ⟨hbE,gE,rfl,oE⟩;replace HF:=Ab (HFB.o _ _ hbE HF.o);replace HG:=Ab (HGB.o _ _ hbE HG.o);have hsE:=hbE.size;have h1s:Cu w12b (p_ g12) xs:=by have:=HG.o.2.2.2.2.2.2.own;rw[EXM.o]at this;exact Qb EXM.o.symm this
  have h2s:Cu w12b (p_ gE) xs:=by have:=oE.own;rw[EXM.o]at this;exact Qb EXM.o.symm this
  have HEQ:=Ab (Nq (p_ g12) (p_ gE) xm xm xs w12b h1s h2s HL.o.nl);rw[EXM.o]at HEQ;clear h1s h2s oE hbE;go_wp2_with fail;refine HEQ.o.mono ?_;rintro e w12 ⟨R0,rfl⟩;replace HF:=Ab (HFB.o _ _ R0 HF.o);replace HG:=Ab (HGB.o _ _ R0 HG.o);have hsF:=R0.size;clear R0 HEQ HGB
  go_upto_region 25 with fail
  have l9:=Ag HG.o.1;have l10:=Ag HG.o.2.1;have l11:=Ag HF.o.2.2.2.1;obtain⟨q0,q1,q2,qf⟩:=Ci HG.o.1;go_wp2_with fail;clear q0 q1 q2 qf;obtain⟨xs9,cv9,lv9,hq9,-⟩:=HG.o.2.2.2.1;refine(Pb n w3.heap.size P9 T.length R.length 1 _ _ _ _ _ _ _ _ w12 HG.o.2.2.1 hq9.rows qg HL.o.lt HL.o.qs.1 HL.o.qs.2 (Nat.le_refl _) (zo (kR1_le HL.o.lt HL.o.qs))).mono ?_;rintro e w13 ⟨rfl,hb13,U9,-,-⟩;have hs13:=hb13.size;replace HF:=Ab (HFK.o w3.heap.size P9 _ _ (Nat.le_refl _) qg qg l11 U9 hb13 HF.o);have G4:=Ab ((U9 _ qg (Or.inr qg)).trans HG.o.2.1);have O10:=Ab (show Jj w13 w5.heap.size sj (J a10 ss.length Oh) ss∧Je w13 w5.heap.size sj (J a11 tp.length A3) tp from ⟨HG.o.2.2.2.2.1.keep U9 (Or.inr qg),HG.o.2.2.2.2.2.1.keep U9 (Or.inr qg)⟩);have O12:=Ab (HG.o.2.2.2.2.2.2.keep U9 (Or.inr qg));clear U9 hb13 hq9 HG;obtain⟨K1,ek1⟩:=Aj (kR (λi=>(qx R i).code.length) (λi=>(qx R i).looks.length) (1+T.length) R.length)
  have hK1:1≤K1∧K1≤100000000000000:=by
   have h1:=kR1_le HL.o.lt HL.o.qs;have h2:=Vt (λi=>(qx R i).code.length) (λi=>(qx R i).looks.length) (1+T.length) 0 R.length (Nat.zero_le _);rw[ek1]at h1 h2;simp only[kR]at h2;omega
  rw[ek1];obtain⟨t0,t1⟩:=En G4.o;go_wp2_with fail;clear t0 t1;obtain⟨xs10,hr10,-⟩:=O10.o.1;obtain⟨xs11,cv11,hr11⟩:=O10.o.2;refine(Xh w5.heap.size sj ss.length tp.length K1 _ _ _ _ _ _ w13 hr10 hr11.rows qg HL.o.sm.ls HL.o.sm.lt HL.o.sm.lc hK1.1 (kT1_le HL.o.sm hK1.2)).mono ?_;rintro e w14a ⟨rfl,No,U7,-⟩;have hs14:=No.size;replace HF:=Ab (HFK.o w5.heap.size sj _ _ qg qg qg qg U7 No HF.o);replace O12:=Ab (O12.o.keep U7 (Or.inr qg));clear U7 No hr10 hr11 O10 G4;obtain⟨K2,ek2⟩:=Aj (kT (λi=>(tx tp i).code.length) (K1+2*ss.length) tp.length);rw[ek2]
  have hK2b:1≤K2∧K2≤800000000000000:=by
   have h1:=kT1_le HL.o.sm hK1.2;have h2:=kT_le (λi=>(tx tp i).code.length) (K1+2*ss.length) 0 tp.length (Nat.zero_le _);rw[ek2]at h1 h2;simp only[kT]at h2;omega
  go_wp2_with fail;refine(Mq Z0.heap.size w7.heap.size xs.length K2 _ _ w14a O12.o qg HL.o.nl hK2b.1 qg).mono ?_;rintro e w14 ⟨rfl,No,hko,-⟩;have U7:Dw Z0.heap.size w7.heap.size w14a w14:=hko.keepR λb q=>⟨(O12.o.own.lt b q).1,O12.o.top b q⟩;have hs14b:=No.size;replace HF:=Ab (HFK.o Z0.heap.size w7.heap.size _ _ qg (Nat.le_refl _) qg qg U7 No HF.o);clear U7 No hko O12;obtain⟨K3,ek3⟩:=Aj (K2+xs.length);rw[ek3];have hK3:¬ ((K3:Int)<0):=qg;obtain⟨x0,x1,x2,xf⟩:=Ci HF.o.2.2.2.1;obtain⟨y0,y1,y2,yf⟩:=Ci HF.o.2.2.2.2.1;go_wp2_with fail;clear x0 x1 x2 xf y0 y1 y2 yf;refine(HF.o.2.2.2.2.2.1.eq HF.o.2.2.2.2.2.2 ph.o wd').mono ?_;rintro e w15 ⟨hb15,rfl⟩;replace HF:=Ab (HFB.o _ _ hb15 HF.o);have hs15:=hb15.size;clear hb15 HFK;have l11b:=Ag HF.o.2.2.2.1;have hKF:=kR1_le ph.o.1 ph.o.2;obtain⟨KF,ekf⟩:=Aj (kR (λi=>(qx R' i).code.length) (λi=>(qx R' i).looks.length) (1+T'.length) R'.length);rw[ekf]at hKF;obtain⟨x0,x1,x2,xf⟩:=Ci HF.o.2.2.2.1;go_wp2_with fail;clear x0 x1 x2 xf;refine(Pb wd' w7.heap.size w8.heap.size T'.length R'.length 1 _ _ _ _ _ _ _ _ w15 ⟨HF.o.2.2.2.2.2.1.txs,λb q=>(OW8.o.txs.lt b q).2⟩ (HF.o.2.2.2.2.2.1.rq.rowsT OW8.o.rq) qg ph.o.1 ph.o.2.1 ph.o.2.2 (Nat.le_refl _) (by rw[ekf];omega)).mono ?_;rintro e w16 ⟨rfl,hb16,U6,-,hmk⟩;rw[ekf];have hs16:=hb16.size;have HM16:=Ab hmk;have HA:=Ab ((U6 _ qg (Or.inl qg)).trans HF.o.1);have HS:=Ab ((U6 _ qg (Or.inl qg)).trans HF.o.2.1);have HB:=Ab (HF.o.2.2.1.trans (hb16.mono qg));have wf:=Ab ((U6 _ qg (Or.inr qg)).trans HF.o.2.2.2.1);have tj:=Ab (show w16.heap[P8]?=M (O #[I wd',J Z3 T'.length Z2,J Z6 R'.length Z4] 35 (0,0))∧SW w16 w2.heap.size T' R' (J Z3 T'.length Z2) (J Z6 R'.length Z4) zs8 B8 lv8 from ⟨(U6 _ qg (Or.inl qg)).trans HF.o.2.2.2.2.1,HF.o.2.2.2.2.2.2.keepLt C8.o.2.2.1 (λb q=>U6 b qg (Or.inl qg))⟩);clear hb16 U6 hmk OW8 HF HFB;have hkf0:¬ ((KF:Int)<0):=qg;obtain⟨x0,x1,x2,xf⟩:=Ci wf.o;go_wp2_with fail;clear x0 x1 x2 xf;have HHE:=Ab (λ(V:E) (hV:Bw w16 V)=>Xl wd' w7.heap.size w8.heap.size T'.length R'.length 1 _ _ _ _ V (HM16.o.bl hV) ph.o.1 ph.o.2.1 ph.o.2.2 (Nat.le_refl _) (by rw[ekf];omega));rw[ekf]at HHE;refine(HHE.o w16 (Below.refl _ _)).mono ?_;rintro e K8 ⟨rfl,F4⟩;replace HA:=Ab (Ac F4 HA.o);replace HS:=Ab (Ac F4 HS.o);replace HB:=Ab (bt HB.o F4);replace wf:=Ab (Ac F4 wf.o);replace tj:=Ab (show K8.heap[P8]?=M (O #[I wd',J Z3 T'.length Z2,J Z6 R'.length Z4] 35 (0,0))∧SW K8 w2.heap.size T' R' (J Z3 T'.length Z2) (J Z6 R'.length Z4) zs8 B8 lv8 from ⟨Ac F4 tj.o.1,tj.o.2.bl F4⟩);have HB17:=Ab F4;clear F4
  go_upto_region 38 with fail
  clear X2 Do;have X2:=Ab (λ(V:E) (hV:Bw w V)=>My n ta ra tc rc T R V (HL.o.so.st.bl hV) (HL.o.so.rq.bl hV) HL.o.lt HL.o.qs);have Do:=Ab (λ(V:E) (hV:Bw w V)=>Mz sa ua c1 c2 ss tp V (HL.o.sp.rs.bl hV) (HL.o.sp.rt.bl hV) HL.o.sm);obtain⟨wD,eD⟩:=Aj K8.drew;have bD:Bw K8 wD:=qaf;have bh:Hd (∀V:E,Bw K8 V→V.heap[w.heap.size]?=M (O #[I n,J ta T.length tc,J ra R.length rc] 25 (0,0))∧V.heap[w.heap.size+1]?=M (O #[J sa ss.length c1,J ua tp.length c2] 29 (0,0))):=λV h=>⟨Ac h HA.o,Ac h HS.o⟩
  go_cut [18,19] (λp c wx=>∃(P:X)(wd:Int)(T':L By)(R':L T3)(cc:Int)(t1:Option Addr)(t2:X)(q1:Option Addr)(q2:X)(zs:L Z)(kv lv:X→Z),p=.pointer (p_ P)∧c=I cc∧Hd (wx.heap[P]?=M (O #[I wd,J t1 T'.length t2,J q1 R'.length q2] 35 (0,0))∧Kx n ss tp T R xs wd T' R' cc∧SW wx K8.heap.size T' R' (J t1 T'.length t2) (J q1 R'.length q2) zs kv lv∧Bw K8 wx))
  case first=>
   refine Lt.begin 99 (λw'=>w'.heap[w.heap.size]?=M (O #[I n,J ta T.length tc,J ra R.length rc] 25 (0,0))∧w'.heap[w.heap.size+1]?=M (O #[J sa ss.length c1,J ua tp.length c2] 29 (0,0))) qk ?_;rw[eD];clear eD;change K 0 _
   iterate 1
    refine Lt.ti (v:=?_) (bh.o _ bD) ?_ ?_;rotate_left 1
    ·exact qay
    simp only[gX]
   change K 2 _
   iterate 1
    refine Lt.ti (v:=?_) (bh.o _ bD) ?_ ?_;rotate_left 1
    ·exact qay
    simp only[gX]
   change K 4 _
   iterate 1
    refine Lt.ti (v:=?_) (bh.o _ bD) ?_ ?_;rotate_left 1
    ·exact qay
    simp only[gX]
   refine Lt.tw (i:=1) (j:=10) (λK hK=>?_) (λK hK=>?_)
   ·skip
    go_simp;refine(X2.o _ (bt HB.o bD)).mono ?_;rintro e wA ⟨cq,g1,v2,rfl,i6,ii⟩;obtain⟨a2,p2,rfl,-⟩:=ii.sl;have bA:=bt bD cq;refine hK.out _ _ (λ_=>bh.o _ bA) (λ_=>?_);clear hK K
    try simp only[gX]
    refine Lt.tw (i:=3) (j:=10) (λK hK=>?_) (λK hK=>?_)
    ·skip
     go_simp;refine(Do.o _ (bt HB.o bA)).mono ?_;rintro e wB ⟨gy,u1,u2,rfl,kt,ks⟩;obtain⟨a3,p3,rfl,-⟩:=kt.sl;obtain⟨a4,p4,rfl,-⟩:=ks.sl;have bB:=bt bA gy;replace i6:=i6.bl gy;replace ii:=ii.bl gy;refine hK.out _ _ (λ_=>bh.o _ bB) (λ_=>?_);clear hK K
     try simp only[gX]
     refine Lt.tw (i:=5) (j:=10) (λK hK=>?_) (λK hK=>?_)
     ·skip
      go_simp;refine(HTC.o _ (bt HB.o bB)).mono ?_;rintro e wZ ⟨li,g3,rfl,oz⟩;have bZ:=bt bB li;replace i6:=i6.bl li;replace ii:=ii.bl li;replace kt:=kt.bl li;replace ks:=ks.bl li;refine hK.out _ _ (λ_=>bh.o _ bZ) (λ_=>?_);clear hK K
      try simp only[gX]
      refine Lt.tw (i:=6) (j:=10) (λK hK=>?_) (λK hK=>?_)
      ·skip
       go_simp;refine(Uj (n:=n) HL.o (HT.o.bl (bt HB.o bZ)) (HP.o.bl (bt HB.o bZ)) i6 ii kt ks oz).mono ?_;rintro e wC ⟨jo,v,rfl,wd,T',R',cc,tx,qv,zs,kv,lv,rfl,ww,ow⟩;have rd:=Ab ww;clear ww;obtain⟨t1,t2,rfl⟩:=Al ow.txs;obtain⟨q1,q2,rfl⟩:=Al ow.rq.row;replace ow:=ow.base (show K8.heap.size≤_ from bZ.size);have bC:=bt bZ jo;refine hK.out _ _ (λ_=>bh.o _ bC) (λ_=>?_);clear hK K
       try simp only[gX]
       clear i6 ii kt ks oz;change K 7 _
       iterate 3
        refine Lt.ti (v:=?_) (bh.o _ bC) ?_ ?_;rotate_left 1
        ·exact qay
        simp only[gX]
       refine Lt.sp (i:=10) (λK hK=>?_);obtain⟨P,eP⟩:=Aj wC.heap.size;(have pe:K8.heap.size≤P:=by rw[←eP];exact bC.size);exact qid
      ·skip
       obtain⟨P,eP⟩:=Aj wZ.heap.size;(have pe:K8.heap.size≤P:=by rw[←eP];exact bZ.size);go_simp;refine Cb (Q:=λx=>K _ x) ?_;intro wZ f9 zP
       try dsimp only
       rw[eP]at zP;replace zP:=zP.out;have bZ:=bt bZ f9;replace i6:=i6.bl f9;replace ii:=ii.bl f9;replace kt:=kt.bl f9;replace ks:=ks.bl f9;replace oz:=oz.bl f9;refine hK.out _ _ (λ_=>bh.o _ bZ) (λ_=>?_);clear hK K
       try simp only[gX]
       clear f9 eP;exact qhz
     ·skip
      obtain⟨P,eP⟩:=Aj wB.heap.size;(have pe:K8.heap.size≤P:=by rw[←eP];exact bB.size);go_simp;refine Cb (Q:=λx=>K _ x) ?_;intro wB f9 zP
      try dsimp only
      rw[eP]at zP;replace zP:=zP.out;have bB:=bt bB f9;replace i6:=i6.bl f9;replace ii:=ii.bl f9;replace kt:=kt.bl f9;replace ks:=ks.bl f9;refine hK.out _ _ (λ_=>bh.o _ bB) (λ_=>?_);clear hK K
      try simp only[gX]
      clear f9 eP;refine Lt.sp (i:=5) (λK hK=>?_);go_simp;refine(HTC.o _ (bt HB.o bB)).mono ?_;rintro e wZ ⟨li,g3,rfl,oz⟩;have bZ:=bt bB li;replace i6:=i6.bl li;replace ii:=ii.bl li;replace kt:=kt.bl li;replace ks:=ks.bl li;replace zP:=Ac li zP;refine hK.out _ _ (λ_=>bh.o _ bZ) (λ_=>?_);clear hK K
      try simp only[gX]
      exact qhz
    ·skip
     obtain⟨P,eP⟩:=Aj wA.heap.size;(have pe:K8.heap.size≤P:=by rw[←eP];exact bA.size);go_simp;refine Cb (Q:=λx=>K _ x) ?_;intro wA f9 zP
     try dsimp only
     rw[eP]at zP;replace zP:=zP.out;have bA:=bt bA f9;replace i6:=i6.bl f9;replace ii:=ii.bl f9;refine hK.out _ _ (λ_=>bh.o _ bA) (λ_=>?_);clear hK K
     try simp only[gX]
     clear f9 eP;exact qhv
   ·skip
    obtain⟨P,eP⟩:=Aj wD.heap.size;(have pe:K8.heap.size≤P:=by rw[←eP];exact bD.size);go_simp;refine Cb (Q:=λx=>K _ x) ?_;intro wD f9 zP
    try dsimp only
    rw[eP]at zP;replace zP:=zP.out;have bD:=bt bD f9;refine hK.out _ _ (λ_=>bh.o _ bD) (λ_=>?_);clear hK K
    try simp only[gX]
    clear f9 eP;refine Lt.sp (i:=1) (λK hK=>?_);go_simp;refine(X2.o _ (bt HB.o bD)).mono ?_;rintro e wA ⟨cq,g1,v2,rfl,i6,ii⟩;obtain⟨a2,p2,rfl,-⟩:=ii.sl;have bA:=bt bD cq;replace zP:=Ac cq zP;refine hK.out _ _ (λ_=>bh.o _ bA) (λ_=>?_);clear hK K
    try simp only[gX]
    exact qhv
  case rest=>
   obtain⟨P15,wd2,T2,R2,cc2,t51,t52,q51,q52,zs15,kv15,lv15,rfl,rfl,HX15⟩:=hcut;obtain⟨w18,rfl⟩:∃wk,wk=wc:=⟨_,rfl⟩;obtain⟨rfl,rfl,rfl,rfl⟩:=Kx.uniq rd.o HX15.o.2.1 HL.o.spv;have V9:=HX15.o.2.2.2;replace wf:=Ab (Ac V9 wf.o);replace tj:=Ab (show w18.heap[P8]?=_∧SW w18 w2.heap.size _ _ _ _ zs8 B8 lv8 from ⟨Ac V9 tj.o.1,tj.o.2.bl V9⟩);replace HB17:=Ab (bt HB17.o V9);replace HB:=Ab (bt HB.o V9);clear V9;obtain⟨x0,x1,x2,xf⟩:=Ci HX15.o.1;obtain⟨y0,y1,y2,yf⟩:=Ci tj.o.1;go_wp2_with fail;clear x0 x1 x2 xf y0 y1 y2 yf;refine(HX15.o.2.2.1.eq tj.o.2 ph.o _).mono ?_;rintro e w19 ⟨hb19,rfl⟩;replace wf:=Ab (Ac hb19 wf.o);replace HB17:=Ab (bt HB17.o hb19);replace HB:=Ab (bt HB.o hb19);clear hb19;obtain⟨x0,x1,x2,xf⟩:=Ci wf.o;go_wp2_with fail;clear x0 x1 x2 xf;refine(HHE.o w19 HB17.o).mono ?_;rintro e w20 ⟨rfl,hb20⟩;replace HB:=Ab (bt HB.o hb20);clear hb20;exact qdz
end Go.Proofs.YtnflkpmmfpfhlaaGreatDoor
