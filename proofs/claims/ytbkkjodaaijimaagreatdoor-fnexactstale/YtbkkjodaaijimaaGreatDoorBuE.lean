import Derived.Test.YtbkkjodaaijimaaGreatDoorBuI
namespace Go.Proofs.YtbkkjodaaijimaaGreatDoor
open _root_.Go.Proofs.Tryz Go.RowKit Go.Deep
open Value renaming slice->J,string->S,bool->F,agg->G,pointer->D,tuple->Y
open Option renaming some->M
open Obj renaming cells->O
open Go renaming Value->Z,World->E
open _root_ renaming List->L
set_option linter.unusedVariables false
set_option linter.unusedSimpArgs false
set_option maxHeartbeats 8000000
set_option maxRecDepth 100000
def RunB(B h mb:Nat)(C:Gg)(sv tv:Z)(ss:L S2)(ts:L T2)(ms:Mm)(s:Sb)(st:L By)(av kv:Z)(r:Rv)(is:L I3)(w:E)(e:Ending)(w':E):Prop:=
 (∃ms1 s1 ys ls c t AB lv av' kv' vs' r',e=.returned (Y #[lv,G #[I c,S t,nS]])/\(∃a n cc,lv=J a n cc)/\Ce is ys Lz (.over c t AB)/\Gf is ys ls/\ys.length<=200/\Mk ls/\(∀br s2 a,Bc ss ts C.n ms1 s1 st (.run is ys ls) br s2 a->Bc ss ts C.n ms s st (.run is [] []) br s2 a)/\Fd ss ts C.n ms1 s1 st r'.sn 0/\r'.sn+400200*Db ts ms st<=r.sn+400200*Db ts ms1 st/\Iw B h mb C sv tv ss ts w' ms1 st av' kv' vs' s1 r'/\KQ B h mb C av kv r r' w w'/\An w av av'/\An w kv kv'/\Ek w' B lv ls/\∀b,lv.ownBlock=M b->w.heap.size<=b)\/
 (∃b v r' ms' s',e=Lb v/\KQ B h mb C av kv r r' w w'/\Bc ss ts C.n ms s st (.run is [] []) ms' s' (.bad b)/\Cz B C w' b v)
theorem runB_any(W0:E)(h mb:Nat)(C:Gg)(sa ta a:Option Addr)(c1 c2 cap:Nat)(ss:L S2)(ts:L T2)(is:L I3)(tn:By)(ms:Mm)(s:Sb)(st:L By)(av kv:Z)(vs:By->Z)(r:Rv)(w:E)(hE:Hn W0 sa ta ss ts)(hU:Gb W0 h mb C (J sa ss.length c1) (J ta ts.length c2) ss ts st)(q:Iw W0.heap.size h mb C (J sa ss.length c1) (J ta ts.length c2) ss ts w ms st av kv vs s r)(hp:Fd ss ts C.n ms s st r.sn 200)(hW:Bw W0 w)(hr:Bu W0 a is)(hv:Au is=true)(hT:Kd W0)(hP:Lj W0):Calls prog 146 #[D (p_ h),G #[S tn,J a is.length cap]] w λe w'=>RunB W0.heap.size h mb C (J sa ss.length c1) (J ta ts.length c2) ss ts ms s st av kv r is w e w':=by
 have fy:W0.heap.size<=w.heap.size:=hW.size
 have M6:h<w.heap.size:=Ag q.mkr.blk
 obtain⟨n0,_,hmap0⟩:=q.mkr.map
 have sj:mb<w.heap.size:=hmap0.lt
 obtain⟨f0,f1,f2⟩:=q.rs.sn
 have hsw:C.sb<w.heap.size:=f1.lt
 obtain⟨W,eW⟩:=Aj (((w.alloc (O #[S tn,J a is.length cap] 99)).alloc (O #[I 0,ze,nS] 120)))
 have ak:Bw w W:=qbo
 have jv:Hd (W.heap[w.heap.size+1]?=M (O #[I 0,ze,nS] 120 (0,0))):=by
  show _=_;rw[<- eW];have h:=Bf (w.alloc (O #[S tn,J a is.length cap] 99)) (O #[I 0,ze,nS] 120);rw[show(w.alloc (O #[S tn,J a is.length cap] 99)).heap.size=w.heap.size+1 from qg]at h;exact h
 have k1:W.cell? ⟨w.heap.size,1,none⟩=M (J a is.length cap):=qal
 have E4:Hd (Bw w W):=ak
 have ke:Bw W0 W:=hW.trans (ak.mono fy)
 have HBG:Hd (Calls prog 164 #[G #[J a is.length cap]] W λe w'=>Bw W w'/\∃B m T ov c t ask nm st,W.heap.size<=B/\B<=w'.heap.size/\e=.returned (Y #[Bb ov c t ask nm st,.func (.func 176) #[] #[D (p_ m),D (p_ T)]])/\Gn is [] B m T (J a is.length cap) ov c t ask nm st w'):=begin_any a cap is W (hT.bl ke) (hP.bl ke) (hr.bl ke) hv
 have HS:Hd (Iw W0.heap.size h mb C (J sa ss.length c1) (J ta ts.length c2) ss ts w ms st av kv vs s r):=q
 have HU:Hd (Gb W0 h mb C (J sa ss.length c1) (J ta ts.length c2) ss ts st):=hU
 have HE:Hd (Hn W0 sa ta ss ts):=hE
 have HW:Hd (Bw W0 w):=hW
 have HRW:Hd (Bu W0 a is):=hr
 have HV:Hd (Au is=true):=hv
 have HTP:Hd (Kd W0/\Lj W0):=⟨hT,hP⟩
 have HI:Hd (Fd ss ts C.n ms s st r.sn 200):=hp
 clear hU q hp hW hr hv hT hP ak ke hmap0 hE f1 f2
 go_enter func146,ntmps146
 go_wp2_with fail
 refine HBG.o.mono ?_
 rintro e w2 ⟨ag,Bm,m,T,ov,c,t,ask,nm,stp,vz,hBw2,rfl,hgn⟩
 unfold Bb
 dsimp only
 obtain⟨V,eV⟩:=Aj (w2.alloc (O #[F ov,I c,S t,F ask,S nm,I stp] 192))
 have ll:Bw w2 V:=by rw[<- eV];exact Ai _ _
 have hsW:=E4.o.size
 have HC:Hd (RCB W0 h mb C w Bm m T w2.heap.size (w.heap.size+1)):=⟨fy,M6,sj,hsw,qb,by have:=Ag hgn.1;omega,by have:=ag.size;omega,qb,by have:=hgn.2.2.2.1;omega⟩
 have HRI:Hd (RB W0 h mb C (J sa ss.length c1) (J ta ts.length c2) (J a is.length cap) ss ts is w ms s st av kv r Bm m T w2.heap.size (w.heap.size+1) [] [] ms s av kv vs r nS ov c t ask nm stp V):=by
  have bu:Bw w V:=Ba (Ba E4.o ag) ll;have hg:=hgn.bl ll;refine⟨HS.o.bl bu,HI.o,qg,⟨HV.o,λi hi=>qaa,rfl⟩,λg hg=>by simp at hg,λ_ _ _ k=>k,Nat.le_refl _,hg,?_,Ad ll (Ad ag jv.o),⟨rfl,Or.inl ⟨rfl,rfl⟩⟩,KQ.of_below HS.o bu fy,An.refl _ _,An.refl _ _,?_⟩
  ·rw[<- eV];exact Bf _ _
  ·rintro rfl b q v e q2;obtain⟨_,v',_,_,e',fg⟩:=hg.mach;rw[e]at e';cases e';have q3:=(fg b q2.symm).1
   have q4:b<w.heap.size:=by
    rcases q with q|q|q
    ·exact HS.o.ownA.1 b q
    ·exact HS.o.ownA.2 b q
    ·exact(HS.o.rs.lt (Or.inr (Or.inr (Or.inr q)))).2
   omega
 have L0:Hd (2<Bm):=by have:=HTP.o.2.two;have:=HC.o.h4;show _<_;omega
 clear ag hgn ll HI HS jv k1 HBG
 go_wp2_with fail
 go_loopw [6] (λv wr=>∃(ys:L R3)(ls:L G3)(m1:Mm)(s1:Sb)(av1 kv1:Z)(vs1:By->Z)(r1:Rv)(la:Option Addr)(lc:Nat)(ov:Bool)(c:Int)(t:By)(ask:Bool)(nm:By)(stp:Int),v=J la ls.length lc/\Hd (RB W0 h mb C (J sa ss.length c1) (J ta ts.length c2) (J a is.length cap) ss ts is w ms s st av kv r Bm m T w2.heap.size (w.heap.size+1) ys ls m1 s1 av1 kv1 vs1 r1 (J la ls.length lc) ov c t ask nm stp wr)) (λv _=>201-lenV v)
 case atStart=>exact⟨[],[],ms,s,av,kv,vs,r,none,0,ov,c,t,ask,nm,stp,rfl,HRI.o⟩
 case round=>
  clear HRI;obtain⟨ys,ls,m1,s1,av1,kv1,vs1,r1,la,lc,ov,c,t,ask,nm,stp,rfl,HR⟩:=hrel;obtain⟨x0,x1,x2,x3,x4,x5,xf⟩:=Ft HR.o.tb
  cases ov with
  | true=>
   obtain⟨n,iq⟩:∃n,Ce is ys Lz (.over c t n):=by
    rcases HR.o.gn.2.2.2.2.full with⟨_,n,q⟩|⟨q,_⟩
    ·exact⟨n,q⟩
    ·cases q
   have HDN:Hd (Ce is ys Lz (.over c t n)):=iq;clear iq;obtain⟨U,eU⟩:=Aj wr.drew;have bm:Bw wr U:=qay;have ki:=HR.o.bl bm (zo HR.o.kp.bel.size);obtain⟨y0,y1,y2,y3,y4,y5,yf⟩:=Ft ki.tb;obtain⟨z0,z1,z2,zf⟩:=Dw ki.rb;have HU2:Hd (RB W0 h mb C (J sa ss.length c1) (J ta ts.length c2) (J a is.length cap) ss ts is w ms s st av kv r Bm m T w2.heap.size (w.heap.size+1) ys ls m1 s1 av1 kv1 vs1 r1 (J la ls.length lc) true c t ask nm stp U):=ki
   have hXR:¬ w2.heap.size=w.heap.size+1:=λe=>by
    have q:=ki.rb;rw[<- e,ki.tb]at q;injection q with q;injection q with _ q;exact absurd q qd
   clear bm ki
   go_upto_region 7 with fail
   go_region;clear eU;go_wp2_with fail;have hR:=HU2.o;obtain⟨v0,v1,v2,_⟩:=Dw (Bn hR.rb (I c) (S t) nS);exact bR (v:=Y #[J la ls.length lc,G #[I c,S t,nS]]) (by simp[results,results146,go_sem,v0,v1,v2]) rfl (Or.inl ⟨m1,s1,ys,ls,c,t,n,_,av1,kv1,vs1,r1,rfl,⟨la,ls.length,lc,rfl⟩,HDN.o,hR.ro,hR.ln,hR.lok,hR.dd,hR.pre.le (Nat.zero_le _),hR.sn,hR.ma.set3 hR.rb qd _ _ _,hR.kp.set3 qb qb _ _ _,hR.ra,hR.rk,(looks_of hR.lo fy).keptB (λb q=>Fg (λe=>by subst e;exact Ae hR.lo qd hR.rb q) _ _ _),λb q=>(hR.lo.lt b q).1⟩)
  | false=>
   obtain⟨rfl,rfl⟩:c=0/\t=⟨#[]⟩:=by
    rcases HR.o.gn.2.2.2.2 with⟨q,_⟩|⟨_,q1,q2,_⟩
    ·cases q
    ·exact⟨q1,q2⟩
   have HLE:Hd (ls.length<200):=by
    obtain⟨n,iq⟩:∃n,Ce is ys Lz (.wait ask nm n):=by
     rcases HR.o.gn.2.2.2.2.full with⟨q,_⟩|⟨_,n,q⟩
     ·cases q
     ·exact⟨n,q⟩
    have h1:=(HR.o.ro.wait iq).1;have h2:=HR.o.ro.eq;show _<_;omega
   have hl200:ls.length<200:=HLE.o;have HL:=lookB_any W0 h mb C sa ta c1 c2 (J a is.length cap) ss ts is w ms s st av kv r Bm m T w2.heap.size (w.heap.size+1) ys ls m1 s1 av1 kv1 vs1 r1 (J la ls.length lc) 0 ⟨#[]⟩ ask nm stp wr HE.o HU.o (HW.o.trans (HR.o.kp.bel)) HC.o HR.o;clear HR;go_wp2_with fail;refine HL.mono ?_;clear x0 x1 x2 x3 x4 x5 xf HL;rintro e w3 (⟨m2,s2,av2,kv2,vs2,r2,⟨yh,yc,yt⟩,y',f,rfl,hN⟩|⟨b,v,r',ms',s',rfl,J2,mq,hv⟩)
   ·dsimp only;obtain⟨V3,eV3⟩:=Aj (w3.alloc (O #[F yh,I yc,S yt] 196));(have ba:Bw w3 V3:=by rw[<- eV3];exact Ai _ _);have hw3:w.heap.size<=w3.heap.size:=hN.kp.bel.size;have HN:Hd (NB W0 h mb C (J sa ss.length c1) (J ta ts.length c2) (J a is.length cap) ss ts is w ms s st av kv r Bm m T w2.heap.size (w.heap.size+1) ys ls m2 s2 av2 kv2 vs2 r2 (J la ls.length lc) 0 ⟨#[]⟩ ask nm stp ⟨yh,yc,yt⟩ y' f V3):=hN.bl ba qb
    have HY:Hd (V3.heap[w3.heap.size]?=M (O #[F yh,I yc,S yt] 196 (0,0))):=by
     show _=_;rw[<- eV3];exact Bf _ _
    have hV3:w3.heap.size<=V3.heap.size:=ba.size;obtain⟨x0,x1,x2,x3,x4,x5,xf⟩:=Ft HN.o.tb;obtain⟨i0,ye,bq,bg,bv⟩:=info_parts Tryz.info199;have yv:Hd (∀o:Obj,(V3.alloc o).ownsRow w.heap.size 199 3 (J la ls.length lc) ls.length (Oo ls)):=λo=>HN.o.lo.alloc o;clear ba hN
    go_upto_region 6 with(at_builtin;refine wpList_append_lies _ rfl (.tmp 29) (.tmp 36) 190 rfl w.heap.size 199 i0 (G #[ze,F false,ze]) 3 40 underlying190 ye bq bg bv rfl qd _ ls.length (Oo ls) rfl (yv.o _) ⟨V3.heap.size,0,none⟩ 1 1 [S nm,F ask,S f] rfl rfl (Ou _ _ _ _ _) (by intro u hu;simp at hu;rcases hu with rfl|rfl|rfl<;>rfl) qb qm qb qh (V3.heap.size+1) qg ?_;intro g5 cp5 w5 ju W8 hl5 hlt5)
    clear x0 x1 x2 x3 x4 x5 xf;obtain⟨s5,gn5,kp5,zb⟩:=RB.appd (cp:=cp5) HC.o HN.o.ma HN.o.gn HN.o.lo HN.o.kp W8 hl5;(have tb5:w5.heap[w2.heap.size]?=M (O #[F false,I 0,ze,F ask,S nm,I stp] 192 (0,0)):=by rw[zb _ _ 192 qd HN.o.tb];exact HN.o.tb);(have rb5:w5.heap[w.heap.size+1]?=M (O #[I 0,ze,nS] 120 (0,0)):=by rw[zb _ _ 120 qd HN.o.rb];exact HN.o.rb);(have yb5:w5.heap[w3.heap.size]?=M (O #[F yh,I yc,S yt] 196 (0,0)):=by rw[zb _ _ 196 qd HY.o];exact HY.o);obtain⟨hBm5,mv5,mcs5,hmb5,hmc5,hmr5⟩:=HN.o.gn.mach;have hm5:w5.heap[m]?=V3.heap[m]?:=zb m _ 263 qd hmb5;have no5:∀b,(av2.ownBlock=M b\/kv2.ownBlock=M b\/Yn r2 b)->Fe w5 m b:=λb q=>(HN.o.no b q).congr hm5;have hbW5:Bw W0 w5:=HW.o.trans kp5.bel
    have HGO:Hd (Calls prog 176 #[G #[F yh,I yc,S yt],D (p_ m),D (p_ T)] w5 _):=goOn_any Bm m T is a cap ys ask nm stp ⟨yh,yc,yt⟩ y' w5 gn5 (by have:=Ag gn5.1;have:=gn5.2.2.1;omega) L0.o ⟨HRW.o.bl hbW5,λb off e=>by
     have h1:=(Dh HV.o).1;obtain⟨b',bp,e',q1,_,_⟩:=HRW.o 0 qb;rw[e]at e';cases e';have q2:b<W0.heap.size:=World.block_lt_of_cell? _ _ q1;have:=HC.o.h4;omega⟩ (HTP.o.1.bl hbW5) (HTP.o.2.bl hbW5) HV.o HN.o.yt HN.o.yy
    obtain⟨rr0,rr1,rr2,_⟩:=Dw yb5;have HG5:Hd (Bm<=m/\Bm<=T/\(∃cs,w5.heap[T]?=M (O cs 192 (0,0)))/\∃cs,w5.heap[m]?=M (O cs 263 (0,0))):=⟨hBm5,gn5.2.2.1,⟨_,gn5.1⟩,⟨mcs5,by rw[hm5];exact hmb5⟩⟩;have K6:Hd (w5.ownsRow w.heap.size 199 3 (J (p_ g5) (ls.length+1) cp5) (ls.length+1) (Oo ls++[S nm,F ask,S f])):=ju;have ie:Hd (Iw W0.heap.size h mb C (J sa ss.length c1) (J ta ts.length c2) ss ts w5 m2 st av2 kv2 vs2 s2 r2):=s5;have HT5:Hd _:=tb5;have HR5:Hd _:=rb5;have HK5:Hd (KQ W0.heap.size h mb C av kv r r2 w w5):=kp5;have HNO5:Hd (∀b,(av2.ownBlock=M b\/kv2.ownBlock=M b\/Yn r2 b)->Fe w5 m b):=no5;clear s5 gn5 kp5 zb tb5 rb5 yb5 hm5 no5 hbW5 ju W8 hl5 hlt5 hmb5 hmc5 hmr5 hBm5 yv HY;go_wp2_with fail;refine HGO.o.mono ?_;rintro e w6 ⟨⟨bz,ip⟩,U3,S6,c',t',it,nm',nh,rfl,hg6⟩;obtain⟨s6,lo6,tb6,rb6,kp6,no6⟩:=RB.went (wr:=w5) HC.o ie.o HG5.o.1 HG5.o.2.1 K6.o HT5.o HR5.o HK5.o HNO5.o HG5.o.2.2.1 HG5.o.2.2.2 bz ip U3;obtain⟨j0,j1,j2,j3,j4,j5,jf⟩:=Ft tb6;have HFIN:Hd (RB W0 h mb C (J sa ss.length c1) (J ta ts.length c2) (J a is.length cap) ss ts is w ms s st av kv r Bm m T w2.heap.size (w.heap.size+1) (ys++[y']) (ls++[⟨nm,ask,f⟩]) m2 s2 av2 kv2 vs2 r2 (J (p_ g5) (ls.length+1) cp5) S6 c' t' it nm' nh _):=RB.turned HC.o s6 HN.o.pre HN.o.ln HN.o.ro HN.o.lok HN.o.dd HN.o.sn hg6 tb6 rb6 (by rw[List.length_append,List.length_singleton,gC_snoc];exact lo6) kp6 HN.o.ra HN.o.rk no6;unfold Bb;dsimp only;clear bz ip U3 hg6 s6 lo6 tb6 rb6 kp6 no6 HGO rr0 rr1 rr2;go_wp2_with fail;refine⟨⟨ys++[y'],ls++[⟨nm,ask,f⟩],m2,s2,av2,kv2,vs2,r2,p_ g5,cp5,S6,c',t',it,nm',nh,qg,?_⟩,by simp[lenV];omega⟩;rw[List.length_append,List.length_singleton];exact HFIN.o
   ·unfold Lb;dsimp only;have uf:Hd (KQ W0.heap.size h mb C av kv r r' w w3/\Bc ss ts C.n ms s st (.run is [] []) ms' s' (.bad b)/\Cz W0.heap.size C w3 b v):=⟨J2,mq,hv⟩;clear J2 mq hv;go_wp2_with fail;exact⟨rfl,Or.inr ⟨b,v,r',ms',s',rfl,uf.o.1,uf.o.2.1,uf.o.2.2⟩⟩
end Go.Proofs.YtbkkjodaaijimaaGreatDoor
