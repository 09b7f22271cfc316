import Derived.Test.YtdbjfdhknkfjaaaGreatDoorUnA
import Derived.Deep.DeepCutAuto
namespace Go.Proofs.YtdbjfdhknkfjaaaGreatDoor
set_option maxHeartbeats 16000000
set_option maxRecDepth 100000
open Go.RowKit Go.Deep
set_option linter.unusedVariables false
set_option linter.unusedSimpArgs false
theorem ActP.parts {ts:List T2} {nm:ByteArray} {w:World} {e:Ending} (h:ActP ts nm w e):∃ a n cap b,e=.returned (.tuple #[.agg #[.slice a n cap],.bool b])/\(b=true <-> Ds (Ae ts) nm):=by
 rcases h with ⟨q,a,cap,h1,h2,h3,rfl⟩|⟨h1,rfl⟩
 ·exact⟨_,_,_,_,rfl,fun _=>h2▸Dq h1,fun _=>rfl⟩
 ·exact⟨_,_,_,_,rfl,(fun h=>by cases h),fun ⟨j,hj,e⟩=>by rw[Ax] at hj;rw[Cu] at e;exact absurd e (h1 j hj)⟩
def InP (x:ByteArray) (L:List ByteArray) (e:Ending):Prop:=∃ b,e=.returned (.bool b)/\(b=true <-> x∈L)
theorem wIn_any (a:Option Addr) (cap:Nat) (L:List ByteArray) (x:ByteArray) (w:World) (h:Fd w a L) (hl:L.length<=1048576) :
  Calls Tryz.prog 52 #[.slice a L.length cap,.string x] w fun e w'=>w'=w/\InP x L e:=by
 go_enter Tryz.func52,Tryz.ntmps52
 go_wp2
 go_loopw [5] (fun i wr=>∃ k:Nat,k<=L.length/\i=.int .i64 k/\w=wr/\Hd (∀ q,q<k->nx L q≠x)) (fun i _=>L.length-(intOf i).toNat)
 case atStart=>exact⟨0,Nat.zero_le _,rfl,rfl,fun q hq=>by omega⟩
 case round=>
  obtain⟨k,hk,rfl,rfl,HN⟩:=hrel
  by_cases hlt:k<L.length
  ·have hkI:(k:Int)<(L.length:Int):=by omega
   obtain⟨b,off,rfl,c1⟩:=h k hlt;have HM:Hd (nx L k∈L):=by show nx L k∈L;unfold nx;rw[gG,gQ hlt];exact List.getElem_mem _
   have HNX:Hd (∀ q,q<k+1->q<k\/nx L q=nx L k):=fun q hq=>by
    rcases Nat.lt_or_ge q k with h'|h'
    ·exact Or.inl h'
    ·exact Or.inr (by rw[show q=k by omega])
   replace c1:w.cell? ⟨b,off+k,none⟩=some (.string (nx L k)):=c1;generalize nx L k=y at *
   by_cases he:y=x
   ·have hq:=Ga he;have HE:Hd (x∈L):=he▸HM.o;clear he;go_wp2;go_ret;exact⟨rfl,true,rfl,fun _=>HE.o,fun _=>rfl⟩
   ·have hq:=Gq he
    have HN2:Hd (∀ q,q<k+1->nx L q≠x):=fun q hq=>by
     rcases HNX.o q hq with h'|h'
     ·exact HN.o q h'
     ·rw[h'];exact he
    clear he;go_wp2;go_roundw
    case rel=>exact⟨k+1,by omega,by go_num,trivial,HN2⟩
    case measure=>simp[intOf];omega
  ·have hkI:¬ (k:Int)<(L.length:Int):=by omega
   have HN2:Hd (x ∉ L):=fun hm=>by
    obtain⟨i,hi,e⟩:=List.getElem_of_mem hm;exact HN.o i (by omega) (by unfold nx;rw[gG,gQ hi];exact e)
   go_wp2;go_ret;exact⟨rfl,false,rfl,(fun h=>by cases h),fun h=>absurd h HN2.o⟩
structure Rin (ss:List S2) (ts:List T2) (nm:ByteArray) (L:List ByteArray) (k:Nat):Prop where
 nd:L.Nodup
 tg:∀ x∈L,Ds (Ae ts) x
 md:∀ x∈L,∃ ms d,Au ss ts [] [] (.make x) ms (.ok d)
 nm:nm∈L
 cl:∀ j,j<k->j<L.length->∀ ms d,Au ss ts [] [] (.make (nx L j)) ms (.ok d)->∀ g∈d.ls,g.ask=true->Ds (Ae ts) g.name->g.name∈L
theorem nx_app {L:List ByteArray} {x:ByteArray} {j:Nat} (h:j<L.length):nx (L++[x]) j=nx L j:=by
 unfold nx;rw[gG,List.getElem?_append_left h,gG]
theorem Zk {L:List ByteArray} {j:Nat} (h:j<L.length):nx L j∈L:=by
 unfold nx;rw[gG,gQ h];exact List.getElem_mem _
theorem Rin.len {ss:List S2} {ts:List T2} {nm:ByteArray} {L:List ByteArray} {k:Nat} (h:Rin ss ts nm L k):L.length<=ts.length:=by
 have:=nd_le L (Ae ts) h.nd fun x hx=>by
  obtain⟨j,hj,e⟩:=h.tg x hx;exact e▸Zk hj
 rw[Ax] at this
 exact this
theorem Rin.add {ss:List S2} {ts:List T2} {nm:ByteArray} {L:List ByteArray} {k:Nat} (h:Rin ss ts nm L k) (hk:k<=L.length) {x:ByteArray} (hx:x ∉ L) (ht:Ds (Ae ts) x) (hm:∃ ms d,Au ss ts [] [] (.make x) ms (.ok d)):Rin ss ts nm (L++[x]) k:=by
 refine⟨?_,fun y hy=>?_,fun y hy=>?_,List.mem_append_left _ h.nm,fun j hj hl ms d hd g hg ha hh=>?_⟩
 ·rw[List.nodup_append];refine⟨h.nd,by simp,fun a ha b hb e=>?_⟩;rw[List.mem_singleton.mp hb] at e;exact hx (e▸ha)
 ·rcases List.mem_append.mp hy with hy|hy
  ·exact h.tg y hy
  ·rw[List.mem_singleton.mp hy];exact ht
 ·rcases List.mem_append.mp hy with hy|hy
  ·exact h.md y hy
  ·rw[List.mem_singleton.mp hy];exact hm
 ·rw[nx_app (by omega)] at hd;exact List.mem_append_left _ (h.cl j hj (by omega) ms d hd g hg ha hh)
def Vh (w:World) (la:Option Addr) (ls:List G3):Prop:=Vg w la ls/\(ls=[]\/∃(b:Nat) (cs:Array Value),la=some ⟨b,0,none⟩/\w.heap[b]?=some (.cells cs 73 (0,0)))
theorem Vh.keep {w w':World} {la:Option Addr} {ls:List G3} (h:Vh w la ls) (hk:∀(b:Nat) (cs:Array Value),w.heap[b]?=some (.cells cs 73 (0,0))->w'.heap[b]?=w.heap[b]?):Vh w' la ls:=by
 obtain⟨h1,rfl|⟨b,cs,rfl,hb⟩⟩:=h
 ·exact⟨Ip _ _,Or.inl rfl⟩
 ·have e:=hk b cs hb;refine⟨fun i hi=>?_,Or.inr ⟨b,cs,rfl,e.trans hb⟩⟩;obtain⟨b',off,ha,q1,q2,q3⟩:=h1 i hi;cases ha;exact⟨_,_,rfl,(World.cell?_of_block e).trans q1,(World.cell?_of_block e).trans q2,(World.cell?_of_block e).trans q3⟩
theorem Vh.bl {w w':World} {la:Option Addr} {ls:List G3} (h:Vh w la ls) (hb:Below w.heap.size w w'):Vh w' la ls:=h.keep fun b cs k=>hb.block b (Aj k)
theorem Vh.set3 {w:World} {la:Option Addr} {ls:List G3} (h:Vh w la ls) {b:Nat} {u0 u1 u2:Value} (hz:w.heap[b]?=some (.cells #[u0,u1,u2] 38 (0,0))) (v0 v1 v2:Value):Vh (((w.setCell ⟨b,0,none⟩ v0).setCell ⟨b,1,none⟩ v1).setCell ⟨b,2,none⟩ v2) la ls:=
 h.keep fun b' cs k=>Hk (fun e=>by subst e;rw[hz] at k;cases k) v0 v1 v2
theorem Vh.grown {w w':World} {la:Option Addr} {ls:List G3} (h:Vh w la ls) {B n:Nat} {v:Value} {xs:List Value} (ho:w.ownsRow B 9 1 v n xs) (hg:w.grownBy w' v.ownBlock):Vh w' la ls:=
 h.keep fun b cs k=>hg.block b (Aj k) (fun e=>by obtain⟨_,cur,hh⟩:=De ho e.symm;rw[hh] at k;cases k)
theorem Qs {ts:List T2} {ls:List G3} {m:Nat} {g:G3} {L L':List ByteArray} (h:∀ q,q<m->(gx ls q).ask=true->Ds (Ae ts) (gx ls q).name->(gx ls q).name∈L) (hg:∀ q,q<m+1->q<m\/gx ls q=g) (hL:∀ x∈L,x∈L') (hn:g.ask=true->Ds (Ae ts) g.name->g.name∈L'):∀ q,q<m+1->(gx ls q).ask=true->Ds (Ae ts) (gx ls q).name->(gx ls q).name∈L':=fun q hq ha hh=>by
 rcases hg q hq with h'|h'
 ·exact hL _ (h q h' ha hh)
 ·rw[h'] at ha hh ⊢;exact hn ha hh
def ReP (ss:List S2) (ts:List T2) (nm:ByteArray) (w':World) (e:Ending):Prop:=∃(L:List ByteArray) (a:Option Addr) (cap:Nat),e=.returned (.slice a L.length cap)/\Fd w' a L/\L.length<=200/\(L=[]\/Rin ss ts nm L L.length)/\(Ds (Ae ts) nm->nm∈L)
theorem Uf (sa ta:Option Addr) (c1 c2:Nat) (ss:List S2) (ts:List T2) (nm:ByteArray) (w:World) (h:Hp w sa ss ta ts) (hsm:Eg ss ts) (hn:nm.size<=9223372036854775807) (hc:Fb ss ts=0) (hS:Nk ts) (hd:∃ ms d,Au ss ts [] [] (.make nm) ms (.ok d)) :
  Calls Tryz.prog 31 #[.agg #[.slice sa ss.length c1,.slice ta ts.length c2],.string nm] w fun e w'=>Below w.heap.size w w'/\ReP ss ts nm w' e:=by
 have hE:=Ls h hc
 have HE:=hid hE
 have hl2:=hE.l2
 obtain⟨P,eP⟩:∃ P,w.heap.size=P:=⟨_,rfl⟩
 obtain⟨w1,ew1⟩:∃ V,w.alloc (.cells #[.slice sa ss.length c1,.slice ta ts.length c2] 26)=V:=⟨_,rfl⟩
 have hbw1:Below w.heap.size w w1:=by rw[<- ew1];exact aN _ _
 have HPB:Hd (w1.heap[P]?=some (.cells #[.slice sa ss.length c1,.slice ta ts.length c2] 26 (0,0))):=by show _=_;rw[<- ew1,<- eP];exact Ai _ _
 have hP1:P<w1.heap.size:=Aj HPB.o
 obtain⟨W,eW⟩:∃ V,w1.alloc (.cells #[] 9)=V:=⟨_,rfl⟩
 have HR0:Hd (W.ownsRow w1.heap.size 9 1 (.slice (some ⟨w1.heap.size,0,none⟩) 0 0) 0 (Ba [])):=by
  show World.ownsRow _ _ _ _ _ _ _;rw[<- eW];exact World.ownsRow_lit w1 #[] 0 (Nat.le_refl _) (by unfold maxLen;omega) rfl
 have HB1:Hd (Below w1.heap.size w1 W):=by show Below _ _ _;rw[<- eW];exact aN _ _
 obtain⟨i0,hi0,hz0,hzz1,hzz2⟩:=info_parts Tryz.info9b
 have HOK:=hid (h.bl hbw1)
 have HBW:=hid hbw1
 obtain⟨d0,d1⟩:=Af (Aa HPB.o HB1.o)
 clear h hbw1 hE
 go_enter Tryz.func31,Tryz.ntmps31
 go_wp2_with fail
 clear eW ew1 eP d0 d1
 refine(La _ ta c2 ts nm W (HOK.o.bl HB1.o).rt hsm.lt hsm.lc).mono ?_
 rintro e w2 ⟨hb2,hact⟩
 obtain⟨pa,pl,pc,b,rfl,hhas⟩:=hact.parts
 have HHAS:=hid hhas
 have HR2:=hid (Ad HR0.o hb2)
 have HB2:=hid (bN HB1.o hb2)
 clear hact hhas hb2 HR0 HB1
 obtain⟨Q,eQ⟩:∃ P,w2.heap.size=P:=⟨_,rfl⟩
 obtain⟨w3,ew3⟩:∃ V,w2.alloc (.cells #[.slice pa pl pc] 31)=V:=⟨_,rfl⟩
 have hbw3:Below w2.heap.size w2 w3:=by rw[<- ew3];exact aN _ _
 have HQ:Hd (w3.heap[Q]?=some (.cells #[.slice pa pl pc] 31 (0,0))):=by show _=_;rw[<- ew3,<- eQ];exact Ai _ _
 have HR3:=hid (Ad HR2.o hbw3)
 have HB3:=hid (bN HB2.o hbw3)
 clear hbw3 HR2 HB2
 cases b
 ·have HNO:Hd (¬ Ds (Ae ts) nm):=fun k=>by cases HHAS.o.mpr k
  clear HHAS;go_wp2_with fail;go_ret;exact⟨bN HBW.o HB3.o,[],_,_,rfl,Fs _ _,Nat.zero_le _,Or.inl rfl,fun k=>absurd k HNO.o⟩
 have HYES:Hd (Ds (Ae ts) nm):=HHAS.o.mp rfl
 clear HHAS
 have hs3:w1.heap.size<=w3.heap.size:=HB3.o.size
 go_wp2_with (first|(at_builtin;refine wpList_append_own _ rfl (.tmp 24) (.tmp 26) 36 rfl w1.heap.size 9 i0 (.string ⟨#[]⟩) 1 16 Tryz.underlying36 hi0 hz0 hzz1 hzz2 rfl (by decide) _ _ _ rfl (HR3.o.alloc _) ⟨w3.heap.size,0,none⟩ 1 1 [.string nm] rfl rfl (by have:=cell_one_new w3 (.string nm) 9;simpa using this) (by intro u hu;simp at hu;subst hu;rfl) (by unfold maxLen;omega) (by omega) (by simp;omega) ?_;intro v4 w4 hown4 hgrow4 hnil4))
 obtain⟨g4,cp4,rfl⟩:∃ g cp,v4=.slice (some ⟨g,0,none⟩) 1 cp:=by
  rcases hown4.2 with ⟨e,h0⟩|⟨g,cap,cur,e,_⟩
  ·omega
  ·exact⟨g,cap,e⟩
 have HR4:Hd (w4.ownsRow w1.heap.size 9 1 (.slice (some ⟨g4,0,none⟩) [nm].length cp4) [nm].length (Ba [nm])):=hown4
 have HB4:Hd (Below w1.heap.size w1 w4):=(HB3.o.alloc (by omega) _).grown hgrow4 (by simp;omega) (fun j hj=>(HR3.o.lt j hj).1)
 have HI4:Hd (Rin ss ts nm [nm] 0):=⟨by simp,(fun x hx=>by rw[List.mem_singleton.mp hx];exact HYES.o),(fun x hx=>by rw[List.mem_singleton.mp hx];exact hd),List.mem_singleton.mpr rfl,fun j hj=>by omega⟩
 clear hown4 hgrow4 hnil4 ew3 eQ
 go_wp2_with fail
 go_loopw [5,8] (fun v i wr=>∃(L:List ByteArray) (ra:Option Addr) (rc k:Nat),k<=L.length/\i=.int .i64 k/\v=.slice ra L.length rc/\Hd (Rin ss ts nm L k)/\Hd (wr.ownsRow w1.heap.size 9 1 (.slice ra L.length rc) L.length (Ba L))/\Hd (Below w1.heap.size w1 wr)) (fun _ i _=>ts.length-(intOf i).toNat)
 case atStart=>exact⟨[nm],_,_,0,by simp,rfl,rfl,HI4,HR4,HB4⟩
 case round=>
  clear HR4 HB4 HI4 HR3 HB3;obtain⟨L,ra,rc,k,hk,rfl,rfl,HI,HRO,HW⟩:=hrel;have hLt:=HI.o.len;have hszr:w1.heap.size<=wr.heap.size:=HW.o.size
  by_cases hlt:k<L.length
  rotate_left 1
  ·have hkI:¬ (k:Int)<(L.length:Int):=by omega
   have ekL:L.length=k:=by omega
   have HIF:Hd (Rin ss ts nm L L.length):=by show Rin _ _ _ _ _;rw[ekL];exact HI.o
   clear ekL;have HST:=hid (Kb HRO.o).2;go_wp2_with fail;go_ret;exact⟨bN HBW.o HW.o,L,_,_,rfl,HST.o,by omega,Or.inr HIF.o,fun _=>HIF.o.nm⟩
  have hkI:(k:Int)<(L.length:Int):=by omega
  obtain⟨b,off,rfl,hx⟩:=(Kb HRO.o).2 k hlt;have hxm:=Zk hlt;have HXM:=hid hxm;have HTG:=hid (HI.o.tg _ hxm);have HNX:=hid (HI.o.md _ hxm);have hxs:(nx L k).size<=9223372036854775807:=by obtain⟨j,hj,e⟩:=Me HTG.o;have:=(HE.o.v.nm j hj).2.1;rw[e] at this;omega
  have HXr:Hd (wr.cell? ⟨b,off+k,none⟩=some (.string (nx L k))):=hx;have HPr:=hid (Aa HPB.o HW.o);have HOKr:=hid (HOK.o.bl HW.o);obtain⟨x,ex⟩:∃ x,nx L k=x:=⟨_,rfl⟩;rw[ex] at HXM HTG HNX hxs HXr;have EX:=hid ex;clear ex hx hxm;go_wp2_with fail
  go_cut [9] (fun p wx=>∃(ls:List G3) (la:Option Addr) (lc:Nat),p=.slice la ls.length lc/\Hd (∃ c t ch,Ck ss ts x ls c t ch)/\Hd (Vh wx la ls)/\Hd (Below wr.heap.size wr wx))
  case first=>
   refine Lt.begin 11 (fun w'=>w'.heap[P]?=some (.cells #[.slice sa ss.length c1,.slice ta ts.length c2] 26 (0,0))/\w'.cell? ⟨b,off+k,none⟩=some (.string x)) (by kernel_rfl) ?_;obtain⟨wD,eD⟩:∃ V,wr.drew=V:=⟨_,rfl⟩;rw[eD];have bD:Below wr.heap.size wr wD:=by rw[<- eD];exact(Below.refl _ _).drew
   have HSS:∀ V:World,Below wr.heap.size wr V->(fun w'=>w'.heap[P]?=some (.cells #[.slice sa ss.length c1,.slice ta ts.length c2] 26 (0,0))/\w'.cell? ⟨b,off+k,none⟩=some (.string x)) V:=fun V h=>⟨Aa HPr.o h,Ab h HXr.o⟩;clear eD;change K 0 _
   iterate 5
    refine Lt.ti (v:=?_) (HSS _ bD) ?_ ?_;rotate_left 1
    ·rintro w ⟨s1,s2⟩;obtain⟨c0,c1⟩:=Af s1;go_simp;first|done|with_reducible rfl
    simp only[gX]
   refine Lt.two (i:=5) (j:=9) (by kernel_rfl) rfl rfl (fun K hK=>?_) (fun K hK=>?_)
   ·go_simp;refine(Ft sa ta c1 c2 ss ts x wD (HOKr.o.bl bD) hsm hxs).mono ?_;unfold Ps;rintro e wC ⟨hbC,ls,c,t,ch,ca,cc,la,lc,rfl,htr,hch,hlo,hty⟩;have HTR:=hid htr;have HLO:Hd (Vh wC la ls):=⟨hlo,hty⟩;have bC:=bt bD hbC;clear htr hch hlo hty;refine hK.out _ _ (fun _=>HSS _ bC) (fun _=>?_);clear hK K
    try simp only[gX]
    change K 6 _
    iterate 3
     refine Lt.ti (v:=?_) (HSS _ bC) ?_ ?_;rotate_left 1
     ·rintro w ⟨s1,s2⟩;obtain⟨c0,c1⟩:=Af s1;go_simp;first|done|with_reducible rfl
     simp only[gX]
    refine Lt.sp (i:=9) (fun K hK=>?_);go_simp;obtain⟨wP,eP⟩:∃ V,wC.alloc (.cells #[.int .i64 0,.string ⟨#[]⟩,.slice none 0 0] 38)=V:=⟨_,rfl⟩;rw[eP];(have hbP:Below wC.heap.size wC wP:=by rw[<- eP];exact aN _ _);(have zP:wP.heap[wC.heap.size]?=some (.cells #[.int .i64 0,.string ⟨#[]⟩,.slice none 0 0] 38 (0,0)):=by rw[<- eP];exact Ai _ _);have bP:=bt bC hbP;have hPl:wr.heap.size<=wC.heap.size:=bC.size;clear eP;refine hK.out _ _ (fun _=>HSS _ bP) (fun _=>?_);clear hK K
    try simp only[gX]
    refine Lt.ti (i:=10) (v:=?_) (HSS _ bP) ?_ ?_;rotate_left 1
    ·rintro w ⟨s1,s2⟩;obtain⟨c0,c1⟩:=Af s1;go_simp;first|done|with_reducible rfl
    simp only[gX];obtain⟨k0,k1,k2,kf⟩:=Et zP;replace HLO:=hid (HLO.o.bl hbP);refine Lt.sp (i:=11) (fun K hK=>?_);go_simp;refine hK.out _ _ (fun h=>absurd rfl h) (fun _=>?_);clear hK K;refine Lt.done (by kernel_rfl) ?_ _;go_wp2_with fail;go_meet
    case rel=>exact⟨ls,la,lc,rfl,⟨_,_,_,HTR.o⟩,HLO.o.set3 zP _ _ _,Cf bP hPl _ _ _⟩
   ·go_simp;obtain⟨wP,eP⟩:∃ V,wD.alloc (.cells #[.int .i64 0,.string ⟨#[]⟩,.slice none 0 0] 38)=V:=⟨_,rfl⟩;rw[eP];(have hbP:Below wD.heap.size wD wP:=by rw[<- eP];exact aN _ _);(have zP:wP.heap[wD.heap.size]?=some (.cells #[.int .i64 0,.string ⟨#[]⟩,.slice none 0 0] 38 (0,0)):=by rw[<- eP];exact Ai _ _);have bP:=bt bD hbP;have hPl:wr.heap.size<=wD.heap.size:=bD.size;clear eP;refine hK.out _ _ (fun _=>HSS _ bP) (fun _=>?_);clear hK K
    try simp only[gX]
    refine Lt.sp (i:=5) (fun K hK=>?_);go_simp;refine(Ft sa ta c1 c2 ss ts x wP (HOKr.o.bl bP) hsm hxs).mono ?_;unfold Ps;rintro e wC ⟨hbC,ls,c,t,ch,ca,cc,la,lc,rfl,htr,hch,hlo,hty⟩;have HTR:=hid htr;have HLO:Hd (Vh wC la ls):=⟨hlo,hty⟩;have bC:=bt bP hbC;clear htr hch hlo hty;replace zP:=Aa zP hbC;refine hK.out _ _ (fun _=>HSS _ bC) (fun _=>?_);clear hK K
    try simp only[gX]
    change K 6 _
    iterate 3
     refine Lt.ti (v:=?_) (HSS _ bC) ?_ ?_;rotate_left 1
     ·rintro w ⟨s1,s2⟩;obtain⟨c0,c1⟩:=Af s1;go_simp;first|done|with_reducible rfl
     simp only[gX]
    refine Lt.ti (i:=10) (v:=?_) (HSS _ bC) ?_ ?_;rotate_left 1
    ·rintro w ⟨s1,s2⟩;obtain⟨c0,c1⟩:=Af s1;go_simp;first|done|with_reducible rfl
    simp only[gX];obtain⟨k0,k1,k2,kf⟩:=Et zP;refine Lt.sp (i:=11) (fun K hK=>?_);go_simp;refine hK.out _ _ (fun h=>absurd rfl h) (fun _=>?_);clear hK K;refine Lt.done (by kernel_rfl) ?_ _;go_wp2_with fail;go_meet
    case rel=>exact⟨ls,la,lc,rfl,⟨_,_,_,HTR.o⟩,HLO.o.set3 zP _ _ _,Cf bC hPl _ _ _⟩
  case rest=>
   obtain⟨ls,la,lc,rfl,HTR,HG,HBT⟩:=hcut;have hls:ls.length<=200:=by obtain⟨c,t,ch,h⟩:=HTR.o;exact(h.len HOKr.o).1
   obtain⟨n,en⟩:∃ n,ls.length=n:=⟨_,rfl⟩;rw[en] at hls ⊢;have EN:=hid en;clear en;obtain⟨wS,ewS⟩:∃ V,wc=V:=⟨_,rfl⟩;rw[ewS] at HG HBT ⊢;clear ewS;have HRS:=hid (Ad HRO.o HBT.o);have HWS:=hid (bN HW.o HBT.o);have HKX:Hd (k<L.length/\nx L k=x):=⟨hlt,EX.o⟩
   have HDO:Hd (∃ ms d,Au ss ts [] [] (.make x) ms (.ok d)/\d.ls=ls):=by
    obtain⟨ms,d,hd'⟩:=HNX.o;obtain⟨c,t,ch,htr⟩:=HTR.o;obtain⟨j,hj,e⟩:=Me HTG.o;have hp:Ck ss ts x d.ls d.c d.t []:=Or.inr ⟨hc,Cs (e▸HE.o.v.nm j hj),ms,_,hd',rfl,rfl,rfl,rfl⟩;exact⟨ms,d,hd',(Ck.uniq HOKr.o htr hp).1⟩
   clear HTR HNX HRO HXr HPr hlt hkI hk;go_wp2_with fail
   go_loopw [5,11] (fun v i wq=>∃(L:List ByteArray) (ra:Option Addr) (rc m:Nat),m<=n/\i=.int .i64 m/\v=.slice ra L.length rc/\Hd (Rin ss ts nm L k)/\Hd (k<L.length/\nx L k=x)/\Hd (∀ q,q<m->(gx ls q).ask=true->Ds (Ae ts) (gx ls q).name->(gx ls q).name∈L)/\Hd (wq.ownsRow w1.heap.size 9 1 (.slice ra L.length rc) L.length (Ba L))/\Hd (Below w1.heap.size w1 wq)/\Hd (Vh wq la ls)) (fun _ i _=>n-(intOf i).toNat)
   case atStart=>exact⟨L,_,_,0,Nat.zero_le _,rfl,rfl,HI,HKX,fun q hq=>by omega,HRS,HWS,HG⟩
   case round=>
    clear HI HKX HRS HWS HG HW hLt;obtain⟨L,ra,rc,m,hm,rfl,rfl,HI,HKX,HCL,HRO,HW,HG⟩:=hrel;have hLt:=HI.o.len;have hszr:w1.heap.size<=wr.heap.size:=HW.o.size
    by_cases hlt:m<n
    rotate_left 1
    ·(have hkI:¬ (m:Int)<(n:Int):=by omega);have hkl:=HKX.o.1
     have HI2:Hd (Rin ss ts nm L (k+1)):=⟨HI.o.nd,HI.o.tg,HI.o.md,HI.o.nm,fun j hj hl ms d hd g hg ha hh=>by
      rcases Nat.lt_or_ge j k with h'|h'
      ·exact HI.o.cl j h' hl ms d hd g hg ha hh
      ·(obtain rfl:j=k:=by omega);rw[HKX.o.2] at hd;obtain⟨ms',d',h1,h2⟩:=HDO.o;obtain⟨_,e⟩:=Au.unique HE.o.v.ascS HE.o.v.ascT h1 hd;cases e;rw[h2] at hg;obtain⟨q,hq,e⟩:=List.getElem_of_mem hg;(have eg:gx ls q=g:=by unfold gx;rw[gG,gQ hq];exact e);(have hqm:q<m:=by rw[EN.o] at hq;omega);have:=HCL.o q hqm;rw[eg] at this;exact this ha hh⟩
     go_wp2_with fail;go_roundw
     case rel=>exact⟨L,_,_,k+1,by omega,by go_num,rfl,HI2,HRO,HW⟩
     case measure=>simp[intOf];omega
    (have hkI:(m:Int)<(n:Int):=by omega);(have hml:m<ls.length:=by rw[EN.o];exact hlt);obtain⟨b,off,rfl,g1,g2,g3⟩:=HG.o.1 _ hml
    have HASK:Hd ((gx ls m).ask=true->∃ ms d,Au ss ts [] [] (.make (gx ls m).name) ms (.ok d)):=fun ha=>by
     obtain⟨ms,d,h1,h2⟩:=HDO.o;(have hmem:gx ls m∈d.ls:=by rw[h2];unfold gx;rw[gG,gQ hml];exact List.getElem_mem _);obtain⟨ms',d',h3,_⟩:=Wz HE.o.v hS h1 _ hmem ha;exact⟨ms',d',h3⟩
    have HGX:Hd (∀ q,q<m+1->q<m\/gx ls q=gx ls m):=fun q hq=>by
     rcases Nat.lt_or_ge q m with h'|h'
     ·exact Or.inl h'
     ·exact Or.inr (by rw[show q=m by omega])
    have HC1:=hid g1;have HC2:=hid g2;generalize gx ls m=g at *;have HPr:=hid (Aa HPB.o HW.o);have HOKr:=hid (HOK.o.bl HW.o);clear g1 g2 g3;go_wp2_with fail;obtain⟨gn,egn⟩:∃ v,g.name=v:=⟨_,rfl⟩;obtain⟨ga,ega⟩:∃ v,g.ask=v:=⟨_,rfl⟩;have EG:=hid (And.intro egn ega);rw[egn] at HC1 HASK;rw[ega] at HC2 HASK;clear egn ega
    go_cut [13] (fun p wx=>∃ b2:Bool,p=.bool b2/\Hd (b2=true <-> Ds (Ae ts) gn)/\Hd (Below wr.heap.size wr wx))
    case first=>
     refine Lt.begin 12 (fun w'=>w'.heap[P]?=some (.cells #[.slice sa ss.length c1,.slice ta ts.length c2] 26 (0,0))/\w'.cell? ⟨b,off+m*3,none⟩=some (.string gn)) (by kernel_rfl) ?_;obtain⟨wD,eD⟩:∃ V,wr.drew=V:=⟨_,rfl⟩;rw[eD];(have bD:Below wr.heap.size wr wD:=by rw[<- eD];exact(Below.refl _ _).drew);have HSS:∀ V:World,Below wr.heap.size wr V->(fun w'=>w'.heap[P]?=some (.cells #[.slice sa ss.length c1,.slice ta ts.length c2] 26 (0,0))/\w'.cell? ⟨b,off+m*3,none⟩=some (.string gn)) V:=fun V h=>⟨Aa HPr.o h,Ab h HC1.o⟩;clear eD;change K 0 _
     iterate 6
      refine Lt.ti (v:=?_) (HSS _ bD) ?_ ?_;rotate_left 1
      ·rintro w ⟨s1,s2⟩;obtain⟨c0,c1⟩:=Af s1;go_simp;first|done|with_reducible rfl
      simp only[gX]
     refine Lt.two (i:=6) (j:=10) (by kernel_rfl) rfl rfl (fun K hK=>?_) (fun K hK=>?_)
     ·go_simp;refine(La _ ta c2 ts gn wD (HOKr.o.bl bD).rt hsm.lt hsm.lc).mono ?_;rintro e wC ⟨hbC,hact⟩;obtain⟨pa2,pl2,pc2,b2,rfl,hh2⟩:=hact.parts;have HAC:=hid hh2;have bC:=bt bD hbC;clear hact hh2;refine hK.out _ _ (fun _=>HSS _ bC) (fun _=>?_);clear hK K
      try simp only[gX]
      change K 7 _
      iterate 3
       refine Lt.ti (v:=?_) (HSS _ bC) ?_ ?_;rotate_left 1
       ·rintro w ⟨s1,s2⟩;obtain⟨c0,c1⟩:=Af s1;go_simp;first|done|with_reducible rfl
       simp only[gX]
      refine Lt.sp (i:=10) (fun K hK=>?_);go_simp;obtain⟨wP,eP⟩:∃ V,wC.alloc (.cells #[.slice none 0 0] 31)=V:=⟨_,rfl⟩;rw[eP];(have hbP:Below wC.heap.size wC wP:=by rw[<- eP];exact aN _ _);(have zP:wP.heap[wC.heap.size]?=some (.cells #[.slice none 0 0] 31 (0,0)):=by rw[<- eP];exact Ai _ _);have bP:=bt bC hbP;have hPl:wr.heap.size<=wC.heap.size:=bC.size;clear eP;refine hK.out _ _ (fun _=>HSS _ bP) (fun _=>?_);clear hK K
      try simp only[gX]
      have k0:=Bz zP;have kf:=fun j=>fH zP j;refine Lt.sp (i:=11) (fun K hK=>?_);go_simp;have bS:Below wr.heap.size wr _:=bP.setCell (p:=⟨wC.heap.size,0,none⟩) hPl (.slice pa2 pl2 pc2);refine hK.out _ _ (fun _=>HSS _ bS) (fun _=>?_);clear hK K
      try simp only[gX]
      refine Lt.sp (i:=12) (fun K hK=>?_);go_simp;refine hK.out _ _ (fun h=>absurd rfl h) (fun _=>?_);clear hK K;refine Lt.done (by kernel_rfl) ?_ _;go_wp2_with fail;go_meet
      case rel=>exact⟨b2,rfl,HAC,bS⟩
     ·go_simp;obtain⟨wP,eP⟩:∃ V,wD.alloc (.cells #[.slice none 0 0] 31)=V:=⟨_,rfl⟩;rw[eP];(have hbP:Below wD.heap.size wD wP:=by rw[<- eP];exact aN _ _);(have zP:wP.heap[wD.heap.size]?=some (.cells #[.slice none 0 0] 31 (0,0)):=by rw[<- eP];exact Ai _ _);have bP:=bt bD hbP;have hPl:wr.heap.size<=wD.heap.size:=bD.size;clear eP;refine hK.out _ _ (fun _=>HSS _ bP) (fun _=>?_);clear hK K
      try simp only[gX]
      refine Lt.sp (i:=6) (fun K hK=>?_);go_simp;refine(La _ ta c2 ts gn wP (HOKr.o.bl bP).rt hsm.lt hsm.lc).mono ?_;rintro e wC ⟨hbC,hact⟩;obtain⟨pa2,pl2,pc2,b2,rfl,hh2⟩:=hact.parts;have HAC:=hid hh2;have bC:=bt bP hbC;clear hact hh2;replace zP:=Aa zP hbC;refine hK.out _ _ (fun _=>HSS _ bC) (fun _=>?_);clear hK K
      try simp only[gX]
      change K 7 _
      iterate 3
       refine Lt.ti (v:=?_) (HSS _ bC) ?_ ?_;rotate_left 1
       ·rintro w ⟨s1,s2⟩;obtain⟨c0,c1⟩:=Af s1;go_simp;first|done|with_reducible rfl
       simp only[gX]
      have k0:=Bz zP;have kf:=fun j=>fH zP j;refine Lt.sp (i:=11) (fun K hK=>?_);go_simp;have bS:Below wr.heap.size wr _:=bC.setCell (p:=⟨wD.heap.size,0,none⟩) hPl (.slice pa2 pl2 pc2);refine hK.out _ _ (fun _=>HSS _ bS) (fun _=>?_);clear hK K
      try simp only[gX]
      refine Lt.sp (i:=12) (fun K hK=>?_);go_simp;refine hK.out _ _ (fun h=>absurd rfl h) (fun _=>?_);clear hK K;refine Lt.done (by kernel_rfl) ?_ _;go_wp2_with fail;go_meet
      case rel=>exact⟨b2,rfl,HAC,bS⟩
    case rest=>
     obtain⟨b2,rfl,HB2,HBX⟩:=hcut;obtain⟨wZ,ewZ⟩:∃ V,wc=V:=⟨_,rfl⟩;rw[ewZ] at HBX ⊢;clear ewZ;replace HC1:=hid (Ab HBX.o HC1.o);replace HC2:=hid (Ab HBX.o HC2.o);have HRZ:=hid (Ad HRO.o HBX.o);have HWZ:=hid (bN HW.o HBX.o);have HGZ:=hid (HG.o.bl HBX.o);have hszz:w1.heap.size<=wZ.heap.size:=HWZ.o.size;have k1:=HC1.o;have k2:=HC2.o;clear HPr HOKr HRO HW HG HBX;cases ga
     ·clear HB2;have HCN:=hid (Qs HCL.o HGX.o (fun _ h=>h) (fun ha=>by rw[EG.o.2] at ha;cases ha));go_wp2_with fail;go_roundw
      case rel=>exact⟨L,_,_,m+1,by omega,by go_num,rfl,HI,HKX,HCN,HRZ,HWZ,HGZ⟩
      case measure=>simp[intOf];omega
     cases b2
     ·(have HNO:Hd (¬ Ds (Ae ts) gn):=fun k=>by cases HB2.o.mpr k);clear HB2;have HCN:=hid (Qs HCL.o HGX.o (fun _ h=>h) (fun _ hh=>by rw[EG.o.1] at hh;exact absurd hh HNO.o));go_wp2_with fail;go_roundw
      case rel=>exact⟨L,_,_,m+1,by omega,by go_num,rfl,HI,HKX,HCN,HRZ,HWZ,HGZ⟩
      case measure=>simp[intOf];omega
     have HYS:Hd (Ds (Ae ts) gn):=HB2.o.mp rfl;clear HB2;go_wp2_with fail;refine(wIn_any ra rc L gn wZ (Kb HRZ.o).2 (by omega)).mono ?_;rintro e w9 ⟨rfl,bi,rfl,hbi⟩;have HBI:=hid hbi;clear hbi;cases bi;rotate_left 1
     ·have HIN:Hd (gn∈L):=HBI.o.mp rfl;clear HBI;have HCN:=hid (Qs HCL.o HGX.o (fun _ h=>h) (fun _ _=>by rw[EG.o.1];exact HIN.o));go_wp2_with fail;go_roundw
      case rel=>exact⟨L,_,_,m+1,by omega,by go_num,rfl,HI,HKX,HCN,HRZ,HWZ,HGZ⟩
      case measure=>simp[intOf];omega
     (have HNI:Hd (gn ∉ L):=fun k=>by cases HBI.o.mpr k);clear HBI
     go_wp2_with (first|(at_builtin;refine wpList_append_own _ rfl (.tmp 77) (.tmp 83) 36 rfl w1.heap.size 9 i0 (.string ⟨#[]⟩) 1 16 Tryz.underlying36 hi0 hz0 hzz1 hzz2 rfl (by decide) _ _ _ rfl (HRZ.o.alloc _) ⟨w9.heap.size,0,none⟩ 1 1 [.string gn] rfl rfl (by have:=cell_one_new w9 (.string gn) 9;simpa using this) (by intro u hu;simp at hu;subst hu;rfl) (by unfold maxLen;omega) (by omega) (by simp;omega) ?_;intro v4 w4 hown4 hgrow4 hnil4))
     obtain⟨g4,cp4,rfl⟩:∃ g cp,v4=.slice (some ⟨g,0,none⟩) (L.length+1) cp:=by
      rcases hown4.2 with ⟨e,h0⟩|⟨g,cap,cur,e,_⟩
      ·omega
      ·exact⟨g,cap,e⟩
     have HR4:Hd (w4.ownsRow w1.heap.size 9 1 (.slice (some ⟨g4,0,none⟩) (L++[gn]).length cp4) (L++[gn]).length (Ba (L++[gn]))):=by
      show World.ownsRow _ _ _ _ _ _ _;rw[List.length_append,List.length_singleton,show Ba (L++[gn])=Ba L++[.string gn] by simp[Ba]];exact hown4
     have HB4:Hd (Below w1.heap.size w1 w4):=(HWZ.o.alloc (by omega) _).grown hgrow4 (by simp;omega) (fun j hj=>(HRZ.o.lt j hj).1);have HG4:=hid ((HGZ.o.bl ((Below.refl _ _).alloc (Nat.le_refl _) (.cells #[.string gn] 9))).grown (HRZ.o.alloc _) hgrow4);have HI4:=hid (HI.o.add (Nat.le_of_lt HKX.o.1) HNI.o HYS.o (HASK.o (by trivial)));have HK4:Hd (k<(L++[gn]).length/\nx (L++[gn]) k=x):=⟨by have:=HKX.o.1;simp;omega,(nx_app HKX.o.1).trans HKX.o.2⟩;have HCN:=hid (Qs HCL.o HGX.o (fun _ h=>List.mem_append_left _ h) (fun _ _=>by rw[EG.o.1];exact List.mem_append_right _ (List.mem_singleton.mpr rfl)));clear hown4 hgrow4 hnil4 HRZ HWZ HGZ;go_wp2_with fail;go_roundw
     case rel=>exact⟨L++[gn],some ⟨g4,0,none⟩,cp4,m+1,by omega,by go_num,by rw[List.length_append];rfl,HI4,HK4,HCN,HR4,HB4,HG4⟩
     case measure=>simp[intOf];omega
def LkP (ss:List S2) (ts:List T2) (nm key:ByteArray) (e:Ending):Prop:=∃ b,e=.returned (.bool b)/\(b=false->∃ L,(Ds (Ae ts) nm->nm∈L)/\∀ x∈L,Rch ss ts L x (·≠key))
theorem Vt (sa ta:Option Addr) (c1 c2:Nat) (ss:List S2) (ts:List T2) (nm key:ByteArray) (w:World) (h:Hp w sa ss ta ts) (hsm:Eg ss ts) (hn:nm.size<=9223372036854775807) (hc:Fb ss ts=0) (hS:Nk ts) (hd:∃ ms d,Au ss ts [] [] (.make nm) ms (.ok d)) :
  Calls Tryz.prog 10 #[.agg #[.slice sa ss.length c1,.slice ta ts.length c2],.string nm,.string key] w fun e w'=>Below w.heap.size w w'/\LkP ss ts nm key e:=by
 have hE:=Ls h hc
 have HE:=hid hE
 obtain⟨P,eP⟩:∃ P,w.heap.size=P:=⟨_,rfl⟩
 obtain⟨w1,ew1⟩:∃ V,w.alloc (.cells #[.slice sa ss.length c1,.slice ta ts.length c2] 26)=V:=⟨_,rfl⟩
 have hbw1:Below w.heap.size w w1:=by rw[<- ew1];exact aN _ _
 have HPB:Hd (w1.heap[P]?=some (.cells #[.slice sa ss.length c1,.slice ta ts.length c2] 26 (0,0))):=by show _=_;rw[<- ew1,<- eP];exact Ai _ _
 have HOK:=hid (h.bl hbw1)
 have HBW:=hid hbw1
 have HRE:=hid (Uf sa ta c1 c2 ss ts nm w1 (h.bl hbw1) hsm hn hc hS hd)
 obtain⟨d0,d1⟩:=Af HPB.o
 clear h hbw1 hE
 go_enter Tryz.func10,Tryz.ntmps10
 go_wp2_with fail
 clear ew1 eP d0 d1
 refine HRE.o.mono ?_
 rintro e w2 ⟨hb2,L,ra,rc,rfl,hst,hL2,hrin,hnm⟩
 have HST:=hid hst
 have HRI:=hid hrin
 have HNM:=hid hnm
 have HB2:=hid hb2
 clear hst hrin hnm hb2 HRE
 go_wp2_with fail
 go_loopw [8] (fun i wr=>∃ k:Nat,k<=L.length/\i=.int .i64 k/\Hd (∀ j,j<k->∀ ms d,Au ss ts [] [] (.make (nx L j)) ms (.ok d)->∀ g∈d.ls,g.name≠key)/\Hd (Below w2.heap.size w2 wr)) (fun i _=>L.length-(intOf i).toNat)
 case atStart=>exact⟨0,Nat.zero_le _,rfl,(fun j hj=>by omega),Below.refl _ _⟩
 case round=>
  obtain⟨k,hk,rfl,HK,HW⟩:=hrel;have HW1:=hid (bN HB2.o HW.o)
  by_cases hlt:k<L.length
  rotate_left 1
  ·have hkI:¬ (k:Int)<(L.length:Int):=by omega
   have HF:Hd (∀ x∈L,Rch ss ts L x (·≠key)):=fun x hx=>by
    rcases HRI.o with rfl|hr
    ·simp at hx
    ·obtain⟨ms,d,hd'⟩:=hr.md x hx;obtain⟨j,hj,e⟩:=List.getElem_of_mem hx;(have ej:nx L j=x:=by unfold nx;rw[gG,gQ hj];exact e);exact⟨ms,d,hd',fun g hg=>⟨HK.o j (by omega) ms d (by rw[ej];exact hd') g hg,fun ha hh=>hr.cl j hj hj ms d (by rw[ej];exact hd') g hg ha hh⟩⟩
   go_wp2_with fail;go_ret;exact⟨bN HBW.o HW1.o,false,rfl,fun _=>⟨L,HNM.o,HF.o⟩⟩
  have hkI:(k:Int)<(L.length:Int):=by omega
  have hrin:Rin ss ts nm L L.length:=by rcases HRI.o with rfl|hr;exact absurd hlt (by simp);exact hr
  obtain⟨b,off,rfl,hx⟩:=(HST.o.bl HW.o) k hlt;have hxm:=Zk hlt;have HTG:=hid (hrin.tg _ hxm);have HNX:=hid (hrin.md _ hxm);clear hrin hxm;have hxs:(nx L k).size<=9223372036854775807:=by obtain⟨j,hj,e⟩:=Me HTG.o;have:=(HE.o.v.nm j hj).2.1;rw[e] at this;omega
  have HXr:Hd (wr.cell? ⟨b,off+k,none⟩=some (.string (nx L k))):=hx;have HPr:=hid (Aa HPB.o HW1.o);have HOKr:=hid (HOK.o.bl HW1.o);obtain⟨x,ex⟩:∃ x,nx L k=x:=⟨_,rfl⟩;rw[ex] at HTG HNX hxs HXr;have EX:=hid ex;clear ex hx;go_wp2_with fail
  go_cut [9] (fun p wx=>∃(ls:List G3) (la:Option Addr) (lc:Nat),p=.slice la ls.length lc/\Hd (∃ c t ch,Ck ss ts x ls c t ch)/\Hd (Vh wx la ls)/\Hd (Below wr.heap.size wr wx))
  case first=>
   refine Lt.begin 11 (fun w'=>w'.heap[P]?=some (.cells #[.slice sa ss.length c1,.slice ta ts.length c2] 26 (0,0))/\w'.cell? ⟨b,off+k,none⟩=some (.string x)) (by kernel_rfl) ?_;obtain⟨wD,eD⟩:∃ V,wr.drew=V:=⟨_,rfl⟩;rw[eD];have bD:Below wr.heap.size wr wD:=by rw[<- eD];exact(Below.refl _ _).drew
   have HSS:∀ V:World,Below wr.heap.size wr V->(fun w'=>w'.heap[P]?=some (.cells #[.slice sa ss.length c1,.slice ta ts.length c2] 26 (0,0))/\w'.cell? ⟨b,off+k,none⟩=some (.string x)) V:=fun V h=>⟨Aa HPr.o h,Ab h HXr.o⟩;clear eD;change K 0 _
   iterate 5
    refine Lt.ti (v:=?_) (HSS _ bD) ?_ ?_;rotate_left 1
    ·rintro w ⟨s1,s2⟩;obtain⟨c0,c1⟩:=Af s1;go_simp;first|done|with_reducible rfl
    simp only[gX]
   refine Lt.two (i:=5) (j:=9) (by kernel_rfl) rfl rfl (fun K hK=>?_) (fun K hK=>?_)
   ·go_simp;refine(Ft sa ta c1 c2 ss ts x wD (HOKr.o.bl bD) hsm hxs).mono ?_;unfold Ps;rintro e wC ⟨hbC,ls,c,t,ch,ca,cc,la,lc,rfl,htr,hch,hlo,hty⟩;have HTR:=hid htr;have HLO:Hd (Vh wC la ls):=⟨hlo,hty⟩;have bC:=bt bD hbC;clear htr hch hlo hty;refine hK.out _ _ (fun _=>HSS _ bC) (fun _=>?_);clear hK K
    try simp only[gX]
    change K 6 _
    iterate 3
     refine Lt.ti (v:=?_) (HSS _ bC) ?_ ?_;rotate_left 1
     ·rintro w ⟨s1,s2⟩;obtain⟨c0,c1⟩:=Af s1;go_simp;first|done|with_reducible rfl
     simp only[gX]
    refine Lt.sp (i:=9) (fun K hK=>?_);go_simp;obtain⟨wP,eP⟩:∃ V,wC.alloc (.cells #[.int .i64 0,.string ⟨#[]⟩,.slice none 0 0] 38)=V:=⟨_,rfl⟩;rw[eP];(have hbP:Below wC.heap.size wC wP:=by rw[<- eP];exact aN _ _);(have zP:wP.heap[wC.heap.size]?=some (.cells #[.int .i64 0,.string ⟨#[]⟩,.slice none 0 0] 38 (0,0)):=by rw[<- eP];exact Ai _ _);have bP:=bt bC hbP;have hPl:wr.heap.size<=wC.heap.size:=bC.size;clear eP;refine hK.out _ _ (fun _=>HSS _ bP) (fun _=>?_);clear hK K
    try simp only[gX]
    refine Lt.ti (i:=10) (v:=?_) (HSS _ bP) ?_ ?_;rotate_left 1
    ·rintro w ⟨s1,s2⟩;obtain⟨c0,c1⟩:=Af s1;go_simp;first|done|with_reducible rfl
    simp only[gX];obtain⟨k0,k1,k2,kf⟩:=Et zP;replace HLO:=hid (HLO.o.bl hbP);refine Lt.sp (i:=11) (fun K hK=>?_);go_simp;refine hK.out _ _ (fun h=>absurd rfl h) (fun _=>?_);clear hK K;refine Lt.done (by kernel_rfl) ?_ _;go_wp2_with fail;go_meet
    case rel=>exact⟨ls,la,lc,rfl,⟨_,_,_,HTR.o⟩,HLO.o.set3 zP _ _ _,Cf bP hPl _ _ _⟩
   ·go_simp;obtain⟨wP,eP⟩:∃ V,wD.alloc (.cells #[.int .i64 0,.string ⟨#[]⟩,.slice none 0 0] 38)=V:=⟨_,rfl⟩;rw[eP];(have hbP:Below wD.heap.size wD wP:=by rw[<- eP];exact aN _ _);(have zP:wP.heap[wD.heap.size]?=some (.cells #[.int .i64 0,.string ⟨#[]⟩,.slice none 0 0] 38 (0,0)):=by rw[<- eP];exact Ai _ _);have bP:=bt bD hbP;have hPl:wr.heap.size<=wD.heap.size:=bD.size;clear eP;refine hK.out _ _ (fun _=>HSS _ bP) (fun _=>?_);clear hK K
    try simp only[gX]
    refine Lt.sp (i:=5) (fun K hK=>?_);go_simp;refine(Ft sa ta c1 c2 ss ts x wP (HOKr.o.bl bP) hsm hxs).mono ?_;unfold Ps;rintro e wC ⟨hbC,ls,c,t,ch,ca,cc,la,lc,rfl,htr,hch,hlo,hty⟩;have HTR:=hid htr;have HLO:Hd (Vh wC la ls):=⟨hlo,hty⟩;have bC:=bt bP hbC;clear htr hch hlo hty;replace zP:=Aa zP hbC;refine hK.out _ _ (fun _=>HSS _ bC) (fun _=>?_);clear hK K
    try simp only[gX]
    change K 6 _
    iterate 3
     refine Lt.ti (v:=?_) (HSS _ bC) ?_ ?_;rotate_left 1
     ·rintro w ⟨s1,s2⟩;obtain⟨c0,c1⟩:=Af s1;go_simp;first|done|with_reducible rfl
     simp only[gX]
    refine Lt.ti (i:=10) (v:=?_) (HSS _ bC) ?_ ?_;rotate_left 1
    ·rintro w ⟨s1,s2⟩;obtain⟨c0,c1⟩:=Af s1;go_simp;first|done|with_reducible rfl
    simp only[gX];obtain⟨k0,k1,k2,kf⟩:=Et zP;refine Lt.sp (i:=11) (fun K hK=>?_);go_simp;refine hK.out _ _ (fun h=>absurd rfl h) (fun _=>?_);clear hK K;refine Lt.done (by kernel_rfl) ?_ _;go_wp2_with fail;go_meet
    case rel=>exact⟨ls,la,lc,rfl,⟨_,_,_,HTR.o⟩,HLO.o.set3 zP _ _ _,Cf bC hPl _ _ _⟩
  case rest=>
   obtain⟨ls,la,lc,rfl,HTR,HG,HBT⟩:=hcut;have hls:ls.length<=200:=by obtain⟨c,t,ch,h⟩:=HTR.o;exact(h.len HOKr.o).1
   obtain⟨n,en⟩:∃ n,ls.length=n:=⟨_,rfl⟩;rw[en] at hls ⊢;have EN:=hid en;clear en;obtain⟨wS,ewS⟩:∃ V,wc=V:=⟨_,rfl⟩;rw[ewS] at HG HBT ⊢;clear ewS
   have HDO:Hd (∃ ms d,Au ss ts [] [] (.make x) ms (.ok d)/\d.ls=ls):=by
    obtain⟨ms,d,hd'⟩:=HNX.o;obtain⟨c,t,ch,htr⟩:=HTR.o;obtain⟨j,hj,e⟩:=Me HTG.o;have hp:Ck ss ts x d.ls d.c d.t []:=Or.inr ⟨hc,Cs (e▸HE.o.v.nm j hj),ms,_,hd',rfl,rfl,rfl,rfl⟩;exact⟨ms,d,hd',(Ck.uniq HOKr.o htr hp).1⟩
   have HWS:=hid (bN HW.o HBT.o);clear HTR HNX HXr HPr hkI;go_wp2_with fail
   go_loopw [11] (fun i wq=>∃ m:Nat,m<=n/\i=.int .i64 m/\Hd (∀ q,q<m->(gx ls q).name≠key)/\Hd (Below wS.heap.size wS wq)) (fun i _=>n-(intOf i).toNat)
   case atStart=>exact⟨0,Nat.zero_le _,rfl,(fun q hq=>by omega),Below.refl _ _⟩
   case round=>
    obtain⟨m,hm,rfl,HCL,HWQ⟩:=hrel
    by_cases hlm:m<n
    rotate_left 1
    ·have hkI:¬ (m:Int)<(n:Int):=by omega
     have HK2:Hd (∀ j,j<k+1->∀ ms d,Au ss ts [] [] (.make (nx L j)) ms (.ok d)->∀ g∈d.ls,g.name≠key):=fun j hj ms d hd g hg=>by
      rcases Nat.lt_or_ge j k with h'|h'
      ·exact HK.o j h' ms d hd g hg
      ·(obtain rfl:j=k:=by omega);rw[EX.o] at hd;obtain⟨ms',d',h1,h2⟩:=HDO.o;obtain⟨_,e⟩:=Au.unique HE.o.v.ascS HE.o.v.ascT h1 hd;cases e;rw[h2] at hg;obtain⟨q,hq,e⟩:=List.getElem_of_mem hg;(have eg:gx ls q=g:=by unfold gx;rw[gG,gQ hq];exact e);have:=HCL.o q (by rw[EN.o] at hq;omega);rw[eg] at this;exact this
     have HW2:=hid (bN HWS.o HWQ.o);go_wp2_with fail;go_roundw
     case rel=>exact⟨k+1,by omega,by go_num,HK2,HW2⟩
     case measure=>simp[intOf];omega
    (have hkI:(m:Int)<(n:Int):=by omega);(have hml:m<ls.length:=by rw[EN.o];exact hlm);obtain⟨b,off,rfl,g1,g2,g3⟩:=(HG.o.bl HWQ.o).1 _ hml
    have HGX:Hd (∀ q,q<m+1->q<m\/gx ls q=gx ls m):=fun q hq=>by
     rcases Nat.lt_or_ge q m with h'|h'
     ·exact Or.inl h'
     ·exact Or.inr (by rw[show q=m by omega])
    generalize gx ls m=g at *;clear g2 g3
    by_cases he:g.name=key
    ·have hq:=Ga he;clear he;go_wp2_with fail;go_ret;exact⟨bN HBW.o (bN HB2.o (bN HWS.o HWQ.o)),true,rfl,fun h=>by cases h⟩
    have hq:=Gq he;have HNE:=hid he;clear he
    have HC2:Hd (∀ q,q<m+1->(gx ls q).name≠key):=fun q hq=>by
     rcases HGX.o q hq with h'|h'
     ·exact HCL.o q h'
     ·rw[h'];exact HNE.o
    go_wp2_with fail;go_roundw
    case rel=>exact⟨m+1,by omega,by go_num,HC2,HWQ⟩
    case measure=>simp[intOf];omega
end Go.Proofs.YtdbjfdhknkfjaaaGreatDoor
