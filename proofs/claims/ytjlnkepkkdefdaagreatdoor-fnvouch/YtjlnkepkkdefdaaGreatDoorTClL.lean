import Derived.Test.YtjlnkepkkdefdaaGreatDoorTClK
namespace Go.Proofs.YtjlnkepkkdefdaaGreatDoor
open Go.RowKit
set_option linter.unusedVariables false
set_option maxHeartbeats 8000000
set_option maxRecDepth 100000
set_option linter.unusedSimpArgs false
section
open Go.Deep
theorem nl_mx {ms:Ms} {nm:ByteArray} (h:lk ms nm=none) {i:Nat} (hi:i<ms.length) (hn:(mx ms i).1=nm) (hf:∀ j,j<i->(mx ms j).1≠nm):False:=by
 have:=lk_at hi hn hf
 rw[h] at this
 cases this
theorem set_last (ms:Ms) (a b:ByteArray × Option Md):(ms++[a]).set ms.length b=ms++[b]:=by
 rw[List.set_append_right _ _ (Nat.le_refl _)]
 simp
theorem Iq {w:World} {base e sz g n n' cap:Nat} {xs:List Value} {cs:Array Value} {T:TypeId} (ho:w.ownsRow base e sz (.slice (some ⟨g,0,none⟩) n cap) n' xs) (hT:T≠e) (h:w.heap[g]?=some (.cells cs T (0,0))):False:=by
 rcases ho.2 with ⟨e,_⟩|⟨g',cap',cur,e,_,hh,_⟩
 ·cases e
 ·simp only[Value.slice.injEq,Option.some.injEq,Addr.mk.injEq,and_true] at e;obtain⟨rfl,_⟩:=e;rw[h] at hh;injection hh with hh;injection hh with _ h5;exact hT h5
theorem Bh.undone {B h g n cap:Nat} {sv tv:Value} {w:World} {ms:Ms} {st:List ByteArray} {kv:Value} {vs:Nat->Value} (s:Bh B h sv tv w ms st (.slice (some ⟨g,0,none⟩) n cap) kv vs) {nm:ByteArray} {k:Nat} (hk:k<ms.length) (hm:mx ms k=(nm,none)) :
  n=ms.length/\(w.cell? ⟨g,k*6+1,none⟩=some (.int .i64 0)/\w.cell? ⟨g,k*6+2,none⟩=some (.string ⟨#[]⟩)/\w.cell? ⟨g,k*6+3,none⟩=some (.slice none 0 0)/\w.cell? ⟨g,k*6+4,none⟩=some (.slice none 0 0)/\w.cell? ⟨g,k*6+5,none⟩=some (.bool false))/\∀ j,w.frozen? ⟨g,j,none⟩=false:=by
 have hr:=s.row
 have hn:n=ms.length:=by
  rcases hr.2 with ⟨e,_⟩|⟨g',cap',cur,e,_⟩
  ·cases e
  ·simp only[Value.slice.injEq] at e;exact e.2.1
 subst hn
 have gc:∀ j,j<6->w.cell? ⟨g,k*6+j,none⟩=(Vz (nm,none) (vs k))[j]?:=fun j hj=>by
  rw[hr.cellAt (k*6+j) (by omega),Ov _ _ k j hk hj,hm]
 exact⟨rfl,⟨gc 1 (by omega),gc 2 (by omega),gc 3 (by omega),gc 4 (by omega),gc 5 (by omega)⟩,fun j=>hr.frozenAt j⟩
theorem Ys {B h r g cap:Nat} {sv tv kv u0 u1 u2:Value} {w U:World} {ss:List S2} {ts:List T2} {ms:Ms} {st:List ByteArray} {vs:Nat->Value} {nm:ByteArray} (c:Int) (t:ByteArray) (s:Bh B h sv tv U (ms++[(nm,none)]) st (.slice (some ⟨g,0,none⟩) (ms.length+1) cap) kv vs) (k:KS B h w U) (hr:U.heap[r]?=some (.cells #[u0,u1,u2] 32 (0,0))) (hne:r≠h) (hB:B<=r) (hw:w.heap.size<=r) (hd:Av ss ts ms st (.make nm) (ms++[(nm,some ⟨c,t,[]⟩)]) (.ok ⟨c,t,[]⟩)) :
  Tj B h sv tv ss ts ms st vs nm w (.returned (.agg #[.int .i64 c,.string t,.slice none 0 0])) ((((Mh U g ms.length c t).setCell ⟨r,0,none⟩ (.int .i64 c)).setCell ⟨r,1,none⟩ (.string t)).setCell ⟨r,2,none⟩ (.slice none 0 0))/\((((Mh U g ms.length c t).setCell ⟨r,0,none⟩ (.int .i64 c)).setCell ⟨r,1,none⟩ (.string t)).setCell ⟨r,2,none⟩ (.slice none 0 0)).heap[r]?=some (.cells #[.int .i64 c,.string t,.slice none 0 0] 32 (0,0)):=by
 have s':Bh B h sv tv U (ms++[(nm,none)]) st (.slice (some ⟨g,0,none⟩) (ms++[(nm,(none:Option Md))]).length cap) kv vs:=by
  rw[List.length_append,List.length_singleton];exact s
 obtain⟨f1,f2,f3⟩:=s'.fill0 c t (by simp) (Mp ms (nm,none))
 rw[set_last] at f1
 have h2:=f3 _ _ 32 (by decide) hr
 refine⟨⟨Kz (k.trans f2) hB hw _ _ _,_,_,hd,Or.inl ⟨_,_,_,_,rfl,rfl,f1.set3 h2 hne _ _ _,fun i d b hi he hb=>?_⟩⟩,Cz h2 _ _ _⟩
 by_cases q:i=ms.length
 ·rw[if_pos q] at hb;simp[Value.ownBlock] at hb
 ·rw[if_neg q] at hb;have hi':i<ms.length:=by simp at hi;omega
  rw[Qd hi'] at he;exact Or.inl ⟨d,hi',he,hb⟩
theorem Bh.lay {B h:Nat} {sv tv:Value} {W w4:World} {ms:Ms} {st:List ByteArray} {mv kv kv':Value} {vs:Nat->Value} {nm:ByteArray} {o:Obj} (s:Bh B h sv tv W ms st mv kv vs) (hg:(W.alloc o).grownBy w4 kv.ownBlock) (ho:w4.ownsRow B 9 1 kv' (st.length+1) (Bf st++[.string nm])) :
  Bh B h sv tv (w4.setCell ⟨h,3,none⟩ kv') ms (st++[nm]) mv kv' vs/\KS B h W (w4.setCell ⟨h,3,none⟩ kv')/\w4.heap[h]?=some (.cells #[sv,tv,mv,kv,.int .i64 0,.string ⟨#[]⟩,.slice none 0 0,.bool false] 69 (0,0)):=by
 have hbA:Below W.heap.size W (W.alloc o):=aN _ _
 have s1:=s.bl hbA
 have hh:=Af s.blk
 have hB:=s.hB
 have hblk:w4.heap[h]?=some (.cells #[sv,tv,mv,kv,.int .i64 0,.string ⟨#[]⟩,.slice none 0 0,.bool false] 69 (0,0)):=Fh s1.stk hg (by decide) s1.blk
 refine⟨⟨s.hB,?_,Da (Hn s1.row s1.stk (by decide) hg) hblk (by decide) 3 _,?_,fun i d hi hd=>((s1.lks i d hi hd).grown s1.stk (by decide) hg).set hblk (by decide) 3 _⟩,((KS.old hbA (by omega)).trans (KS.grown (Or.inl rfl) s1.stk hg (by simp;omega))).setH s.hB 3 _,hblk⟩
 ·rw[jB hblk kv' (i:=3)];rfl
 ·have e:Bf (st++[nm])=Bf st++[.string nm]:=by simp[Bf]
  rw[List.length_append,List.length_singleton,e];exact Da ho hblk (by decide) 3 _
theorem own_init {w:World} {base e n cap g:Nat} {xs:List Value} {x:Value} (h:w.ownsRow base e 1 (.slice (some ⟨g,0,none⟩) (n+1) cap) (n+1) (xs++[x])):w.ownsRow base e 1 (.slice (some ⟨g,0,none⟩) n cap) n xs:=by
 have h1:=h.1
 rw[List.length_append,List.length_singleton] at h1
 refine⟨by omega,?_⟩
 rcases h.2 with ⟨e,_⟩|⟨g',cap',cur,e,hb,hh,h5,h6,h7,h8⟩
 ·cases e
 ·simp only[Value.slice.injEq,Option.some.injEq,Addr.mk.injEq,and_true,true_and] at e;obtain⟨rfl,rfl⟩:=e;refine Or.inr ⟨g,cap,cur,rfl,hb,hh,by omega,h6,h7,?_⟩;have h9:=congrArg (List.take n) h8;rw[List.take_take,List.take_left' (by omega)] at h9;rw[<- h9];congr 1;omega
theorem Bh.unlay {B h g cap:Nat} {sv tv:Value} {w:World} {ms:Ms} {st:List ByteArray} {mv:Value} {vs:Nat->Value} {nm:ByteArray} (s:Bh B h sv tv w ms (st++[nm]) mv (.slice (some ⟨g,0,none⟩) (st.length+1) cap) vs) :
  Bh B h sv tv (w.setCell ⟨h,3,none⟩ (.slice (some ⟨g,0,none⟩) st.length cap)) ms st mv (.slice (some ⟨g,0,none⟩) st.length cap) vs:=by
 have hk:=s.stk
 have e:Bf (st++[nm])=Bf st++[.string nm]:=by simp[Bf]
 rw[List.length_append,List.length_singleton,e] at hk
 refine⟨s.hB,?_,Da s.row s.blk (by decide) 3 _,Da (own_init hk) s.blk (by decide) 3 _,fun i d hi hd=>(s.lks i d hi hd).set s.blk (by decide) 3 _⟩
 rw[jB s.blk (.slice (some ⟨g,0,none⟩) st.length cap) (i:=3)];rfl
theorem Bh.stkIs {B h:Nat} {sv tv:Value} {w:World} {ms:Ms} {st:List ByteArray} {mv kv:Value} {vs:Nat->Value} {nm:ByteArray} (s:Bh B h sv tv w ms (st++[nm]) mv kv vs):∃ g cap,kv=.slice (some ⟨g,0,none⟩) (st.length+1) cap/\st.length+1<=cap:=by
 rcases s.stk.2 with ⟨_,h0⟩|⟨g,cap,cur,e,_,_,h5,_⟩
 ·simp at h0
 ·rw[List.length_append,List.length_singleton] at e h5;exact⟨g,cap,e,h5⟩
theorem Bh.rowIs {B h:Nat} {sv tv:Value} {w:World} {ms:Ms} {st:List ByteArray} {mv kv:Value} {vs:Nat->Value} (s:Bh B h sv tv w ms st mv kv vs) (hl:0<ms.length):∃ g cap,mv=.slice (some ⟨g,0,none⟩) ms.length cap:=by
 rcases s.row.2 with ⟨_,h0⟩|⟨g,cap,cur,e,_⟩
 ·omega
 ·exact⟨g,cap,e⟩
theorem Ar.is {w:World} {B:Nat} {v:Value} {ls:List G3} (h:Ar w B v ls):∃ a n c,v=.slice a n c:=by
 obtain⟨xs,ho,_⟩:=h
 rcases ho.2 with ⟨e,_⟩|⟨g,cap,cur,e,_⟩
 ·exact⟨_,_,_,e⟩
 ·exact⟨_,_,_,e⟩
theorem being_at {ss:List S2} {ts:List T2} {ms m8:Ms} {st r:List ByteArray} {nm:ByteArray} (hI:Ja ss ts m8 (st++[nm])) (hn:Eo m8=Eo (ms++[(nm,none)])++r):ms.length<m8.length/\mx m8 ms.length=(nm,none)/\∀ d,m8.set ms.length (nm,some d)=Fx m8 nm d:=by
 have hlen:(Eo m8).length=m8.length:=by simp[Eo]
 have hk:ms.length<m8.length:=by rw[<- hlen,hn];simp[Eo]
 have h1:(mx m8 ms.length).1=nm:=by
  rw[mx_nm,hn];unfold nx Eo;rw[gG,List.getElem?_append_left (by simp),List.map_append,List.getElem?_append_right (by simp)];simp
 have hf:∀ j,j<ms.length->(mx m8 j).1≠nm:=fun j hj e=>by
  have:=Yk hI.nd (i:=j) (j:=ms.length) (by omega) hk (e.trans h1.symm);omega
 have h2:(mx m8 ms.length).2=none:=by
  have a:=lk_at hk h1 hf;rw[(hI.being nm).mpr (by simp)] at a;exact(Option.some.inj a).symm
 refine⟨hk,Prod.ext h1 h2,fun d=>?_⟩
 apply List.ext_getElem?
 intro j
 unfold Fx
 rw[List.getElem?_map]
 by_cases q:ms.length=j
 ·subst q
  have e1:(m8[ms.length]).1=nm:=by
   have:=h1;unfold mx at this;rw[gG,gQ hk] at this;exact this
  rw[List.getElem?_set_self hk,gQ hk];simp[e1]
 ·rw[List.getElem?_set_ne q]
  cases hj:m8[j]? with
  | none=>rfl
  | some e=>
   have hj':j<m8.length:=by
    rcases Nat.lt_or_ge j m8.length with z|z
    ·exact z
    ·rw[List.getElem?_eq_none z] at hj;cases hj
   have hne:e.1≠nm:=fun e'=>by
    have hm:(mx m8 j).1=nm:=by
     unfold mx;rw[gG,hj];exact e'
    exact q (Yk hI.nd hj' hk (hm.trans h1.symm)).symm
   simp[hne]
theorem made_end {B h r g cap:Nat} {sv tv kv lv u0 u1 u2:Value} {w w1 U:World} {ss:List S2} {ts:List T2} {ms m8:Ms} {st:List ByteArray} {vs vs8:Nat->Value} {nm:ByteArray} {d:Md} (s:Bh B h sv tv U m8 st (.slice (some ⟨g,0,none⟩) m8.length cap) kv vs8) (k:KS B h w U) (hr:U.heap[r]?=some (.cells #[u0,u1,u2] 32 (0,0))) (hne:r≠h) (hB:B<=r) (hw:w.heap.size<=r) (hk:ms.length<m8.length) (hm:mx m8 ms.length=(nm,none)) (hset:m8.set ms.length (nm,some d)=Fx m8 nm d) (hl:Ar U B lv d.ls) (hd:Av ss ts ms st (.make nm) (Fx m8 nm d) (.ok d)) (hfr:Fr w1 (ms++[(nm,none)]) vs m8 vs8) (hw1:w.heap.size<=w1.heap.size) (hlb:∀ b,lv.ownBlock=some b->w.heap.size<=b) :
  Tj B h sv tv ss ts ms st vs nm w (.returned (.agg #[.int .i64 d.c,.string d.t,.slice none 0 0])) ((((Sv U g ms.length d.c d.t lv).setCell ⟨r,0,none⟩ (.int .i64 d.c)).setCell ⟨r,1,none⟩ (.string d.t)).setCell ⟨r,2,none⟩ (.slice none 0 0))/\((((Sv U g ms.length d.c d.t lv).setCell ⟨r,0,none⟩ (.int .i64 d.c)).setCell ⟨r,1,none⟩ (.string d.t)).setCell ⟨r,2,none⟩ (.slice none 0 0)).heap[r]?=some (.cells #[.int .i64 d.c,.string d.t,.slice none 0 0] 32 (0,0)):=by
 obtain⟨f1,f2,f3⟩:=s.fill hk hm hl
 have h2:=f3 _ _ 32 (by decide) hr
 have hfr':Fr w ms vs (m8.set ms.length (nm,some d)) (fun i=>if i=ms.length then lv else vs8 i):=fun i e b hi he hb=>by
  rw[List.length_set] at hi
  by_cases q:i=ms.length
  ·simp only[if_pos q] at hb;exact Or.inr (hlb b hb)
  ·simp only[if_neg q] at hb
   have hx:mx (m8.set ms.length (nm,some d)) i=mx m8 i:=by
    unfold mx;rw[gG,List.getElem?_set_ne (fun e=>q e.symm),gG]
   rw[hx] at he
   rcases hfr i e b hi he hb with ⟨d',q1,q2,q3⟩|q'
   ·(have hi':i<ms.length:=by simp at q1;omega);rw[Qd hi'] at q2;exact Or.inl ⟨d',hi',q2,q3⟩
   ·exact Or.inr (by omega)
 rw[hset] at f1 hfr'
 exact⟨⟨Kz (k.trans f2) hB hw _ _ _,_,_,hd,Or.inl ⟨_,_,_,_,rfl,rfl,f1.set3 h2 hne _ _ _,hfr'⟩⟩,Cz h2 _ _ _⟩
theorem Yn (W0:World) (h:Nat) (sa ta:Option Addr) (c1 c2:Nat) (ss:List S2) (ts:List T2) (ms:Ms) (st:List ByteArray) (mv kv:Value) (vs:Nat->Value) (nm:ByteArray) (w:World) (hE:Jt W0 sa ta ss ts) (s:Bh W0.heap.size h (.slice sa ss.length c1) (.slice ta ts.length c2) w ms st mv kv vs) (hI:Ja ss ts ms st) (hW:Below W0.heap.size W0 w) (hl:ms.length<=100000) (hk:lk ms nm=none) (h60:st.length<=60) (hnm:Aq nm) (hph:phi ts ms<=0)
  (hM:st.length<60->Tk W0 h (.slice sa ss.length c1) (.slice ta ts.length c2) ss ts (st++[nm])) :
  Calls Tryz.prog 45 #[.pointer (some ⟨h,0,none⟩),.string nm] w fun e w'=>Tj W0.heap.size h (.slice sa ss.length c1) (.slice ta ts.length c2) ss ts ms st vs nm w e w':=by
 have hB:=hW.size
 have hhs:h<w.heap.size:=Af s.blk
 obtain⟨W,eW⟩:∃ W,w.alloc (.cells #[.int .i64 0,.string ⟨#[]⟩,.slice none 0 0] 32)=W:=⟨_,rfl⟩
 have hb0:Below w.heap.size w W:=by rw[<- eW];exact aN _ _
 have hWs:W.heap.size=w.heap.size+1:=by rw[<- eW];simp
 have HRB:Hd (W.heap[w.heap.size]?=some (.cells #[.int .i64 0,.string ⟨#[]⟩,.slice none 0 0] 32 (0,0))):=by
  show _=_;rw[<- eW];exact Aj _ _
 have s1:=s.bl hb0
 obtain⟨k0,k1,c2w,k3,k7,kf⟩:=s1.cells
 obtain⟨a,cap,rfl,hat⟩:=s1.at_
 have hbW:Below W0.heap.size W0 W:=hW.trans (hb0.mono hB)
 have HF:Hd (Calls Tryz.prog 22 #[.pointer (some ⟨h,0,none⟩),.string nm] W _):=Su W0.heap.size h _ _ ms st _ kv vs nm _ s1 (by omega)
 have HSO:Hd (∀ V,Below W0.heap.size W0 V->Calls Tryz.prog 77 #[.agg #[.slice sa ss.length c1,.slice ta ts.length c2],.string nm] V _):=fun V hV=>Lz sa ta ts.length c1 c2 ss nm V (hE.rs.bl hV) (by have:=hE.l1;omega)
 have HTA:Hd (∀ V,Below W0.heap.size W0 V->Calls Tryz.prog 43 #[.agg #[.slice sa ss.length c1,.slice ta ts.length c2],.string nm] V _):=fun V hV=>Ly sa ta ss.length c1 c2 ts nm V (hE.rt.bl hV) (by have:=hE.l2;omega)
 have HS:Hd (Bh W0.heap.size h (.slice sa ss.length c1) (.slice ta ts.length c2) W ms st (.slice a ms.length cap) kv vs):=s1
 have HK:Hd (lk ms nm=none):=hk
 have HKW:Hd (KS W0.heap.size h w W):=KS.old hb0 hB
 have HE:Hd (Jt W0 sa ta ss ts):=hE
 have HI:Hd (Ja ss ts ms st):=hI
 have HW:Hd (Below W0.heap.size W0 w):=hW
 have HPH:Hd (phi ts ms<=0):=hph
 have HM:Hd (st.length<60->Tk W0 h (.slice sa ss.length c1) (.slice ta ts.length c2) ss ts (st++[nm])):=hM
 have HNM:Hd (Aq nm):=hnm
 obtain⟨i68,hi68,hz68,hs68,hb68⟩:=info_parts Tryz.info72
 have hl1:=hE.l1
 have hl2:=hE.l2
 have hW9:w.heap.size<W.heap.size:=by omega
 clear s1 hat s hk hE hI hW hbW hb0 hph hM hnm hWs
 go_enter Tryz.func45,Tryz.ntmps45
 go_wp2_with fail
 refine HF.o.mono ?_
 rintro e w9 ⟨rfl,⟨i,rfl,hi,hn,hfst⟩|⟨rfl,hno⟩⟩
 ·exact absurd (nl_mx HK.o hi hn hfst) id
 ·clear hno HF eW
  go_wp2_with (first|(at_builtin;refine wpList_append_own _ rfl (.tmp 46) (.tmp 49) 67 rfl W0.heap.size 72 i68 (.agg #[.string ByteArray.empty,.int .i64 0,.string ByteArray.empty,.slice none 0 0,.slice none 0 0,.bool false]) 6 96 Tryz.underlying67 hi68 hz68 hs68 hb68 rfl (by decide) _ _ _ rfl (HS.o.row.alloc _) ⟨w9.heap.size,0,none⟩ 1 1 [.string nm,.int .i64 0,.string ⟨#[]⟩,.slice none 0 0,.slice none 0 0,.bool false] rfl rfl (cell_six _ _ _ _ _ _ _ _) (by intro u hu;simp at hu;rcases hu with rfl|rfl|rfl|rfl|rfl|rfl<;>rfl) (by unfold maxLen;omega) (by omega) (by simp;omega) ?_;intro v4 w4 hown4 hgrow4 hnil4;obtain⟨g4,cp4,rfl⟩:∃ g cp,v4=.slice (some ⟨g,0,none⟩) (ms.length+1) cp:=(by rcases hown4.2 with ⟨e,h0⟩|⟨g,cap,cur,e,_⟩;(omega);(exact⟨g,cap,e⟩));obtain⟨s4,ks4,hblk4⟩:=HS.o.push hgrow4 hown4;obtain⟨X,eX⟩:∃ X,w4.setCell ⟨h,2,none⟩ (.slice (some ⟨g4,0,none⟩) (ms.length+1) cp4)=X:=⟨_,rfl⟩;rw[eX] at s4 ks4;have HSX:Hd (Bh W0.heap.size h (.slice sa ss.length c1) (.slice ta ts.length c2) X (ms++[(nm,none)]) st (.slice (some ⟨g4,0,none⟩) (ms.length+1) cp4) kv vs):=s4;have HKX:Hd (KS W0.heap.size h w X):=HKW.o.trans ks4;have HRX:Hd (X.heap[w.heap.size]?=some (.cells #[.int .i64 0,.string ⟨#[]⟩,.slice none 0 0] 32 (0,0))):=ks4.keep _ _ 32 (by decide) (by decide) (by omega) HRB.o;obtain⟨⟨p0,p1,p2,p3⟩,⟨p4,p5,p6,p7⟩,pf⟩:=bk8 hblk4;obtain⟨⟨x0,x1,x2,x3⟩,⟨x4,x5,x6,x7⟩,xf⟩:=bk8 s4.blk;clear hown4 hgrow4 hnil4 s4 ks4 hblk4))
  have HBX:Hd (Below W0.heap.size W0 X):=HW.o.trans HKX.o.bl;refine(HSO.o X HBX.o).mono ?_;rintro e w5 ⟨hb5,hz⟩
  obtain⟨z,rfl,HZ⟩:∃ z:Int,e=.returned (.int .i64 z)/\Hd ((∃ i:Nat,z=i/\i<ss.length/\(sx ss i).name=nm)\/(z=-1/\¬ Fi (Ai ss) nm)):=by
   rcases hz with ⟨i,rfl,q1,q2⟩|⟨rfl,q⟩
   ·exact⟨_,rfl,(Or.inl ⟨i,rfl,q1,q2⟩:(∃ j:Nat,(i:Int)=j/\j<ss.length/\(sx ss j).name=nm)\/((i:Int)=-1/\¬ Fi (Ai ss) nm))⟩
   ·exact⟨_,rfl,(Or.inr ⟨rfl,q⟩:(∃ j:Nat,(-1:Int)=j/\j<ss.length/\(sx ss j).name=nm)\/((-1:Int)=-1/\¬ Fi (Ai ss) nm))⟩
  have HS5:Hd _:=HSX.o.bl hb5;obtain⟨q0,q1,_⟩:=HS5.o.cells;have HB5:Hd (Below X.heap.size X w5):=hb5;clear hz hb5 p0 p1 p2 p3 p4 p5 p6 p7 pf x0 x1 x2 x3 x4 x5 x6 x7 xf eX;go_wp2_with fail;refine(HTA.o w5 (HBX.o.trans (HB5.o.mono HBX.o.size))).mono ?_;rintro e w6 ⟨hb6,hz6⟩;have hbX6:Below X.heap.size X w6:=HB5.o.trans (hb6.mono HB5.o.size);have HS6:Hd (Bh W0.heap.size h (.slice sa ss.length c1) (.slice ta ts.length c2) w6 (ms++[(nm,none)]) st (.slice (some ⟨g4,0,none⟩) (ms.length+1) cp4) kv vs):=HSX.o.bl hbX6;have HK6:Hd (KS W0.heap.size h w w6):=HKX.o.trans (KS.old hbX6 HBX.o.size);have HR6:Hd (w6.heap[w.heap.size]?=some (.cells #[.int .i64 0,.string ⟨#[]⟩,.slice none 0 0] 32 (0,0))):=Ag hbX6 HRX.o;have HB6:Hd (Below W0.heap.size W0 w6):=HW.o.trans HK6.o.bl;have hr6:w.heap.size<w6.heap.size:=Af HR6.o;have hmk:ms.length<(ms++[(nm,(none:Option Md))]).length:=by simp
  clear hb6 hbX6 q0 q1 HS5 HB5 HSX HKX HRX HBX HS HKW HRB k0 k1 c2w k3 k7 kf
  rcases hz6 with ⟨t,rfl,ht,htn⟩|⟨rfl,hnt⟩
  ·have HTG:Hd (Fi (Ae ts) nm):=htn▸Dv ht;have HNS:Hd (¬ Fi (Ai ss) nm):=fun q=>HE.o.v.dis nm q HTG.o
   have HNI:Hd (∀ j,j<st.length->nx st j≠nm):=fun j hj q=>by
    have:nm∈st:=by
     unfold nx at q;rw[gG,gQ hj] at q;exact q▸List.getElem_mem hj
    rw[<- HI.o.being nm,HK.o] at this;cases this
   have HT:Hd (t<ts.length/\(tx ts t).name=nm):=⟨ht,htn⟩;have htI:(t:Int)<(ts.length:Int):=by omega
   dsimp only;obtain⟨ka,kc,hkv,hka⟩:=HS6.o.stkAt;subst hkv;obtain⟨⟨r0,r1,r2,r3⟩,⟨r4,r5,r6,r7⟩,rf⟩:=bk8 HS6.o.blk;have HKA:Hd (∀ i,i<st.length->∃ g,ka=some ⟨g,0,none⟩/\w6.cell? ⟨g,i,none⟩=some (.string (nx st i))):=hka;obtain⟨z0,z1,z2,zf⟩:=Gi HR6.o;have hne6:¬ h=w.heap.size:=by omega
   have hne7:¬ w.heap.size=h:=by omega
   clear hka ht htn HZ hmk HTA HSO;go_wp2_with fail
   go_loop [9] (fun v=>∃ k:Nat,k<=st.length/\v=.int .i64 k) (fun v=>st.length-(intOf v).toNat)
   case atStart=>exact⟨0,Nat.zero_le _,rfl⟩
   case round=>
    obtain⟨k,hkl,rfl⟩:=hrel
    by_cases hlt:k<st.length
    ·(have hkI:(k:Int)<(st.length:Int):=by omega);obtain⟨gk,rfl,ck⟩:=HKA.o k hlt;have q:=HNI.o k hlt;have dq:=Es q;generalize nx st k=x at ck dq q;clear q;go_wp2_with fail
     go_round
     case rel=>exact⟨k+1,by omega,by go_num⟩
     case measure=>simp[intOf];omega
    ·have hkI:¬ (k:Int)<(st.length:Int):=by omega
     by_cases hd:st.length<60
     ·(have hdI:¬ (60:Int)<=(st.length:Int):=by omega);obtain⟨i9,hi9,hz9,hs9,hb9⟩:=info_parts Tryz.info9b;obtain⟨tb,tq,rfl,_,a',cap',n2,hrow3⟩:=HE.o.rt t HT.o.1;have HR3:Hd (Dr W0 a' (tx ts t).code):=hrow3;have HN2:Hd (∀ V,Below W0.heap.size W0 V->V.cell? ⟨tb,tq+t*2+1,none⟩=some (.slice a' (tx ts t).code.length cap')):=fun V hV=>Ab hV n2;clear hrow3 n2
      go_wp2_with (first|(at_builtin;refine wpList_append_own _ rfl (.tmp 156) (.tmp 158) 30 rfl W0.heap.size 9 i9 (.string ⟨#[]⟩) 1 16 Tryz.underlying30 hi9 hz9 hs9 hb9 rfl (by decide) _ _ _ rfl (HS6.o.stk.alloc _) ⟨w6.heap.size,0,none⟩ 1 1 [.string nm] rfl rfl (cell_one_new _ _ _) (by intro u hu;simp at hu;subst hu;rfl) (by unfold maxLen;omega) (by omega) (by simp;omega) ?_;intro v7 w7 hown7 hgrow7 hnil7;obtain⟨g7,cp7,rfl⟩:∃ g cp,v7=.slice (some ⟨g,0,none⟩) (st.length+1) cp:=(by rcases hown7.2 with ⟨e,h0⟩|⟨g,cap,cur,e,_⟩;(omega);(exact⟨g,cap,e⟩));obtain⟨s7,ks7,hblk7⟩:=HS6.o.lay hgrow7 hown7;obtain⟨Y,eY⟩:∃ Y,w7.setCell ⟨h,3,none⟩ (.slice (some ⟨g7,0,none⟩) (st.length+1) cp7)=Y:=⟨_,rfl⟩;rw[eY] at s7 ks7;have HSY:Hd (Bh W0.heap.size h (.slice sa ss.length c1) (.slice (some ⟨tb,tq,none⟩) ts.length c2) Y (ms++[(nm,none)]) (st++[nm]) (.slice (some ⟨g4,0,none⟩) (ms.length+1) cp4) (.slice (some ⟨g7,0,none⟩) (st.length+1) cp7) vs):=s7;have HKY:Hd (KS W0.heap.size h w Y):=HK6.o.trans ks7;have HRY:Hd (Y.heap[w.heap.size]?=some (.cells #[.int .i64 0,.string ⟨#[]⟩,.slice none 0 0] 32 (0,0))):=ks7.keep _ _ 32 (by decide) (by decide) (by omega) HR6.o;have HBY:Hd (Below W0.heap.size W0 Y):=HW.o.trans HKY.o.bl;obtain⟨⟨p0,p1,p2,p3⟩,⟨p4,p5,p6,p7⟩,pf⟩:=bk8 hblk7;obtain⟨⟨x0,x1,x2,x3⟩,⟨x4,x5,x6,x7⟩,xf⟩:=bk8 s7.blk;have n2:=HN2.o Y HBY.o;clear hown7 hgrow7 hnil7 s7 ks7 hblk7))
      refine(Xs W0 h sa (some ⟨tb,tq,none⟩) a' c1 c2 cap' ss ts (tx ts t).code (ms++[(nm,none)]) (st++[nm]) _ _ vs Y HE.o (HM.o hd) HSY.o (HI.o.push HK.o HTG.o) (by rw[Ok HTG.o];have:=HPH.o;omega) HBY.o HR3.o (HE.o.v.pr t HT.o.1) (HE.o.xc t)).mono ?_;rintro e w8 ⟨hk8,m8,an,hdo,⟨d,lv,mv8,kv8,vs8,rfl,rfl,⟨hlo,hlb⟩,hs8,hfr8⟩|⟨v,lv,rfl,hdead⟩⟩
      ·obtain⟨hi8,⟨rr,hnms⟩,hbd⟩:=Av.inv HE.o.v hdo (HI.o.push HK.o HTG.o) ⟨HE.o.v.pr t HT.o.1,fun i hi=>by simp at hi,rfl⟩ (by simp) d rfl;obtain⟨hk8',hm8,hset⟩:=being_at hi8 hnms
       have HDN:Hd (Av ss ts ms st (.make nm) (Fx m8 nm d) (.ok d)):=.made HK.o HNS.o HT.o.1 HT.o.2 hd hdo
       obtain⟨g8,cp8,rfl⟩:=hs8.rowIs (by omega);obtain⟨gs,cs8,rfl,hcs⟩:=hs8.stkIs;obtain⟨la,ln,lc,rfl⟩:=hlo.is;have HK8:Hd (KS W0.heap.size h w w8):=HKY.o.trans hk8;have HR8:Hd (w8.heap[w.heap.size]?=some (.cells #[.int .i64 0,.string ⟨#[]⟩,.slice none 0 0] 32 (0,0))):=hk8.keep _ _ 32 (by decide) (by decide) (by omega) HRY.o;have HS8:Hd (Bh W0.heap.size h (.slice sa ss.length c1) (.slice (some ⟨tb,tq,none⟩) ts.length c2) w8 m8 (st++[nm]) (.slice (some ⟨g8,0,none⟩) m8.length cp8) (.slice (some ⟨gs,0,none⟩) (st.length+1) cs8) vs8):=hs8;have HL8:Hd (Ar w8 W0.heap.size (.slice la ln lc) d.ls):=hlo;have hYw:w.heap.size<=Y.heap.size:=HKY.o.bl.size;(have HLB:Hd (∀ b,(Value.slice la ln lc).ownBlock=some b->w.heap.size<=b):=fun b hb=>by have:=(hlb b hb).1;omega);have HFR:Hd (Fr Y (ms++[(nm,none)]) vs m8 vs8):=hfr8;have HKM:Hd (ms.length<m8.length):=hk8';have HMM:Hd (mx m8 ms.length=(nm,none)):=hm8;have HST:Hd (m8.set ms.length (nm,some d)=Fx m8 nm d):=hset d;have e7:w8.cell? ⟨h,7,none⟩=some (.bool false):=hs8.cells.2.2.2.2.1;have hh8:h<w8.heap.size:=Af hs8.blk;have hr8:w.heap.size<w8.heap.size:=Af HR8.o;(have hmI:(ms.length:Int)<(m8.length:Int):=by omega);obtain⟨dc,dt,dls⟩:=d;clear hi8 hnms hbd hk8' hm8 hset hs8 hlo hlb hfr8 hdo hk8 HSY HBY HRY HM n2 x0 x1 x2 x3 x4 x5 x6 x7 xf p0 p1 p2 p3 p4 p5 p6 p7 pf z0 z1 z2 zf r0 r1 r2 r3 r4 r5 r6 r7 rf eY HN2 HR3 HKA HS6 HK6 HR6
       go_upto_region 31 with fail
       obtain⟨V,eV⟩:∃ V,w8.alloc (.cells #[.int .i64 dc,.string dt,.slice none 0 0] 32)=V:=⟨_,rfl⟩;rw[eV];obtain⟨U,eU⟩:∃ U,V.drew=U:=⟨_,rfl⟩;have hbU:Below w8.heap.size w8 U:=by rw[<- eU,<- eV];exact(aN _ _).drew
       have HQU:Hd (U.heap[w8.heap.size]?=some (.cells #[.int .i64 dc,.string dt,.slice none 0 0] 32 (0,0))):=by
        show _=_;rw[<- eU,<- eV];exact Aj _ _
       have HSU:Hd (Bh W0.heap.size h (.slice sa ss.length c1) (.slice (some ⟨tb,tq,none⟩) ts.length c2) U m8 (st++[nm]) (.slice (some ⟨g8,0,none⟩) m8.length cp8) (.slice (some ⟨gs,0,none⟩) (st.length+1) cs8) vs8):=HS8.o.bl hbU;have HKU:Hd (KS W0.heap.size h w U):=HK8.o.trans (KS.old hbU (by omega));have HRU:Hd (U.heap[w.heap.size]?=some (.cells #[.int .i64 0,.string ⟨#[]⟩,.slice none 0 0] 32 (0,0))):=Ag hbU HR8.o;have HLU:Hd (Ar U W0.heap.size (.slice la ln lc) dls):=HL8.o.bl hbU;obtain⟨⟨x0,x1,x2,x3⟩,⟨x4,x5,x6,x7⟩,xf⟩:=bk8 HSU.o.blk;clear hbU HS8 HK8 HR8 HL8 e7 eV;go_region
       go_upto_region 32 with fail
       obtain⟨U1,eU1⟩:∃ U1,U.setCell ⟨h,3,none⟩ (.slice (some ⟨gs,0,none⟩) st.length cs8)=U1:=⟨_,rfl⟩;rw[eU1];obtain⟨U2,eU2⟩:∃ U2,U1.drew=U2:=⟨_,rfl⟩;have hb2:Below U1.heap.size U1 U2:=by rw[<- eU2];exact(Below.refl _ _).drew
       have HS2:Hd (Bh W0.heap.size h (.slice sa ss.length c1) (.slice (some ⟨tb,tq,none⟩) ts.length c2) U2 m8 st (.slice (some ⟨g8,0,none⟩) m8.length cp8) (.slice (some ⟨gs,0,none⟩) st.length cs8) vs8):=by
        have:=HSU.o.unlay;rw[eU1] at this;exact this.bl hb2
       have HK2:Hd (KS W0.heap.size h w U2):=by
        have:=HKU.o.setH HSU.o.hB 3 (.slice (some ⟨gs,0,none⟩) st.length cs8);rw[eU1] at this;exact this.trans (KS.old hb2 (by have:=this.bl.size;omega))
       have HR2:Hd (U2.heap[w.heap.size]?=some (.cells #[.int .i64 0,.string ⟨#[]⟩,.slice none 0 0] 32 (0,0))):=Ag hb2 (by rw[<- eU1,hC U ⟨h,3,none⟩ _ w.heap.size (by simp;omega)];exact HRU.o);have HQ2:Hd (U2.heap[w8.heap.size]?=some (.cells #[.int .i64 dc,.string dt,.slice none 0 0] 32 (0,0))):=Ag hb2 (by rw[<- eU1,hC U ⟨h,3,none⟩ _ w8.heap.size (by simp;omega)];exact HQU.o)
       have HL2:Hd (Ar U2 W0.heap.size (.slice la ln lc) dls):=by
        have:=HLU.o.set HSU.o.blk (by decide) 3 (.slice (some ⟨gs,0,none⟩) st.length cs8);rw[eU1] at this;exact this.bl hb2
       clear x0 x1 x2 x3 x4 x5 x6 x7 xf;obtain⟨⟨x0,x1,x2,x3⟩,⟨x4,x5,x6,x7⟩,xf⟩:=bk8 HS2.o.blk;obtain⟨y0,y1,y2,yf⟩:=Gi HQ2.o;obtain⟨z0,z1,z2,zf⟩:=Gi HR2.o;obtain⟨hdrop,⟨g1,g2,g3,g4',g5⟩,gf⟩:=HS2.o.undone HKM.o HMM.o
       have hg1:¬ g8=w.heap.size:=fun e=>by
        have hh:=HR2.o;rw[<- e] at hh;exact Iq HS2.o.row (by decide) hh
       have hg2:¬ g8=w8.heap.size:=fun e=>by
        have hh:=HQ2.o;rw[<- e] at hh;exact Iq HS2.o.row (by decide) hh
       have hg3:¬ g8=h:=fun e=>by
        have hh:=HS2.o.blk;rw[<- e] at hh;exact Iq HS2.o.row (by decide) hh
       clear hb2 hdrop HSU HKU HRU HQU HLU eU1 eU;go_region;clear eU2;go_wp2_with fail;obtain⟨m1,m2⟩:=made_end (ss:=ss) (ts:=ts) HS2.o HK2.o HR2.o (by omega) (by omega) (Nat.le_refl _) HKM.o HMM.o HST.o HL2.o HDN.o HFR.o hYw HLB.o;obtain⟨v0,v1,v2,_⟩:=Gi m2;unfold Sv at v0 v1 v2;exact bR (v:=.agg #[.int .i64 dc,.string dt,.slice none 0 0]) (by simp[results,Tryz.results45,go_sem,v0,v1,v2]) rfl m1
      ·have HDN:Hd (Av ss ts ms st (.make nm) m8 an):=.fell HK.o HNS.o HT.o.1 HT.o.2 hd hdo hdead.stop;have HDD:Hd (Ff h (.slice sa ss.length c1) (.slice (some ⟨tb,tq,none⟩) ts.length c2) w8 an v):=hdead;obtain⟨mv3,kv3,c,tt,ca,cn,cc,hblk,rfl⟩:=hdead.o;(have d4:w8.cell? ⟨h,4,none⟩=some (.int .i64 c):=by rw[cH hblk];rfl);(have d5:w8.cell? ⟨h,5,none⟩=some (.string tt):=by rw[cH hblk];rfl);(have d6:w8.cell? ⟨h,6,none⟩=some (.slice ca cn cc):=by rw[cH hblk];rfl);(have d7:w8.cell? ⟨h,7,none⟩=some (.bool true):=by rw[cH hblk];rfl);have HK8:Hd (KS W0.heap.size h w w8):=HKY.o.trans hk8;have hR8:w8.heap[w.heap.size]?=some (.cells #[.int .i64 0,.string ⟨#[]⟩,.slice none 0 0] 32 (0,0)):=hk8.keep _ _ 32 (by decide) (by decide) (by omega) HRY.o;obtain⟨b0,b1,b2,bf⟩:=Gi hR8;have HR8:Hd (w8.heap[w.heap.size]?=some (.cells #[.int .i64 0,.string ⟨#[]⟩,.slice none 0 0] 32 (0,0))):=hR8;have hlt8:w.heap.size<w8.heap.size:=Af hR8;have hh8:h<w8.heap.size:=by omega
       have HX:Hd (((((w8.setCell ⟨w.heap.size,0,none⟩ (.int .i64 c)).setCell ⟨w.heap.size,1,none⟩ (.string tt)).setCell ⟨w.heap.size,2,none⟩ (.slice ca cn cc)).alloc (.cells #[.int .i64 c,.string tt,.slice ca cn cc] 32)).heap[w.heap.size]?=some (.cells #[.int .i64 c,.string tt,.slice ca cn cc] 32 (0,0))):=by
        have e:=Cz hR8 (.int .i64 c) (.string tt) (.slice ca cn cc);show _=_;rw[Lib.alloc_old _ _ _ (Af e)];exact e
       clear hblk hR8 hdead hdo hk8 HSY HBY HRY HM n2 x0 x1 x2 x3 x4 x5 x6 x7 xf p0 p1 p2 p3 p4 p5 p6 p7 pf z0 z1 z2 zf r0 r1 r2 r3 r4 r5 r6 r7 rf eY;go_wp2_with fail;obtain⟨y0,y1,y2,_⟩:=Gi HX.o;have hk3:=Kz HK8.o (b:=w.heap.size) (by omega) (by omega) (.int .i64 c) (.string tt) (.slice ca cn cc);have hd3:=HDD.o.set3 HR8.o hne7 (.int .i64 c) (.string tt) (.slice ca cn cc);have hbA:∀ V:World,∀ o:Obj,Below V.heap.size V (V.alloc o):=fun V o=>aN _ _;exact bR (v:=.agg #[.int .i64 c,.string tt,.slice ca cn cc]) (by simp[results,Tryz.results45,go_sem,y0,y1,y2]) rfl ⟨hk3.trans (KS.old (hbA _ _) (by have:=hk3.bl.size;omega)),m8,an,HDN.o,Or.inr ⟨_,rfl,hd3.bl (hbA _ _)⟩⟩
     ·(have hdI:(60:Int)<=(st.length:Int):=by omega);have HDO:Hd (Av ss ts ms st (.make nm) (ms++[(nm,none)]) (.deep nm)):=.deep HK.o HNS.o HTG.o (by omega);go_wp2_with fail
      have d1:(w6.setCell ⟨h,7,none⟩ (.bool true)).heap[h]?=some (.cells #[.slice sa ss.length c1,.slice ta ts.length c2,.slice (some ⟨g4,0,none⟩) (ms.length+1) cp4,.slice ka st.length kc,.int .i64 0,.string ⟨#[]⟩,.slice none 0 0,.bool true] 69 (0,0)):=by
       rw[jB HS6.o.blk (.bool true) (i:=7)];rfl
      have d2:(w6.setCell ⟨h,7,none⟩ (.bool true)).heap[w.heap.size]?=some (.cells #[.int .i64 0,.string ⟨#[]⟩,.slice none 0 0] 32 (0,0)):=by
       rw[hC w6 ⟨h,7,none⟩ _ w.heap.size (by simp;omega)];exact HR6.o
      obtain⟨f1,f2,f3,f4⟩:=Zw d1 d2 (by omega) (HK6.o.setH HS6.o.hB 7 _) HS6.o.hB (by omega) (Nat.le_refl _) 7 nm (.slice none 0 0);obtain⟨v0,v1,v2,_⟩:=Gi f3;unfold endW at v0 v1 v2;exact bR (v:=.agg #[.int .i64 7,.string nm,.slice none 0 0]) (by simp[results,Tryz.results45,go_sem,v0,v1,v2]) rfl ⟨f1,_,_,HDO.o,Or.inr ⟨_,rfl,_,_,_,_,_,f2,rfl,rfl,rfl,rfl⟩⟩
  ·have HNT:Hd (¬ Fi (Ae ts) nm):=hnt;clear hnt;dsimp only
   rcases HZ.o with ⟨i,rfl,hi,hin⟩|⟨rfl,hns⟩
   ·have HDO0:Av ss ts ms st (.make nm) (ms++[(nm,some ⟨0,(sx ss i).text,[]⟩)]) (.ok ⟨0,(sx ss i).text,[]⟩):=.source HK.o hi hin;(have hiI:(i:Int)<(ss.length:Int):=by omega);obtain⟨sb,so,rfl,_,e2⟩:=HE.o.rs.bl HB6.o i hi;generalize (sx ss i).text=tx0 at HDO0 e2;have HDO:Hd (Av ss ts ms st (.make nm) (ms++[(nm,some ⟨0,tx0,[]⟩)]) (.ok ⟨0,tx0,[]⟩)):=HDO0;have hsb:sb<w6.heap.size:=World.block_lt_of_cell? _ _ e2;(have hh6:h<w6.heap.size:=by omega);obtain⟨q0,q1,_⟩:=HS6.o.cells;clear HDO0
    go_upto_region 13 with fail
    clear q0 q1 e2 hsb;obtain⟨V,eV⟩:∃ V,w6.alloc (.cells #[.int .i64 0,.string tx0,.slice none 0 0] 32)=V:=⟨_,rfl⟩;rw[eV];obtain⟨U,eU⟩:∃ U,V.drew=U:=⟨_,rfl⟩;have hbU:Below w6.heap.size w6 U:=by rw[<- eU,<- eV];exact(aN _ _).drew
    have HQV:Hd (U.heap[w6.heap.size]?=some (.cells #[.int .i64 0,.string tx0,.slice none 0 0] 32 (0,0))):=by
     show _=_;rw[<- eU,<- eV];exact Aj _ _
    have HSV:Hd (Bh W0.heap.size h (.slice (some ⟨sb,so,none⟩) ss.length c1) (.slice ta ts.length c2) U (ms++[(nm,none)]) st (.slice (some ⟨g4,0,none⟩) (ms.length+1) cp4) kv vs):=HS6.o.bl hbU;have HKV:Hd (KS W0.heap.size h w U):=HK6.o.trans (KS.old hbU HB6.o.size);have HRV:Hd (U.heap[w.heap.size]?=some (.cells #[.int .i64 0,.string ⟨#[]⟩,.slice none 0 0] 32 (0,0))):=Ag hbU HR6.o;obtain⟨⟨x0,x1,x2,x3⟩,⟨x4,x5,x6,x7⟩,xf⟩:=bk8 HSV.o.blk;obtain⟨y0,y1,y2,yf⟩:=Gi HQV.o;obtain⟨z0,z1,z2,zf⟩:=Gi HRV.o;obtain⟨hdrop,⟨g1,g2,g3,_,g5⟩,gf⟩:=HSV.o.undone hmk (Mp ms (nm,none));have HMK:Hd (ms.length<(ms++[(nm,(none:Option Md))]).length):=hmk
    have hg1:¬ g4=w.heap.size:=fun e=>by
     have hh:=HRV.o;rw[<- e] at hh;exact Iq HSV.o.row (by decide) hh
    have hg2:¬ g4=w6.heap.size:=fun e=>by
     have hh:=HQV.o;rw[<- e] at hh;exact Iq HSV.o.row (by decide) hh
    have hg3:¬ g4=h:=fun e=>by
     have hh:=HSV.o.blk;rw[<- e] at hh;exact Iq HSV.o.row (by decide) hh
    clear hbU hmk HTA HSO HM HE HI HW HPH HNM HZ HR6 HK6 HS6 eV hdrop;go_region;clear eU;go_wp2_with fail;obtain⟨m1,m2⟩:=Ys (ss:=ss) (ts:=ts) 0 tx0 HSV.o HKV.o HRV.o (by omega) (by omega) (Nat.le_refl _) HDO.o;obtain⟨v0,v1,v2,_⟩:=Gi m2;unfold Mh at v0 v1 v2;exact bR (v:=.agg #[.int .i64 0,.string tx0,.slice none 0 0]) (by simp[results,Tryz.results45,go_sem,v0,v1,v2]) rfl m1
   ·have HDO:Hd (Av ss ts ms st (.make nm) (ms++[(nm,some ⟨4,nm,[]⟩)]) (.ok ⟨4,nm,[]⟩)):=.missing HK.o (fun q=>q.elim hns HNT.o);clear hns
    go_upto_region 13 with fail
    obtain⟨V,eV⟩:∃ V,w6.alloc (.cells #[.int .i64 4,.string nm,.slice none 0 0] 32)=V:=⟨_,rfl⟩;rw[eV];obtain⟨U,eU⟩:∃ U,V.drew=U:=⟨_,rfl⟩;have hbU:Below w6.heap.size w6 U:=by rw[<- eU,<- eV];exact(aN _ _).drew
    have HQV:Hd (U.heap[w6.heap.size]?=some (.cells #[.int .i64 4,.string nm,.slice none 0 0] 32 (0,0))):=by
     show _=_;rw[<- eU,<- eV];exact Aj _ _
    have HSV:Hd (Bh W0.heap.size h (.slice sa ss.length c1) (.slice ta ts.length c2) U (ms++[(nm,none)]) st (.slice (some ⟨g4,0,none⟩) (ms.length+1) cp4) kv vs):=HS6.o.bl hbU;have HKV:Hd (KS W0.heap.size h w U):=HK6.o.trans (KS.old hbU HB6.o.size);have HRV:Hd (U.heap[w.heap.size]?=some (.cells #[.int .i64 0,.string ⟨#[]⟩,.slice none 0 0] 32 (0,0))):=Ag hbU HR6.o;obtain⟨⟨x0,x1,x2,x3⟩,⟨x4,x5,x6,x7⟩,xf⟩:=bk8 HSV.o.blk;obtain⟨y0,y1,y2,yf⟩:=Gi HQV.o;obtain⟨z0,z1,z2,zf⟩:=Gi HRV.o;obtain⟨hdrop,⟨g1,g2,g3,_,g5⟩,gf⟩:=HSV.o.undone hmk (Mp ms (nm,none));have HMK:Hd (ms.length<(ms++[(nm,(none:Option Md))]).length):=hmk
    have hg1:¬ g4=w.heap.size:=fun e=>by
     have hh:=HRV.o;rw[<- e] at hh;exact Iq HSV.o.row (by decide) hh
    have hg2:¬ g4=w6.heap.size:=fun e=>by
     have hh:=HQV.o;rw[<- e] at hh;exact Iq HSV.o.row (by decide) hh
    have hg3:¬ g4=h:=fun e=>by
     have hh:=HSV.o.blk;rw[<- e] at hh;exact Iq HSV.o.row (by decide) hh
    clear hbU hmk HTA HSO HM HE HI HW HPH HNM HZ HR6 HK6 HS6 eV hdrop;go_region;clear eU;go_wp2_with fail;obtain⟨m1,m2⟩:=Ys (ss:=ss) (ts:=ts) 4 nm HSV.o HKV.o HRV.o (by omega) (by omega) (Nat.le_refl _) HDO.o;obtain⟨v0,v1,v2,_⟩:=Gi m2;unfold Mh at v0 v1 v2;exact bR (v:=.agg #[.int .i64 4,.string nm,.slice none 0 0]) (by simp[results,Tryz.results45,go_sem,v0,v1,v2]) rfl m1
end
end Go.Proofs.YtjlnkepkkdefdaaGreatDoor
