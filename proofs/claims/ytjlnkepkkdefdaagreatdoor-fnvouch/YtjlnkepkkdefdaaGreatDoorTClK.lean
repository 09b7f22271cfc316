import Derived.Test.YtjlnkepkkdefdaaGreatDoorTClH
namespace Go.Proofs.YtjlnkepkkdefdaaGreatDoor
open Go.RowKit
set_option linter.unusedVariables false
set_option maxHeartbeats 8000000
set_option maxRecDepth 100000
set_option linter.unusedSimpArgs false
section
open Go.Deep
theorem mk6_done {e:ByteArray × Option Md} {v:Value} {d:Md} (h:e.2=some d):Vz e v=[.string e.1,.int .i64 d.c,.string d.t,.slice none 0 0,v,.bool true]:=by unfold Vz;rw[h]
theorem mk6_not {e:ByteArray × Option Md} {v:Value} (h:e.2=none):Vz e v=[.string e.1,.int .i64 0,.string ⟨#[]⟩,.slice none 0 0,.slice none 0 0,.bool false]:=by unfold Vz;rw[h]
theorem Ry (B h:Nat) (sv tv:Value) (ss:List S2) (ts:List T2) (ms:Ms) (st:List ByteArray) (mv kv:Value) (vs:Nat->Value) (nm:ByteArray) (d:Md) (w:World) (s:Bh B h sv tv w ms st mv kv vs) (hB:B<=w.heap.size) (hl:ms.length<=1048576) (hk:lk ms nm=some (some d)) :
  Calls Tryz.prog 45 #[.pointer (some ⟨h,0,none⟩),.string nm] w fun e w'=>Tj B h sv tv ss ts ms st vs nm w e w':=by
 have hb0:∀ o:Obj,Below w.heap.size w (w.alloc o):=fun o=>aN _ _
 have s1:=s.bl (hb0 (.cells #[.int .i64 0,.string ⟨#[]⟩,.slice none 0 0] 32))
 obtain⟨_,_,c2,_⟩:=s1.cells
 obtain⟨a,cap,rfl,hat⟩:=s1.at_
 have HF:Hd (Calls Tryz.prog 22 #[.pointer (some ⟨h,0,none⟩),.string nm] (w.alloc (.cells #[.int .i64 0,.string ⟨#[]⟩,.slice none 0 0] 32)) _):=Su B h sv tv ms st _ kv vs nm _ s1 hl
 have HS:Hd (∀ o:Obj,Bh B h sv tv (w.alloc o) ms st (.slice a ms.length cap) kv vs):=fun o=>s.bl (hb0 o)
 have HKO:Hd (∀ o:Obj,KS B h w (w.alloc o)):=fun o=>KS.old (hb0 o) hB
 have hhs:h<w.heap.size:=Af s.blk
 have HK:Hd (lk ms nm=some (some d)):=hk
 have HAT:Hd _:=hat
 have c2w:w.cell? ⟨h,2,none⟩=some (.slice a ms.length cap):=s.cells.2.2.1
 clear hb0 s1 hat s hk c2
 go_enter Tryz.func45,Tryz.ntmps45
 go_wp2_with fail
 refine HF.o.mono ?_
 rintro e w9 ⟨rfl,⟨i,rfl,hi,hnm,hfst⟩|⟨rfl,hno⟩⟩
 ·have hd:(mx ms i).2=some d:=by have:=lk_at hi hnm hfst;rw[HK.o] at this;exact(Option.some.inj this).symm
  obtain⟨g,rfl,hc⟩:=HAT.o i hi;rw[mk6_done hd] at hc;have e1:=hc 1 (by omega);have e2:=hc 2 (by omega);have e3:=hc 3 (by omega);have e5:=hc 5 (by omega);simp only[List.getElem?_cons_zero,List.getElem?_cons_succ] at e1 e2 e3 e5;have hiI:(i:Int)<(ms.length:Int):=by omega
  clear hc HAT HF hfst;go_wp2_with fail;exact bR (v:=.agg #[.int .i64 d.c,.string d.t,.slice none 0 0]) (by simp[results,Tryz.results45,go_sem]) rfl ⟨HKO.o _,ms,.ok d,.known HK.o,Or.inl ⟨d,_,_,vs,rfl,rfl,HS.o _,Fr.refl _ _ _⟩⟩
 ·rw[lk_not hno] at HK;exact absurd HK.o (by simp)
theorem Xj (l:List ByteArray) (i:Nat) (h:i<l.length):(Bf l)[i]?=some (.string (nx l i)):=by
 unfold Bf nx
 rw[List.getElem?_map,gG,gQ h]
 rfl
theorem Bh.stkAt {B h:Nat} {sv tv:Value} {w:World} {ms:Ms} {st:List ByteArray} {mv kv:Value} {vs:Nat->Value} (s:Bh B h sv tv w ms st mv kv vs):∃ a cap,kv=.slice a st.length cap/\∀ i,i<st.length->∃ g,a=some ⟨g,0,none⟩/\w.cell? ⟨g,i,none⟩=some (.string (nx st i)):=by
 have hr:=s.stk
 rcases hr.2 with ⟨e,h0⟩|⟨g,cap,cur,rfl,_⟩
 ·exact⟨none,0,by rw[e,h0],fun i hi=>by omega⟩
 ·exact⟨some ⟨g,0,none⟩,cap,rfl,fun i hi=>⟨g,rfl,by rw[hr.cellAt i (by omega),Xj st i hi]⟩⟩
theorem l3Source_z (sa ta:Option Addr) (n2 c1 c2:Nat) (ss:List S2) (nm:ByteArray) (w:World) (hc:Iz w sa ss) (hl:ss.length<=1048576) :
  Calls Tryz.prog 77 #[.agg #[.slice sa ss.length c1,.slice ta n2 c2],.string nm] w fun e w'=>Below w.heap.size w w'/\∃ z:Int,e=.returned (.int .i64 z):=by
 refine(Lz sa ta n2 c1 c2 ss nm w hc hl).mono ?_
 rintro e w' ⟨hb,⟨i,rfl,_⟩|⟨rfl,_⟩⟩
 ·exact⟨hb,_,rfl⟩
 ·exact⟨hb,_,rfl⟩
theorem We (sa ta:Option Addr) (n1 c1 c2:Nat) (ts:List T2) (nm:ByteArray) (w:World) (hc:Iy w ta ts) (hl:ts.length<=1048576) (hh:Fi (Ae ts) nm) :
  Calls Tryz.prog 43 #[.agg #[.slice sa n1 c1,.slice ta ts.length c2],.string nm] w fun e w'=>Below w.heap.size w w'/\∃ i:Nat,e=.returned (.int .i64 i)/\i<ts.length/\(tx ts i).name=nm:=by
 refine(Ly sa ta n1 c1 c2 ts nm w hc hl).mono ?_
 rintro e w' ⟨hb,h|⟨_,hn⟩⟩
 ·exact⟨hb,h⟩
 ·exact absurd hh hn
theorem bk8 {w:World} {b:Nat} {v0 v1 v2 v3 v4 v5 v6 v7:Value} {T:TypeId} (h:w.heap[b]?=some (.cells #[v0,v1,v2,v3,v4,v5,v6,v7] T (0,0))):(w.cell? ⟨b,0,none⟩=some v0/\w.cell? ⟨b,1,none⟩=some v1/\w.cell? ⟨b,2,none⟩=some v2/\w.cell? ⟨b,3,none⟩=some v3)/\(w.cell? ⟨b,4,none⟩=some v4/\w.cell? ⟨b,5,none⟩=some v5/\w.cell? ⟨b,6,none⟩=some v6/\w.cell? ⟨b,7,none⟩=some v7)/\∀ j,w.frozen? ⟨b,j,none⟩=false:=by
 refine⟨⟨?_,?_,?_,?_⟩,⟨?_,?_,?_,?_⟩,fun j=>fH h j⟩<;>rw[cH h]<;>rfl
def endW (w:World) (h r:Nat) (c:Int) (t:ByteArray) (chv:Value):World:=(((((w.setCell ⟨h,4,none⟩ (.int .i64 c)).setCell ⟨h,5,none⟩ (.string t)).setCell ⟨h,6,none⟩ chv).setCell ⟨r,0,none⟩ (.int .i64 c)).setCell ⟨r,1,none⟩ (.string t)).setCell ⟨r,2,none⟩ chv
theorem Zw {B h r:Nat} {sv tv mv kv o4 o5 o6 u0 u1 u2:Value} {w w5:World} (hh:w5.heap[h]?=some (.cells #[sv,tv,mv,kv,o4,o5,o6,.bool true] 69 (0,0))) (hr:w5.heap[r]?=some (.cells #[u0,u1,u2] 32 (0,0))) (hne:r≠h) (k:KS B h w w5) (hB:B<=h) (hrB:B<=r) (hrw:w.heap.size<=r) (c:Int) (t:ByteArray) (chv:Value) :
  KS B h w (endW w5 h r c t chv)/\(endW w5 h r c t chv).heap[h]?=some (.cells #[sv,tv,mv,kv,.int .i64 c,.string t,chv,.bool true] 69 (0,0))/\(endW w5 h r c t chv).heap[r]?=some (.cells #[.int .i64 c,.string t,chv] 32 (0,0))/\(∀(base e sz n:Nat) (v:Value) (xs:List Value),w5.ownsRow base e sz v n xs->e≠69->e≠32->(endW w5 h r c t chv).ownsRow base e sz v n xs):=by
 have a1:=jB hh (.int .i64 c) (i:=4)
 have a2:=jB a1 (.string t) (i:=5)
 have a3:=jB a2 chv (i:=6)
 have b1:(((w5.setCell ⟨h,4,none⟩ (.int .i64 c)).setCell ⟨h,5,none⟩ (.string t)).setCell ⟨h,6,none⟩ chv).heap[r]?=some (.cells #[u0,u1,u2] 32 (0,0)):=by
  rw[hC _ ⟨h,6,none⟩ _ r hne,hC _ ⟨h,5,none⟩ _ r hne,hC _ ⟨h,4,none⟩ _ r hne];exact hr
 have c1:=jB b1 (.int .i64 c) (i:=0)
 have c2:=jB c1 (.string t) (i:=1)
 refine⟨Kz (((k.setH hB 4 _).setH hB 5 _).setH hB 6 _) hrB hrw _ _ _,Tc (a3.trans rfl) (fun e=>hne e.symm) _ _ _,Cz b1 _ _ _,fun base e sz n v xs ho h1 h2=>?_⟩
 have o1:=Da ho hh (fun q=>h1 q.symm) 4 (.int .i64 c)
 have o2:=Da o1 a1 (fun q=>h1 q.symm) 5 (.string t)
 have o3:=Da o2 a2 (fun q=>h1 q.symm) 6 chv
 have p1:=Da o3 b1 (fun q=>h2 q.symm) 0 (.int .i64 c)
 have p2:=Da p1 c1 (fun q=>h2 q.symm) 1 (.string t)
 exact Da p2 c2 (fun q=>h2 q.symm) 2 chv
theorem Qu (W0:World) (h:Nat) (sa ta:Option Addr) (c1 c2:Nat) (ss:List S2) (ts:List T2) (ms:Ms) (st:List ByteArray) (mv kv:Value) (vs:Nat->Value) (nm:ByteArray) (w:World) (hE:Jt W0 sa ta ss ts) (s:Bh W0.heap.size h (.slice sa ss.length c1) (.slice ta ts.length c2) w ms st mv kv vs) (hI:Ja ss ts ms st) (hW:Below W0.heap.size W0 w) (hl:ms.length<=1048576) (hk:lk ms nm=some none) (h60:st.length<=60) :
  Calls Tryz.prog 45 #[.pointer (some ⟨h,0,none⟩),.string nm] w fun e w'=>Tj W0.heap.size h (.slice sa ss.length c1) (.slice ta ts.length c2) ss ts ms st vs nm w e w':=by
 have hB:=hW.size
 have hhs:h<w.heap.size:=Af s.blk
 obtain⟨W,eW⟩:∃ W,w.alloc (.cells #[.int .i64 0,.string ⟨#[]⟩,.slice none 0 0] 32)=W:=⟨_,rfl⟩
 have hb0:Below w.heap.size w W:=by rw[<- eW];exact aN _ _
 have hWs:W.heap.size=w.heap.size+1:=by rw[<- eW];simp
 have HRB:Hd (W.heap[w.heap.size]?=some (.cells #[.int .i64 0,.string ⟨#[]⟩,.slice none 0 0] 32 (0,0))):=by
  show _=_;rw[<- eW];exact Aj _ _
 have s1:=s.bl hb0
 obtain⟨k0,k1,c2w,k3,k7,kf⟩:=s1.cells
 obtain⟨a,cap,rfl,hat⟩:=s1.at_
 have hst:=(hI.being nm).mp hk
 have htg:=hI.tgt nm hst
 have hbW:Below W0.heap.size W0 W:=hW.trans (hb0.mono hB)
 have HF:Hd (Calls Tryz.prog 22 #[.pointer (some ⟨h,0,none⟩),.string nm] W _):=Su W0.heap.size h _ _ ms st _ kv vs nm _ s1 hl
 have HSO:Hd (∀ V,Below W.heap.size W V->Calls Tryz.prog 77 #[.agg #[.slice sa ss.length c1,.slice ta ts.length c2],.string nm] V _):=fun V hV=>l3Source_z sa ta ts.length c1 c2 ss nm V ((hE.rs.bl hbW).bl hV) (by have:=hE.l1;omega)
 have HTA:Hd (∀ V,Below W.heap.size W V->Calls Tryz.prog 43 #[.agg #[.slice sa ss.length c1,.slice ta ts.length c2],.string nm] V _):=fun V hV=>We sa ta ss.length c1 c2 ts nm V ((hE.rt.bl hbW).bl hV) (by have:=hE.l2;omega) htg
 have HS:Hd (Bh W0.heap.size h (.slice sa ss.length c1) (.slice ta ts.length c2) W ms st (.slice a ms.length cap) kv vs):=s1
 have HK:Hd (lk ms nm=some none):=hk
 have HST:Hd (nm∈st):=hst
 have HAT:Hd _:=hat
 have HKW:Hd (KS W0.heap.size h w W):=KS.old hb0 hB
 clear s1 hat s hk hE hI hW hst htg hbW hb0
 go_enter Tryz.func45,Tryz.ntmps45
 go_wp2_with fail
 refine HF.o.mono ?_
 rintro e w9 ⟨rfl,⟨i,rfl,hi,hnm,hfst⟩|⟨rfl,hno⟩⟩
 ·have hd:(mx ms i).2=none:=by have:=lk_at hi hnm hfst;rw[HK.o] at this;exact(Option.some.inj this).symm
  obtain⟨g,rfl,hc⟩:=HAT.o i hi;rw[mk6_not hd] at hc;have e5:=hc 5 (by omega);simp only[List.getElem?_cons_zero,List.getElem?_cons_succ] at e5;have hiI:(i:Int)<(ms.length:Int):=by omega
  clear hc HAT HF hfst eW;go_wp2_with fail;refine(HSO.o _ (Below.refl _ _)).mono ?_;rintro e w2 ⟨hb2,z,rfl⟩;obtain⟨q0,q1,_,q3,q7,qf⟩:=(HS.o.bl hb2).cells;have HB2:Hd (Below w9.heap.size w9 w2):=hb2;clear hb2;go_wp2_with fail;refine(HTA.o _ HB2.o).mono ?_;rintro e w3 ⟨hb3,t,rfl,ht,_⟩;have hb93:Below w9.heap.size w9 w3:=HB2.o.trans (hb3.mono HB2.o.size);have s3:=HS.o.bl hb93;have hs93:=hb93.size;obtain⟨ka,kc,hkv,hka⟩:=s3.stkAt;subst hkv;obtain⟨⟨r0,r1,r2,r3⟩,⟨r4,r5,r6,r7⟩,rf⟩:=bk8 s3.blk;have HKA:Hd (∀ i,i<st.length->∃ g,ka=some ⟨g,0,none⟩/\w3.cell? ⟨g,i,none⟩=some (.string (nx st i))):=hka;have HS3:Hd (Bh W0.heap.size h (.slice sa ss.length c1) (.slice ta ts.length c2) w3 ms st (.slice (some ⟨g,0,none⟩) ms.length cap) (.slice ka st.length kc) vs):=s3;have HR3:Hd (w3.heap[w.heap.size]?=some (.cells #[.int .i64 0,.string ⟨#[]⟩,.slice none 0 0] 32 (0,0))):=Ag hb93 HRB.o;have HK3:Hd (KS W0.heap.size h w w3):=HKW.o.trans (KS.old hb93 (by omega));have hr3:w.heap.size<w3.heap.size:=by omega
  have hkc:st.length<=kc:=by
   rcases s3.stk.2 with ⟨e,h0⟩|⟨g1,cap1,cur,e,_,_,h5,_⟩
   ·omega
   ·simp only[Value.slice.injEq] at e;omega
  obtain⟨i9,hi9,hz9,hs9,hb9⟩:=info_parts Tryz.info9b;clear hka s3 hb93 hb3 HTA HSO HB2 q0 q1 q3 q7 qf k0 k1 c2w k3 k7 kf e5;go_wp2_with fail
  go_loop [9] (fun v=>∃ k:Nat,k<=st.length/\v=.int .i64 k/\Hd (∀ j,j<k->nx st j≠nm)) (fun v=>st.length-(intOf v).toNat)
  case atStart=>exact⟨0,Nat.zero_le _,rfl,(fun j hj=>by omega:∀ j,j<0->nx st j≠nm)⟩
  case round=>
   obtain⟨k,hkl,rfl,HJ⟩:=hrel
   by_cases hlt:k<st.length
   ·(have hkI:(k:Int)<(st.length:Int):=by omega);obtain⟨gk,rfl,ck⟩:=HKA.o k hlt
    by_cases q:nx st k=nm
    ·have dq:=Eh q;have HDO:Hd (Av ss ts ms st (.make nm) ms (.circle (st.drop k))):=.circle HK.o hlt q HJ.o;generalize nx st k=x at ck dq;obtain⟨X2,eX2⟩:∃ X2,(w3.setCell ⟨h,7,none⟩ (.bool true)).alloc (.cells #[] 9)=X2:=⟨_,rfl⟩;clear q
     have x1:(w3.setCell ⟨h,7,none⟩ (.bool true)).heap[h]?=some (.cells #[.slice sa ss.length c1,.slice ta ts.length c2,.slice (some ⟨g,0,none⟩) ms.length cap,.slice (some ⟨gk,0,none⟩) st.length kc,.int .i64 0,.string ⟨#[]⟩,.slice none 0 0,.bool true] 69 (0,0)):=by
      rw[jB HS3.o.blk (.bool true) (i:=7)];rfl
     have x1r:(w3.setCell ⟨h,7,none⟩ (.bool true)).heap[w.heap.size]?=some (.cells #[.int .i64 0,.string ⟨#[]⟩,.slice none 0 0] 32 (0,0)):=by
      rw[hC w3 ⟨h,7,none⟩ _ w.heap.size (by simp;omega)];exact HR3.o
     (have hbX:Below (w3.setCell ⟨h,7,none⟩ (.bool true)).heap.size (w3.setCell ⟨h,7,none⟩ (.bool true)) X2:=by rw[<- eX2];exact aN _ _);(have hsz:(w3.setCell ⟨h,7,none⟩ (.bool true)).heap.size=w3.heap.size:=by simp);have HX2:Hd (X2.heap[h]?=some (.cells #[.slice sa ss.length c1,.slice ta ts.length c2,.slice (some ⟨g,0,none⟩) ms.length cap,.slice (some ⟨gk,0,none⟩) st.length kc,.int .i64 0,.string ⟨#[]⟩,.slice none 0 0,.bool true] 69 (0,0))):=Ag hbX x1;have HX2r:Hd (X2.heap[w.heap.size]?=some (.cells #[.int .i64 0,.string ⟨#[]⟩,.slice none 0 0] 32 (0,0))):=Ag hbX x1r
     have HO0:Hd (X2.ownsRow w3.heap.size 9 1 (.slice (some ⟨w3.heap.size,0,none⟩) 0 0) 0 []):=by
      show World.ownsRow _ _ _ _ _ _ _;rw[<- eX2];have h:=World.ownsRow_lit (base:=w3.heap.size) (e:=9) (size:=1) (w3.setCell ⟨h,7,none⟩ (.bool true)) #[] 0 (by simp) (by unfold maxLen;omega) rfl;rw[hsz] at h;exact h
     have HSX:Hd (X2.ownsRow W0.heap.size 9 1 (.slice (some ⟨gk,0,none⟩) st.length kc) st.length (Bf st)):=Ac (Da HS3.o.stk HS3.o.blk (by decide) 7 _) hbX
     have HNW:Hd (∀ j u,(Bf (st.drop k))[j]?=some u->X2.cell? ((⟨gk,k,none⟩:Addr).add j)=some u):=fun j u hu=>by
      have hj:j<(st.drop k).length:=by
       rcases Nat.lt_or_ge j (st.drop k).length with q|q
       ·exact q
       ·rw[List.getElem?_eq_none (by simpa [Bf] using q)] at hu;cases hu
      rw[List.length_drop] at hj;rw[Addr.add_lit,HSX.o.cellAt (k+j) (by omega)];rw[<- hu];unfold Bf;rw[List.map_drop,List.getElem?_drop]
     have HKX:Hd (KS W0.heap.size h w X2):=(HK3.o.setH HS3.o.hB 7 _).trans (KS.old hbX (by rw[hsz];omega));(have hX2s:w3.heap.size<X2.heap.size:=by rw[<- eX2];simp);obtain⟨⟨x0,xx1,xx2,xx3⟩,⟨xx4,xx5,xx6,xx7⟩,xf⟩:=bk8 HX2.o;clear x1 x1r hbX hsz
     go_wp2_with (first|(at_builtin;refine wpList_append_own _ rfl (.tmp 119) (.tmp 125) 30 rfl w3.heap.size 9 i9 (.string ⟨#[]⟩) 1 16 Tryz.underlying30 hi9 hz9 hs9 hb9 rfl (by decide) _ 0 [] rfl HO0.o ⟨gk,k,none⟩ (st.length-k) (kc-k) (Bf (st.drop k)) rfl (by simp[Bf]) HNW.o (by intro u hu;obtain⟨z,_,rfl⟩:=List.mem_map.mp hu;rfl) (by unfold maxLen;omega) (by omega) (by omega) ?_;intro v5 w5 hown5 hgrow5 hnil5;obtain⟨g5,cp5,rfl⟩:∃ g cp,v5=.slice (some ⟨g,0,none⟩) (0+(st.length-k)) cp:=(by rcases hown5.2 with ⟨e,h0⟩|⟨g,cap,cur,e,_⟩;(omega);(exact⟨g,cap,e⟩));have y1:=Fh HO0.o hgrow5 (by decide) HX2.o;have y2:=Fh HO0.o hgrow5 (by decide) HX2r.o;have HY1:Hd _:=y1;have HY2:Hd _:=y2;have HO5:Hd (w5.ownsRow w3.heap.size 9 1 (.slice (some ⟨g5,0,none⟩) (0+(st.length-k)) cp5) (0+(st.length-k)) ([]++Bf (st.drop k))):=hown5;have HK5:Hd (KS W0.heap.size h w w5):=HKX.o.grownNew HO0.o (by omega) (by omega) hgrow5;obtain⟨⟨y10,y11,y12,y13⟩,⟨y14,y15,y16,y17⟩,yf⟩:=bk8 y1;obtain⟨y20,y21,y22,y2f⟩:=Gi y2;clear y1 y2 hown5 hgrow5 hnil5))
     rw[Nat.zero_add,List.nil_append] at HO5;obtain⟨f1,f2,f3,f4⟩:=Zw HY1.o HY2.o (by omega) HK5.o HS3.o.hB (by omega) (Nat.le_refl _) 6 ⟨#[]⟩ (.slice (some ⟨g5,0,none⟩) (st.length-k) cp5);obtain⟨y0,y1,y2,_⟩:=Gi f3;unfold endW at y0 y1 y2;exact bR (v:=.agg #[.int .i64 6,.string ⟨#[]⟩,.slice (some ⟨g5,0,none⟩) (st.length-k) cp5]) (by simp[results,Tryz.results45,go_sem,y0,y1,y2]) rfl ⟨f1,ms,.circle (st.drop k),HDO.o,Or.inr ⟨_,rfl,_,_,_,_,_,f2,rfl,rfl,rfl,w3.heap.size,by rw[List.length_drop];exact f4 _ _ _ _ _ _ HO5.o (by decide) (by decide)⟩⟩
    ·have dq:=Es q;have HO:Hd (∀ j,j<k+1->nx st j≠nm):=Dc HJ.o q;generalize nx st k=x at ck dq;clear q;go_wp2_with fail
     go_round
     case rel=>exact⟨k+1,by omega,by go_num,HO.o⟩
     case measure=>simp[intOf];omega
   ·obtain⟨j,hj,ej⟩:=List.getElem_of_mem HST.o;refine absurd ?_ (HJ.o j (by omega));unfold nx;rw[gG,gQ hj];exact ej
 ·rw[lk_not hno] at HK;exact absurd HK.o (by simp)
end
section
open Go.Deep
theorem Tryz.info72:(Tryz.prog.info? 72).map (fun i=>(i.zero,i.size,i.bytes))=some (some (.agg #[.string ByteArray.empty,.int .i64 0,.string ByteArray.empty,.slice none 0 0,.slice none 0 0,.bool false]),6,96):=by kernel_rfl
theorem cell_six (w:World) (v0 v1 v2 v3 v4 v5:Value) (ty:TypeId):∀ j u,[v0,v1,v2,v3,v4,v5][j]?=some u->(w.alloc (.cells #[v0,v1,v2,v3,v4,v5] ty)).cell? ((⟨w.heap.size,0,none⟩:Addr).add j)=some u:=by
 intro j u hu
 match j with
 | 0=>simp at hu;subst hu;simp[go_sem,Addr.add]
 | 1=>simp at hu;subst hu;simp[go_sem,Addr.add]
 | 2=>simp at hu;subst hu;simp[go_sem,Addr.add]
 | 3=>simp at hu;subst hu;simp[go_sem,Addr.add]
 | 4=>simp at hu;subst hu;simp[go_sem,Addr.add]
 | 5=>simp at hu;subst hu;simp[go_sem,Addr.add]
 | j+6=>simp at hu
theorem Qd {ms:Ms} {e:ByteArray × Option Md} {i:Nat} (h:i<ms.length):mx (ms++[e]) i=mx ms i:=by
 unfold mx
 rw[gG,gG,List.getElem?_append_left h]
theorem Mp (ms:Ms) (e:ByteArray × Option Md):mx (ms++[e]) ms.length=e:=by
 unfold mx
 rw[gG,List.getElem?_append_right (Nat.le_refl _)]
 simp
theorem Ar.grown {w w':World} {B base' e' sz' n':Nat} {v v':Value} {xs':List Value} {ls:List G3} (h:Ar w B v ls) (ho':w.ownsRow base' e' sz' v' n' xs') (hne:45≠e') (hg:w.grownBy w' v'.ownBlock):Ar w' B v ls:=by
 obtain⟨xs,h1,h2⟩:=h
 exact⟨xs,Hn h1 ho' hne hg,h2⟩
theorem Bh.push {B h:Nat} {sv tv:Value} {W w4:World} {ms:Ms} {st:List ByteArray} {mv mv' kv:Value} {vs:Nat->Value} {nm:ByteArray} {o:Obj} (s:Bh B h sv tv W ms st mv kv vs) (hg:(W.alloc o).grownBy w4 mv.ownBlock) (ho:w4.ownsRow B 72 6 mv' (ms.length+1) (Ox ms vs++[.string nm,.int .i64 0,.string ⟨#[]⟩,.slice none 0 0,.slice none 0 0,.bool false])) :
  Bh B h sv tv (w4.setCell ⟨h,2,none⟩ mv') (ms++[(nm,none)]) st mv' kv vs/\KS B h W (w4.setCell ⟨h,2,none⟩ mv')/\w4.heap[h]?=some (.cells #[sv,tv,mv,kv,.int .i64 0,.string ⟨#[]⟩,.slice none 0 0,.bool false] 69 (0,0)):=by
 have hbA:Below W.heap.size W (W.alloc o):=aN _ _
 have s1:=s.bl hbA
 have hh:=Af s.blk
 have hB:=s.hB
 have hblk:w4.heap[h]?=some (.cells #[sv,tv,mv,kv,.int .i64 0,.string ⟨#[]⟩,.slice none 0 0,.bool false] 69 (0,0)):=Fh s1.row hg (by decide) s1.blk
 refine⟨⟨s.hB,?_,?_,Da (Hn s1.stk s1.row (by decide) hg) hblk (by decide) 2 _,fun i d hi hd=>?_⟩,((KS.old hbA (by omega)).trans (KS.grown (Or.inr rfl) s1.row hg (by simp;omega))).setH s.hB 2 _,hblk⟩
 ·rw[jB hblk mv' (i:=2)];rfl
 ·rw[List.length_append,List.length_singleton,Yl];exact Da ho hblk (by decide) 2 _
 ·rw[List.length_append,List.length_singleton] at hi
  rcases Nat.lt_or_ge i ms.length with q|q
  ·rw[Qd q] at hd;exact((s1.lks i d q hd).grown s1.row (by decide) hg).set hblk (by decide) 2 _
  ·obtain rfl:i=ms.length:=by omega
   rw[Mp] at hd;cases hd
theorem Gf {xs ys:List Value} (n j:Nat) (u:Value) (h:xs.length=n):(xs++ys).set (n+j) u=xs++ys.set j u:=by
 rw[List.set_append_right _ _ (by omega)]
 congr 2
 omega
theorem Rx (c:Int) (t:ByteArray) (lv:Value) (nm:ByteArray) (ls:List G3):∀(ms:Ms) (vs:Nat->Value) (k:Nat),k<ms.length->mx ms k=(nm,none)→
  (((((Ox ms vs).set (k*6+1) (.int .i64 c)).set (k*6+2) (.string t)).set (k*6+3) (.slice none 0 0)).set (k*6+4) lv).set (k*6+5) (.bool true)=Ox (ms.set k (nm,some ⟨c,t,ls⟩)) (fun i=>if i=k then lv else vs i)
 | [],vs,k,h,_=>by simp at h
 | e :: r,vs,0,h,hm=>by
  have he:e=(nm,none):=hm;subst he;have hc:Ox r (fun i=>if i+1=0 then lv else vs (i+1))=Ox r (fun i=>vs (i+1)):=Qe r _ _ (fun i hi=>by simp);simp only[Ox,List.set_cons_zero,if_true,hc,Nat.zero_mul,Nat.zero_add];simp[Vz]
 | e :: r,vs,k+1,h,hm=>by
  rw[Dt] at hm;have ih:=Rx c t lv nm ls r (fun i=>vs (i+1)) k (by simpa using h) hm;have hl:(Vz e (vs 0)).length=6:=Ji _ _;simp only[Ox,List.set_cons_succ];rw[show (k+1)*6+1=6+(k*6+1) from by omega,show (k+1)*6+2=6+(k*6+2) from by omega,show (k+1)*6+3=6+(k*6+3) from by omega,show (k+1)*6+4=6+(k*6+4) from by omega,show (k+1)*6+5=6+(k*6+5) from by omega];rw[Gf 6 _ _ hl,Gf 6 _ _ hl,Gf 6 _ _ hl,Gf 6 _ _ hl,Gf 6 _ _ hl,ih];congr 1;exact Qe _ _ _ (fun i hi=>by simp)
theorem msC_fill0 (c:Int) (t:ByteArray) (nm:ByteArray) (ls:List G3) (ms:Ms) (vs:Nat->Value) (k:Nat) (h:k<ms.length) (hm:mx ms k=(nm,none)) :
  ((((Ox ms vs).set (k*6+1) (.int .i64 c)).set (k*6+2) (.string t)).set (k*6+3) (.slice none 0 0)).set (k*6+5) (.bool true)=Ox (ms.set k (nm,some ⟨c,t,ls⟩)) (fun i=>if i=k then .slice none 0 0 else vs i):=by
 rw[<- Rx c t (.slice none 0 0) nm ls ms vs k h hm]
 congr 1
 symm
 have hlen:k*6+4<(Ox ms vs).length:=by rw[Rw];omega
 have h4:(Ox ms vs)[k*6+4]?=some (.slice none 0 0):=by rw[Ov ms vs k 4 h (by omega),hm];rfl
 apply List.ext_getElem?
 intro j
 by_cases q:k*6+4=j
 ·subst q;rw[List.getElem?_set_self (by simpa using hlen),List.getElem?_set_ne (by omega),List.getElem?_set_ne (by omega),List.getElem?_set_ne (by omega),h4]
 ·rw[List.getElem?_set_ne q]
end
section
open Go.Deep
def K68 (w w':World):Prop:=∀(b:Nat) (cs:Array Value) (T:TypeId),T≠72->w.heap[b]?=some (Obj.cells cs T (0,0))->w'.heap[b]?=some (Obj.cells cs T (0,0))
theorem own_k68 {w w':World} {base e sz n:Nat} {v:Value} {xs:List Value} (ho:w.ownsRow base e sz v n xs) (he:e≠72) (k:K68 w w'):w'.ownsRow base e sz v n xs:=by
 refine⟨ho.1,?_⟩
 rcases ho.2 with r|⟨g,cap,cur,rfl,hg,hh,r⟩
 ·exact Or.inl r
 ·exact Or.inr ⟨g,cap,cur,rfl,hg,k _ _ _ he hh,r⟩
theorem Im {w:World} {B h g n cap:Nat} {xs:List Value} (hr:w.ownsRow B 72 6 (.slice (some ⟨g,0,none⟩) n cap) n xs) (j:Nat) (u:Value):(w.setCell ⟨g,j,none⟩ u).ownsRow B 72 6 (.slice (some ⟨g,0,none⟩) n cap) n (xs.set j u)/\K68 w (w.setCell ⟨g,j,none⟩ u)/\KS B h w (w.setCell ⟨g,j,none⟩ u):=by
 have hB:B<=g:=(hr.lt g (by simp[Value.ownBlock])).1
 have hg:∃ cur,w.heap[g]?=some (.cells cur 72 (0,0)):=by
  rcases hr.2 with ⟨e,_⟩|⟨g',cap',cur,e,_,hh,_⟩
  ·cases e
  ·simp only[Value.slice.injEq,Option.some.injEq,Addr.mk.injEq,and_true,true_and] at e;obtain⟨rfl,rfl⟩:=e;exact⟨cur,hh⟩
 obtain⟨cur,hh⟩:=hg
 have hk:∀(b:Nat) (cs:Array Value) (T:TypeId),T≠72->w.heap[b]?=some (Obj.cells cs T (0,0))->(w.setCell ⟨g,j,none⟩ u).heap[b]?=some (Obj.cells cs T (0,0)):=by
  intro b cs T hT hb
  rw[hC w ⟨g,j,none⟩ _ b (fun e=>by
   have e:b=g:=e;subst e;rw[hh] at hb;injection hb with hb;injection hb with _ h5;exact hT h5.symm)]
  exact hb
 exact⟨(hr.stored j u).1,hk,(Below.refl _ _).setCell (p:=⟨g,j,none⟩) hB _,fun b cs T _ h2 _ hb=>hk b cs T h2 hb⟩
def Sv (w:World) (g k:Nat) (c:Int) (t:ByteArray) (lv:Value):World:=((((w.setCell ⟨g,k*6+1,none⟩ (.int .i64 c)).setCell ⟨g,k*6+2,none⟩ (.string t)).setCell ⟨g,k*6+3,none⟩ (.slice none 0 0)).setCell ⟨g,k*6+4,none⟩ lv).setCell ⟨g,k*6+5,none⟩ (.bool true)
def Mh (w:World) (g k:Nat) (c:Int) (t:ByteArray):World:=(((w.setCell ⟨g,k*6+1,none⟩ (.int .i64 c)).setCell ⟨g,k*6+2,none⟩ (.string t)).setCell ⟨g,k*6+3,none⟩ (.slice none 0 0)).setCell ⟨g,k*6+5,none⟩ (.bool true)
theorem Bh.of_fill {B h:Nat} {sv tv:Value} {w w':World} {ms:Ms} {st:List ByteArray} {mv kv lv:Value} {vs:Nat->Value} (s:Bh B h sv tv w ms st mv kv vs) (k68:K68 w w') {nm:ByteArray} {k:Nat} {d:Md} (hk:k<ms.length) (hlv:Ar w B lv d.ls) (hr:w'.ownsRow B 72 6 mv ms.length (Ox (ms.set k (nm,some d)) (fun i=>if i=k then lv else vs i))) :
  Bh B h sv tv w' (ms.set k (nm,some d)) st mv kv (fun i=>if i=k then lv else vs i):=by
 refine⟨s.hB,k68 _ _ _ (by decide) s.blk,by rw[List.length_set];exact hr,own_k68 s.stk (by decide) k68,fun i e hi he=>?_⟩
 rw[List.length_set] at hi
 by_cases q:i=k
 ·subst q
  have:mx (ms.set i (nm,some d)) i=(nm,some d):=by
   unfold mx;rw[gG,List.getElem?_set_self hi];rfl
  rw[this] at he;cases he;simp only[if_true];exact hlv.same (fun b cs hb=>k68 b cs 45 (by decide) hb)
 ·have:mx (ms.set k (nm,some d)) i=mx ms i:=by
   unfold mx;rw[gG,List.getElem?_set_ne (fun e=>q e.symm),gG]
  rw[this] at he;simp only[if_neg q];exact(s.lks i e hi he).same (fun b cs hb=>k68 b cs 45 (by decide) hb)
theorem Bh.fill {B h g cap:Nat} {sv tv:Value} {w:World} {ms:Ms} {st:List ByteArray} {kv lv:Value} {vs:Nat->Value} (s:Bh B h sv tv w ms st (.slice (some ⟨g,0,none⟩) ms.length cap) kv vs) {nm:ByteArray} {k:Nat} {d:Md} (hk:k<ms.length) (hm:mx ms k=(nm,none)) (hlv:Ar w B lv d.ls) :
  Bh B h sv tv (Sv w g k d.c d.t lv) (ms.set k (nm,some d)) st (.slice (some ⟨g,0,none⟩) ms.length cap) kv (fun i=>if i=k then lv else vs i)/\KS B h w (Sv w g k d.c d.t lv)/\K68 w (Sv w g k d.c d.t lv):=by
 obtain⟨r1,a1,k1⟩:=Im (h:=h) s.row (k*6+1) (.int .i64 d.c)
 obtain⟨r2,a2,k2⟩:=Im (h:=h) r1 (k*6+2) (.string d.t)
 obtain⟨r3,a3,k3⟩:=Im (h:=h) r2 (k*6+3) (.slice none 0 0)
 obtain⟨r4,a4,k4⟩:=Im (h:=h) r3 (k*6+4) lv
 obtain⟨r5,a5,k5⟩:=Im (h:=h) r4 (k*6+5) (.bool true)
 have hka:K68 w (Sv w g k d.c d.t lv):=fun b cs T hT hb=>a5 b cs T hT (a4 b cs T hT (a3 b cs T hT (a2 b cs T hT (a1 b cs T hT hb))))
 refine⟨s.of_fill hka hk hlv ?_,(((k1.trans k2).trans k3).trans k4).trans k5,hka⟩
 rw[Rx d.c d.t lv nm d.ls ms vs k hk hm] at r5
 exact r5
theorem Jd (w:World) (B:Nat):Ar w B (.slice none 0 0) []:=⟨[],⟨rfl,Or.inl ⟨rfl,rfl⟩⟩,fun i hi=>by simp at hi⟩
theorem Bh.fill0 {B h g cap:Nat} {sv tv:Value} {w:World} {ms:Ms} {st:List ByteArray} {kv:Value} {vs:Nat->Value} (s:Bh B h sv tv w ms st (.slice (some ⟨g,0,none⟩) ms.length cap) kv vs) {nm:ByteArray} {k:Nat} (c:Int) (t:ByteArray) (hk:k<ms.length) (hm:mx ms k=(nm,none)) :
  Bh B h sv tv (Mh w g k c t) (ms.set k (nm,some ⟨c,t,[]⟩)) st (.slice (some ⟨g,0,none⟩) ms.length cap) kv (fun i=>if i=k then .slice none 0 0 else vs i)/\KS B h w (Mh w g k c t)/\K68 w (Mh w g k c t):=by
 obtain⟨r1,a1,k1⟩:=Im (h:=h) s.row (k*6+1) (.int .i64 c)
 obtain⟨r2,a2,k2⟩:=Im (h:=h) r1 (k*6+2) (.string t)
 obtain⟨r3,a3,k3⟩:=Im (h:=h) r2 (k*6+3) (.slice none 0 0)
 obtain⟨r5,a5,k5⟩:=Im (h:=h) r3 (k*6+5) (.bool true)
 have hka:K68 w (Mh w g k c t):=fun b cs T hT hb=>a5 b cs T hT (a3 b cs T hT (a2 b cs T hT (a1 b cs T hT hb)))
 refine⟨s.of_fill (d:=⟨c,t,[]⟩) hka hk (Jd w B) ?_,((k1.trans k2).trans k3).trans k5,hka⟩
 rw[msC_fill0 c t nm [] ms vs k hk hm] at r5
 exact r5
end
end Go.Proofs.YtjlnkepkkdefdaaGreatDoor
