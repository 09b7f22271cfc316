import Derived.Test.YtjlnkepkkdefdaaGreatDoorTImG
namespace Go.Proofs.YtjlnkepkkdefdaaGreatDoor
open Go.RowKit
set_option linter.unusedVariables false
set_option maxHeartbeats 8000000
set_option maxRecDepth 100000
set_option linter.unusedSimpArgs false
section
open Go.Deep
theorem at_true {l:List ByteArray} {t:ByteArray} {r:Nat} (ha:Ey l) (h:At l t r true):r<l.length/\nx l r=t:=by
 obtain⟨j,hj,e⟩:=h.has.mp rfl
 rcases Nat.lt_trichotomy j r with q|q|q
 ·have:=h.lo j q;rw[e,Fa] at this;cases this
 ·subst q;exact⟨hj,e⟩
 ·have h1:=h.hi r (Nat.le_refl _) (by omega);have h2:=ha.pair q hj;rw[e,h1] at h2;cases h2
theorem at_false {l:List ByteArray} {t:ByteArray} {r:Nat} (h:At l t r false):¬ Fi l t:=fun q=>by have:=h.has.mpr q;cases this
theorem nms_app (ms:Ms) (nm:ByteArray) (o:Option Md):Eo (ms++[(nm,o)])=Eo ms++[nm]:=by simp[Eo]
theorem Rn {B h mb R:Nat} {sv tv fv:Value} {ss:List S2} {ts:List T2} {ms:Ms} {st:List ByteArray} {av kv:Value} {vs:ByteArray->Value} {nm:ByteArray} {w U:World} {u0 u1 u2 u3 u4 u5:Value} {c:Int} {t:ByteArray} (s:Gx B h mb 2 sv tv fv U ms st (Eo ms++[nm]) av kv vs) (hk:KP B h mb av kv w U) (hR:U.heap[R]?=some (.cells #[u0,u1,u2,u3,u4,u5] 59 (0,0))) (hne:R≠h) (hB:B<=R) (hw:w.heap.size<=R) (hl:lk ms nm=none) (hd:Av ss ts ms st (.make nm) (ms++[(nm,some ⟨c,t,[]⟩)]) (.ok ⟨c,t,[]⟩)) :
  Te B h mb sv tv fv ss ts ms st av kv vs nm w (.returned (Lk ⟨c,t,[]⟩ (.slice none 0 0))) ((((((U.setCell ⟨R,0,none⟩ (.bool false)).setCell ⟨R,1,none⟩ (.int .i64 c)).setCell ⟨R,2,none⟩ (.string t)).setCell ⟨R,3,none⟩ (.slice none 0 0)).setCell ⟨R,4,none⟩ (.string ⟨#[]⟩)).setCell ⟨R,5,none⟩ (.slice none 0 0)):=by
 refine⟨hk.set6 hB hw _ _ _ _ _ _,Or.inl ⟨ms,ms++[(nm,some ⟨c,t,[]⟩)],⟨c,t,[]⟩,.slice none 0 0,av,kv,vs,rfl,?_,fun x hx=>Bw (fun e=>hx e.symm),Dp hl,hd,Jd _ _,fun b q=>by simp[Value.ownBlock] at q,Cc.refl _ _,Cc.refl _ _,Mz.refl _ _ _⟩⟩
 rw[nms_app]
 exact(s.le (k':=1) (by omega)).set6 hR hne _ _ _ _ _ _
theorem Tz (W0:World) (h mb:Nat) (sa ta:Option Addr) (c1 c2:Nat) (ss:List S2) (ts:List T2) (nm:ByteArray) (ms:Ms) (st:List ByteArray) (av kv:Value) (vs:ByteArray->Value) (w:World) (hE:Jt W0 sa ta ss ts)
  (s:Gx W0.heap.size h mb 2 (.slice sa ss.length c1) (.slice ta ts.length c2) (.func (.func 73) #[.pointer (some ⟨h,0,none⟩)] #[]) w ms st (Eo ms++[nm]) av kv vs) (hi:Ja ss ts ms st) (hp:phi ts ms<=0) (hW:Below W0.heap.size W0 w) (hk:lk ms nm=none) (h60:st.length<=60) (hnm:Aq nm)
  (hR:∀ i a cap,i<ts.length->(tx ts i).name=nm->Dr W0 a (tx ts i).code->st.length<60->Vi W0 h mb (.slice sa ss.length c1) (.slice ta ts.length c2) (.func (.func 73) #[.pointer (some ⟨h,0,none⟩)] #[]) ss ts (st++[nm]) nm a cap (tx ts i).code) :
  Calls Tryz.prog 103 #[.pointer (some ⟨h,0,none⟩),.string nm] w fun e w'=>Te W0.heap.size h mb (.slice sa ss.length c1) (.slice ta ts.length c2) (.func (.func 73) #[.pointer (some ⟨h,0,none⟩)] #[]) ss ts ms st av kv vs nm w e w':=by
 have hB:=hW.size
 have hhw:h<w.heap.size:=Af s.blk
 obtain⟨W,eW⟩:∃ W,w.alloc (.cells #[.bool false,.int .i64 0,.string ⟨#[]⟩,.slice none 0 0,.string ⟨#[]⟩,.slice none 0 0] 59)=W:=⟨_,rfl⟩
 have hbW:Below w.heap.size w W:=by rw[<- eW];exact Ak _ _
 have HRB:Hd (W.heap[w.heap.size]?=some (.cells #[.bool false,.int .i64 0,.string ⟨#[]⟩,.slice none 0 0,.string ⟨#[]⟩,.slice none 0 0] 59 (0,0))):=by
  show _=_;rw[<- eW];exact Aj _ _
 obtain⟨x0,x1,_⟩:=(s.bl hbW).cells
 have hl1:=hE.l1
 have hl2:=hE.l2
 have HFS:Hd (∀ V,Below w.heap.size w V->Calls Tryz.prog 125 #[.agg #[.slice sa ss.length c1,.slice ta ts.length c2],.string nm] V fun e w'=>Below V.heap.size V w'/\∃(r:Nat) (b:Bool),e=.returned (.tuple #[.int .i64 r,.bool b])/\At (Ai ss) nm r b):=fun V hV=>Mg sa ta ss.length ts.length c1 c2 ss nm V (hE.rs.bl (hW.trans (hV.mono hB))) (by omega) hE.v.ascS rfl
 have HFT:Hd (∀ V,Below w.heap.size w V->Calls Tryz.prog 126 #[.agg #[.slice sa ss.length c1,.slice ta ts.length c2],.string nm] V fun e w'=>Below V.heap.size V w'/\∃(r:Nat) (b:Bool),e=.returned (.tuple #[.int .i64 r,.bool b])/\At (Ae ts) nm r b):=fun V hV=>Mf sa ta ss.length ts.length c1 c2 ts nm V (hE.rt.bl (hW.trans (hV.mono hB))) (by omega) hE.v.ascT rfl
 have HS:Hd (Gx W0.heap.size h mb 2 (.slice sa ss.length c1) (.slice ta ts.length c2) (.func (.func 73) #[.pointer (some ⟨h,0,none⟩)] #[]) w ms st (Eo ms++[nm]) av kv vs):=s
 have HE:Hd (Jt W0 sa ta ss ts):=hE
 have HF:Hd (Ja ss ts ms st/\phi ts ms<=0/\Below W0.heap.size W0 w/\lk ms nm=none/\Aq nm):=⟨hi,hp,hW,hk,hnm⟩
 have HR:Hd (∀ i a cap,i<ts.length->(tx ts i).name=nm->Dr W0 a (tx ts i).code->st.length<60->Vi W0 h mb (.slice sa ss.length c1) (.slice ta ts.length c2) (.func (.func 73) #[.pointer (some ⟨h,0,none⟩)] #[]) ss ts (st++[nm]) nm a cap (tx ts i).code):=hR
 have HB:Hd (Below w.heap.size w W):=hbW
 clear s hi hp hW hk hnm hR hbW hE
 go_enter Tryz.func103,Tryz.ntmps103
 go_wp2_with fail
 refine(HFS.o W HB.o).mono ?_
 rintro e w3 ⟨hb3,r,b,rfl,hat⟩
 have HB3:Hd (Below w.heap.size w w3):=Bo HB.o hb3
 have HR3:Hd (w3.heap[w.heap.size]?=some (.cells #[.bool false,.int .i64 0,.string ⟨#[]⟩,.slice none 0 0,.string ⟨#[]⟩,.slice none 0 0] 59 (0,0))):=Ag hb3 HRB.o
 have HAT:Hd (At (Ai ss) nm r b):=hat
 have HS3:Hd (Gx W0.heap.size h mb 2 (.slice sa ss.length c1) (.slice ta ts.length c2) (.func (.func 73) #[.pointer (some ⟨h,0,none⟩)] #[]) w3 ms st (Eo ms++[nm]) av kv vs):=HS.o.bl HB3.o
 clear hb3 hat x0 x1 HRB eW
 obtain⟨x0,x1,_⟩:=HS3.o.cells
 obtain⟨⟨z0,z1,z2,z3,z4,z5⟩,zf⟩:=Nu HR3.o
 dsimp only
 cases b with
 | true=>
  obtain⟨hr,hrn⟩:=at_true HE.o.v.ascS HAT.o;rw[Ca] at hr;rw[Eb] at hrn;have hrI:(r:Int)<(ss.length:Int):=by omega
  have HDO:Av ss ts ms st (.make nm) (ms++[(nm,some ⟨0,(sx ss r).text,[]⟩)]) (.ok ⟨0,(sx ss r).text,[]⟩):=.source HF.o.2.2.2.1 hr hrn;obtain⟨sb,so,rfl,_,e2⟩:=(HE.o.rs.bl (HF.o.2.2.1.trans (HB3.o.mono hB))) r hr;generalize (sx ss r).text=tx0 at HDO e2;have HD:Hd (Av ss ts ms st (.make nm) (ms++[(nm,some ⟨0,tx0,[]⟩)]) (.ok ⟨0,tx0,[]⟩)):=HDO;clear HDO hrn HFS HFT HR;go_wp2_with fail;obtain⟨⟨v0,v1,v2,v3,v4,v5⟩,_⟩:=Nu (Fq HR3.o (.bool false) (.int .i64 0) (.string tx0) (.slice none 0 0) (.string ⟨#[]⟩) (.slice none 0 0));exact bR (v:=Lk ⟨0,tx0,[]⟩ (.slice none 0 0)) (by simp[results,Tryz.results103,go_sem,Lk,v0,v1,v2,v3,v4,v5]) rfl (Rn HS3.o (KP.old HB3.o hB) HR3.o (by omega) hB (Nat.le_refl _) HF.o.2.2.2.1 HD.o)
 | false=>
  have HNS:Hd (¬ Fi (Ai ss) nm):=at_false HAT.o;go_wp2_with fail;refine(HFT.o w3 HB3.o).mono ?_;rintro e w4 ⟨hb4,r4,b4,rfl,hat4⟩;have HB4:Hd (Below w.heap.size w w4):=Bo HB3.o hb4;have HR4:Hd (w4.heap[w.heap.size]?=some (.cells #[.bool false,.int .i64 0,.string ⟨#[]⟩,.slice none 0 0,.string ⟨#[]⟩,.slice none 0 0] 59 (0,0))):=Ag hb4 HR3.o;have HAT4:Hd (At (Ae ts) nm r4 b4):=hat4;have HS4:Hd (Gx W0.heap.size h mb 2 (.slice sa ss.length c1) (.slice ta ts.length c2) (.func (.func 73) #[.pointer (some ⟨h,0,none⟩)] #[]) w4 ms st (Eo ms++[nm]) av kv vs):=HS.o.bl HB4.o;clear hb4 hat4 x0 x1 z0 z1 z2 z3 z4 z5 zf HR3 HS3 HAT;obtain⟨x0,x1,_⟩:=HS4.o.cells;obtain⟨⟨z0,z1,z2,z3,z4,z5⟩,zf⟩:=Nu HR4.o;dsimp only
  cases b4 with
  | true=>
   obtain⟨hr,hrn⟩:=at_true HE.o.v.ascT HAT4.o;rw[Bj] at hr;rw[Df] at hrn;have hrI:(r4:Int)<(ts.length:Int):=by omega
   have hbw4:=HF.o.2.2.1.trans (HB4.o.mono hB);obtain⟨tb,tq,rfl,f1,a',cap',f2,hrow⟩:=HE.o.rt r4 hr;have e1:w4.cell? ⟨tb,tq+r4*2,none⟩=some (.string nm):=by rw[hbw4.cell (p:=⟨tb,tq+r4*2,none⟩) (World.block_lt_of_cell? _ _ f1),f1,hrn]
   have e2:w4.cell? ⟨tb,tq+r4*2+1,none⟩=some (.slice a' (tx ts r4).code.length cap'):=by rw[hbw4.cell (p:=⟨tb,tq+r4*2+1,none⟩) (World.block_lt_of_cell? _ _ f2),f2]
   have hMT:=Rz W0 h mb sa (some ⟨tb,tq,none⟩) a' c1 c2 cap' r4 ss ts nm ms st av kv vs w4 HE.o HS4.o HF.o.1 HF.o.2.1 hbw4 HF.o.2.2.2.1 h60 HF.o.2.2.2.2 HNS.o hr hrn (HR.o r4 a' cap' hr hrn hrow);generalize (tx ts r4).code.length=cl at e2 hMT;have HMT:Hd (Calls Tryz.prog 127 #[.pointer (some ⟨h,0,none⟩),.agg #[.string nm,.slice a' cl cap']] w4 fun e w'=>Te W0.heap.size h mb (.slice sa ss.length c1) (.slice (some ⟨tb,tq,none⟩) ts.length c2) (.func (.func 73) #[.pointer (some ⟨h,0,none⟩)] #[]) ss ts ms st av kv vs nm w4 e w'):=hMT;have hwl4:w.heap.size<w4.heap.size:=Af HR4.o;clear hMT hrow f1 f2 hbw4 HFS HFT HR hrn z0 z1 z2 z3 z4 z5 zf;go_wp2_with fail;refine HMT.o.mono ?_;rintro e w5 ⟨hk5,⟨m1,mf,⟨dc,dt,dls⟩,lv,av5,kv5,vs5,rfl,hs5,hne5,hat5,hdo,hlo,hlb,ha5,hkk5,hf5⟩|⟨ms',an,v,hdo,rfl,hv⟩⟩
   ·have hsz5:=hk5.bl.size
    have hR5:w5.heap[w.heap.size]?=some (.cells #[.bool false,.int .i64 0,.string ⟨#[]⟩,.slice none 0 0,.string ⟨#[]⟩,.slice none 0 0] 59 (0,0)):=by
     obtain⟨n,_,hm⟩:=HS4.o.map;rw[hk5.keep _ hwl4 (by omega) (fun e=>hm.notCells (e▸HR4.o)) (Ad HS4.o.ask (by decide) HR4.o) (Ad HS4.o.stk (by decide) HR4.o)];exact HR4.o
    have HR5:Hd _:=hR5;have HK5:Hd (KP W0.heap.size h mb av kv w w5):=(KP.old HB4.o hB).trans (Cc.refl _ _) (Cc.refl _ _) hk5;have HS5:Hd (Gx W0.heap.size h mb 1 (.slice sa ss.length c1) (.slice (some ⟨tb,tq,none⟩) ts.length c2) (.func (.func 73) #[.pointer (some ⟨h,0,none⟩)] #[]) w5 m1 st (Eo mf) av5 kv5 vs5):=hs5;obtain⟨la,ln,lc,rfl⟩:=Jj hlo;have HX5:Hd ((∀ x,x≠nm->lk mf x=lk m1 x)/\lk mf nm=some (some ⟨dc,dt,dls⟩)/\Av ss ts ms st (.make nm) mf (.ok ⟨dc,dt,dls⟩)/\Ar w5 W0.heap.size (.slice la ln lc) dls/\(∀ b,(Value.slice la ln lc).ownBlock=some b->w.heap.size<=b)/\Cc w av av5/\Cc w kv kv5/\Mz w ms vs m1 vs5):=⟨hne5,hat5,hdo,hlo,fun b q=>by have:=hlb b q;omega,ha5.less (by omega),hkk5.less (by omega),hf5.less (by omega)⟩;obtain⟨⟨z0,z1,z2,z3,z4,z5⟩,zf⟩:=Nu hR5;unfold Lk;dsimp only;clear hs5 hne5 hat5 hdo hlo hlb ha5 hkk5 hf5 hk5 hR5 HMT;go_wp2_with fail;obtain⟨⟨v0,v1,v2,v3,v4,v5⟩,_⟩:=Nu (Fq HR5.o (.bool false) (.int .i64 dc) (.string dt) (.slice none 0 0) (.string ⟨#[]⟩) (.slice la ln lc));obtain⟨y1,y2,y3,y4,y5,y6,y7,y8⟩:=HX5.o;exact bR (v:=Lk ⟨dc,dt,dls⟩ (.slice la ln lc)) (by simp[results,Tryz.results103,go_sem,Lk,v0,v1,v2,v3,v4,v5]) rfl ⟨HK5.o.set6 hB (Nat.le_refl _) _ _ _ _ _ _,Or.inl ⟨m1,mf,⟨dc,dt,dls⟩,.slice la ln lc,av5,kv5,vs5,rfl,HS5.o.set6 HR5.o (by omega) _ _ _ _ _ _,y1,y2,y3,y4.keptB (fun b q=>Dl (fun e=>by obtain⟨xs,k1,_⟩:=y4;subst e;exact Ad k1 (by decide) HR5.o q) _ _ _ _ _ _),y5,y6,y7,y8⟩⟩
   ·unfold Ty;dsimp only;have HP5:Hd (KP W0.heap.size h mb av kv w w5/\Av ss ts ms st (.make nm) ms' an/\Ie W0.heap.size w5 an v):=⟨(KP.old HB4.o hB).trans (Cc.refl _ _) (Cc.refl _ _) hk5,hdo,hv⟩;clear hk5 hdo hv HMT;go_wp2_with fail;exact⟨rfl,HP5.o.1,Or.inr ⟨ms',an,v,HP5.o.2.1,rfl,HP5.o.2.2⟩⟩
  | false=>
   have HD:Hd (Av ss ts ms st (.make nm) (ms++[(nm,some ⟨4,nm,[]⟩)]) (.ok ⟨4,nm,[]⟩)):=.missing HF.o.2.2.2.1 (fun q=>q.elim HNS.o (at_false HAT4.o));clear HFS HFT HR;go_wp2_with fail;obtain⟨⟨v0,v1,v2,v3,v4,v5⟩,_⟩:=Nu (Fq HR4.o (.bool false) (.int .i64 4) (.string nm) (.slice none 0 0) (.string ⟨#[]⟩) (.slice none 0 0));exact bR (v:=Lk ⟨4,nm,[]⟩ (.slice none 0 0)) (by simp[results,Tryz.results103,go_sem,Lk,v0,v1,v2,v3,v4,v5]) rfl (Rn HS4.o (KP.old HB4.o hB) HR4.o (by omega) hB (Nat.le_refl _) HF.o.2.2.2.1 HD.o)
end
section
open Go.Deep
theorem Qz (c:Int) (t:ByteArray) (w:World) (h0:0<=c) (h5:c<=5) (ht:t.size<=2000):Calls Tryz.prog 12 #[.agg #[.int .i64 c,.string t,.slice none 0 0]] w fun e w'=>e=.returned (.string (Bn c t))/\Below w.heap.size w w':=by
 obtain⟨m,rfl⟩:=Int.eq_ofNat_of_zero_le h0
 exact Pc m t none 0 w (by omega) ht
theorem set1_at {w:World} {b j:Nat} {cs cs':Array Value} {T:TypeId} {u:Value} (h:w.heap[b]?=some (.cells cs T (0,0))) (hc:cs.setIfInBounds j u=cs'):(w.setCell ⟨b,j,none⟩ u).heap[b]?=some (.cells cs' T (0,0)):=by
 rw[jB h,hc]
theorem und_set {B h mb k A O j:Nat} {sv tv fv:Value} {w wx:World} {ms:Ms} {st al:List ByteArray} {av0 kv0 av kv:Value} {vs:ByteArray->Value} {cs ocs cs':Array Value} {lv u:Value} {ls:List G3} (s:Gx B h mb k sv tv fv wx ms st al av kv vs) (kp:KP B h mb av0 kv0 w wx) (hA:wx.heap[A]?=some (.cells cs 59 (0,0))) (hO:wx.heap[O]?=some (.cells ocs 59 (0,0))) (lo:Ar wx B lv ls) (hne:A≠h) (hOA:O≠A) (hB:B<=A) (hw:w.heap.size<=A) (hc:cs.setIfInBounds j u=cs') :
  Gx B h mb k sv tv fv (wx.setCell ⟨A,j,none⟩ u) ms st al av kv vs/\KP B h mb av0 kv0 w (wx.setCell ⟨A,j,none⟩ u)/\(wx.setCell ⟨A,j,none⟩ u).heap[A]?=some (.cells cs' 59 (0,0))/\(wx.setCell ⟨A,j,none⟩ u).heap[O]?=some (.cells ocs 59 (0,0))/\Ar (wx.setCell ⟨A,j,none⟩ u) B lv ls:=
 ⟨s.set hA (by decide) (by decide) hne j u,kp.setN hB hw,set1_at hA hc,by rw[hC wx ⟨A,j,none⟩ _ O hOA];exact hO,lo.keptB (fun b q=>hC wx ⟨A,j,none⟩ _ b (fun e=>by
  obtain⟨xs,k1,_⟩:=lo;have e2:b=A:=e;subst e2;exact Ad k1 (by decide) hA q))⟩
theorem und_set7 {B h mb k A O:Nat} {sv tv fv:Value} {w wx:World} {ms:Ms} {st al:List ByteArray} {av0 kv0 av kv:Value} {vs:ByteArray->Value} {ocs:Array Value} {lv u0 u1 u2 u3 u4 u5 v0 v1 v2 v3 v4 v5 y:Value} {ls:List G3} (s:Gx B h mb k sv tv fv wx ms st al av kv vs) (kp:KP B h mb av0 kv0 w wx) (hA:wx.heap[A]?=some (.cells #[u0,u1,u2,u3,u4,u5] 59 (0,0))) (hO:wx.heap[O]?=some (.cells ocs 59 (0,0))) (lo:Ar wx B lv ls) (hne:A≠h) (hOA:O≠A) (hB:B<=A) (hw:w.heap.size<=A) {Z:World} (eZ:(((((((wx.setCell ⟨A,0,none⟩ v0).setCell ⟨A,1,none⟩ v1).setCell ⟨A,2,none⟩ v2).setCell ⟨A,3,none⟩ v3).setCell ⟨A,4,none⟩ v4).setCell ⟨A,5,none⟩ v5).setCell ⟨A,0,none⟩ y)=Z) :
  Gx B h mb k sv tv fv Z ms st al av kv vs/\KP B h mb av0 kv0 w Z/\Z.heap[A]?=some (.cells #[y,v1,v2,v3,v4,v5] 59 (0,0))/\Z.heap[O]?=some (.cells ocs 59 (0,0))/\Ar Z B lv ls:=by
 subst eZ
 have s6:=s.set6 hA hne v0 v1 v2 v3 v4 v5
 have k6:=kp.set6 hB hw v0 v1 v2 v3 v4 v5
 have a6:=Fq hA v0 v1 v2 v3 v4 v5
 have o6:=(Dl (w:=wx) hOA v0 v1 v2 v3 v4 v5).trans hO
 have l6:Ar _ B lv ls:=lo.keptB (fun b q=>Dl (w:=wx) (b:=A) (fun e=>by obtain⟨xs,k1,_⟩:=lo;subst e;exact Ad k1 (by decide) hA q) v0 v1 v2 v3 v4 v5)
 exact und_set (j:=0) (u:=y) (cs:=#[v0,v1,v2,v3,v4,v5]) (cs':=#[y,v1,v2,v3,v4,v5]) s6 k6 a6 o6 l6 hne hOA hB hw rfl
theorem Uo (W0:World) (h mb:Nat) (sa ta:Option Addr) (c1 c2:Nat) (ss:List S2) (ts:List T2) (nm:ByteArray) (ms:Ms) (st:List ByteArray) (av kv:Value) (vs:ByteArray->Value) (w:World) (hE:Jt W0 sa ta ss ts)
  (s:Ml W0.heap.size h mb (.slice sa ss.length c1) (.slice ta ts.length c2) (.func (.func 73) #[.pointer (some ⟨h,0,none⟩)] #[]) w ms st av kv vs) (hi:Ja ss ts ms st) (hp:phi ts ms<=0) (hW:Below W0.heap.size W0 w) (hk:lk ms nm=none) (h60:st.length<=60) (hnm:Aq nm)
  (hR:∀ i a cap,i<ts.length->(tx ts i).name=nm->Dr W0 a (tx ts i).code->st.length<60->Vi W0 h mb (.slice sa ss.length c1) (.slice ta ts.length c2) (.func (.func 73) #[.pointer (some ⟨h,0,none⟩)] #[]) ss ts (st++[nm]) nm a cap (tx ts i).code) :
  Calls Tryz.prog 75 #[.pointer (some ⟨h,0,none⟩),.string nm] w fun e w'=>Ql W0.heap.size h mb (.slice sa ss.length c1) (.slice ta ts.length c2) (.func (.func 73) #[.pointer (some ⟨h,0,none⟩)] #[]) ss ts ms st av kv vs nm w e w':=by
 have hB:=hW.size
 have hhw:h<w.heap.size:=Af s.blk
 have hms:=Uw hi hE.l2 hp
 have hn60:nm.size<=60:=hnm.2.1
 obtain⟨W,eW⟩:∃ W,w.alloc (.cells #[.bool false,.int .i64 0,.string ⟨#[]⟩,.slice none 0 0,.string ⟨#[]⟩,.slice none 0 0] 59)=W:=⟨_,rfl⟩
 have hbW:Below w.heap.size w W:=by rw[<- eW];exact Ak _ _
 have hWs:w.heap.size<W.heap.size:=by rw[<- eW];simp
 have s1:=s.bl hbW
 obtain⟨n,hn1,hmap⟩:=s1.map
 have hlook:=hmap.look (k:=nm) (by unfold maxLen;omega)
 have hmo:Fz ms vs nm=none:=by unfold Fz;rw[hk]
 rw[hmo] at hlook
 unfold Ih at hlook
 simp only[Option.getD_none,Option.isSome_none] at hlook
 obtain⟨V,eV⟩:∃ V,W.alloc (.cells #[.bool false,.int .i64 0,.string ⟨#[]⟩,.slice none 0 0,.string ⟨#[]⟩,.slice none 0 0] 59)=V:=⟨_,rfl⟩
 have hbV:Below w.heap.size w V:=by rw[<- eV];exact Bo hbW (Ak _ _)
 have hVs:W.heap.size<V.heap.size:=by rw[<- eV];simp
 have HAB:Hd (V.heap[W.heap.size]?=some (.cells #[.bool false,.int .i64 0,.string ⟨#[]⟩,.slice none 0 0,.string ⟨#[]⟩,.slice none 0 0] 59 (0,0))):=by
  show _=_;rw[<- eV];exact Aj _ _
 have HOB:Hd (V.heap[w.heap.size]?=some (.cells #[.bool false,.int .i64 0,.string ⟨#[]⟩,.slice none 0 0,.string ⟨#[]⟩,.slice none 0 0] 59 (0,0))):=by
  show _=_;rw[<- eV,Lib.alloc_old _ _ _ hWs,<- eW];exact Aj _ _
 have HSV:Hd (Ml W0.heap.size h mb (.slice sa ss.length c1) (.slice ta ts.length c2) (.func (.func 73) #[.pointer (some ⟨h,0,none⟩)] #[]) V ms st av kv vs):=s.bl hbV
 obtain⟨aa,ac,rfl⟩:∃ aa ac,av=.slice aa (Eo ms).length ac:=by
  rcases s.ask.2 with ⟨e,h0⟩|⟨g,cap,cur,e,_⟩
  ·exact⟨none,0,by rw[e,h0]⟩
  ·exact⟨_,_,e⟩
 have hnl:(Eo ms).length=ms.length:=by simp[Eo]
 obtain⟨_,_,c2',_⟩:=s1.cells
 have HE:Hd (Jt W0 sa ta ss ts):=hE
 have HF:Hd (Ja ss ts ms st/\phi ts ms<=0/\Below W0.heap.size W0 w/\lk ms nm=none/\Aq nm):=⟨hi,hp,hW,hk,hnm⟩
 have HR:Hd (∀ i a cap,i<ts.length->(tx ts i).name=nm->Dr W0 a (tx ts i).code->st.length<60->Vi W0 h mb (.slice sa ss.length c1) (.slice ta ts.length c2) (.func (.func 73) #[.pointer (some ⟨h,0,none⟩)] #[]) ss ts (st++[nm]) nm a cap (tx ts i).code):=hR
 have HBV:Hd (Below w.heap.size w V):=hbV
 have EV:Hd (W.alloc (.cells #[.bool false,.int .i64 0,.string ⟨#[]⟩,.slice none 0 0,.string ⟨#[]⟩,.slice none 0 0] 59)=V):=eV
 have HNL:Hd ((Eo ms).length<=40001):=by show _<=_;omega
 clear s s1 hi hp hW hk hnm hR hbV hbW hE eV hmap hmo hnl hn1 hms
 go_enter Tryz.func75,Tryz.ntmps75
 go_upto_region 3 with fail
 rw[EV.o]
 clear EV eW c2' hlook
 obtain⟨x0,x1,x2,x3,x4,x5,xf⟩:=HSV.o.cells
 obtain⟨i0,hi0,hz0,hz1,hz2⟩:=info_parts Tryz.info9b
 have hhv:h<V.heap.size:=Af HSV.o.blk
 have HLA:Hd (∀ o:Obj,(V.alloc o).ownsRow W0.heap.size 9 1 (.slice aa (Eo ms).length ac) (Eo ms).length (Bf (Eo ms))):=fun o=>HSV.o.ask.alloc o
 have hVB:W0.heap.size<=V.heap.size:=by omega
 have hal:=HNL.o
 go_upto_region 4 with (at_builtin;refine wpList_append_lies _ rfl (.tmp 23) (.tmp 25) 30 rfl W0.heap.size 9 i0 (.string ⟨#[]⟩) 1 16 Tryz.underlying30 hi0 hz0 hz1 hz2 rfl (by decide) _ (Eo ms).length (Bf (Eo ms)) rfl (HLA.o _) ⟨V.heap.size,0,none⟩ 1 1 [.string nm] rfl rfl (cell_one_new _ _ _) (by intro u hu;simp at hu;subst hu;rfl) (by omega) (by unfold maxLen;omega) (by omega) (by simp;omega) (V.heap.size+1) (by simp) ?_;intro g3 cp3 w3 hown3 hgrow3 hl3 hlt3;have hh3:w3.heap[h]?=some (.cells #[.slice sa ss.length c1,.slice ta ts.length c2,.map (some mb),.slice aa (Eo ms).length ac,kv,.func (.func 73) #[.pointer (some ⟨h,0,none⟩)] #[]] 140 (0,0)):=(by rw[hgrow3.block h (by simp;omega) (fun e=>Ad HSV.o.ask (by decide) HSV.o.blk e.symm),Lib.alloc_old _ _ _ hhv];exact HSV.o.blk);obtain⟨⟨y0,y1,y2,y3,y4,y5⟩,yf⟩:=Nu hh3)
 obtain⟨q1,q2,q3⟩:=HSV.o.askd (nm:=nm) hgrow3 hown3 hl3 hVB
 have hAB3:∀ b cs T,T≠9->b≠h->V.heap[b]?=some (Obj.cells cs T (0,0))->(w3.setCell ⟨h,3,none⟩ (.slice (some ⟨g3,0,none⟩) ((Eo ms).length+1) cp3)).heap[b]?=some (Obj.cells cs T (0,0)):=fun b cs T k1 k2 q=>by
  rw[hC w3 ⟨h,3,none⟩ _ b k2,hgrow3.block b (by have:=Af q;simp;omega) (fun e=>Ad HSV.o.ask k1 q e.symm),Lib.alloc_old _ _ _ (Af q)];exact q
 obtain⟨Y,eY⟩:∃ Y,w3.setCell ⟨h,3,none⟩ (.slice (some ⟨g3,0,none⟩) ((Eo ms).length+1) cp3)=Y:=⟨_,rfl⟩
 have a3:=hAB3 _ _ _ (by decide) (show W.heap.size≠h by omega) HAB.o
 have o3:=hAB3 _ _ _ (by decide) (show w.heap.size≠h by omega) HOB.o
 rw[eY] at q1 q2 a3 o3 ⊢
 have hsY:=q2.bl.size
 have hbWY:Below W0.heap.size W0 Y:=HF.o.2.2.1.trans ((HBV.o.mono hB).trans q2.bl)
 have HMT:Hd (Calls Tryz.prog 103 #[.pointer (some ⟨h,0,none⟩),.string nm] Y fun e w'=>Te W0.heap.size h mb (.slice sa ss.length c1) (.slice ta ts.length c2) (.func (.func 73) #[.pointer (some ⟨h,0,none⟩)] #[]) ss ts ms st (.slice (some ⟨g3,0,none⟩) ((Eo ms).length+1) cp3) kv vs nm Y e w'):=Tz W0 h mb sa ta c1 c2 ss ts nm ms st _ kv vs Y HE.o q1 HF.o.1 HF.o.2.1 hbWY HF.o.2.2.2.1 h60 HF.o.2.2.2.2 HR.o
 have HY:Hd (Gx W0.heap.size h mb 2 (.slice sa ss.length c1) (.slice ta ts.length c2) (.func (.func 73) #[.pointer (some ⟨h,0,none⟩)] #[]) Y ms st (Eo ms++[nm]) (.slice (some ⟨g3,0,none⟩) ((Eo ms).length+1) cp3) kv vs/\KP W0.heap.size h mb (.slice aa (Eo ms).length ac) kv w Y/\Cc w (.slice aa (Eo ms).length ac) (.slice (some ⟨g3,0,none⟩) ((Eo ms).length+1) cp3)):=⟨q1,(KP.old HBV.o hB).trans (Cc.refl _ _) (Cc.refl _ _) q2,q3.less HBV.o.size⟩
 have HA3:Hd (Y.heap[W.heap.size]?=some (.cells #[.bool false,.int .i64 0,.string ⟨#[]⟩,.slice none 0 0,.string ⟨#[]⟩,.slice none 0 0] 59 (0,0))):=a3
 have HO3:Hd (Y.heap[w.heap.size]?=some (.cells #[.bool false,.int .i64 0,.string ⟨#[]⟩,.slice none 0 0,.string ⟨#[]⟩,.slice none 0 0] 59 (0,0))):=o3
 have hWY:W.heap.size<Y.heap.size:=Af a3
 clear q1 q2 q3 hAB3 eY hgrow3 hown3 hl3 hlt3 hh3 y0 y1 y2 y3 y4 y5 yf x0 x1 x2 x3 x4 x5 xf a3 o3 HLA HSV HAB HOB hbWY HR
 go_wp2_with fail
 refine HMT.o.mono ?_
 rintro e w5 ⟨hk5,⟨m1,mf,⟨dc,dt,dls⟩,lv,av5,kv5,vs5,rfl,hs5,hne5,hat5,hdo,hlo,hlb,ha5,hkk5,hf5⟩|⟨ms',an,v,hdo,rfl,hv⟩⟩
 ·obtain⟨la,ln,lc,rfl⟩:=Jj hlo;obtain⟨nY,_,hmY⟩:=HY.o.1.map
  have keep:∀ b cs T,T≠9->T≠140->Y.heap[b]?=some (Obj.cells cs T (0,0))->w5.heap[b]?=some (Obj.cells cs T (0,0)):=fun b cs T k1 k2 q=>by
   rw[hk5.keep b (Af q) (fun e=>by subst e;have q2:=HY.o.1.blk;rw[q] at q2;injection q2 with q2;injection q2 with _ q2;exact k2 q2) (fun e=>hmY.notCells (e▸q)) (Ad HY.o.1.ask k1 q) (Ad HY.o.1.stk k1 q)];exact q
  have a5:=keep _ _ _ (by decide) (by decide) HA3.o;have o5:=keep _ _ _ (by decide) (by decide) HO3.o;have hs5':=hk5.bl.size;have HO5:Hd (w5.heap[w.heap.size]?=some (.cells #[.bool false,.int .i64 0,.string ⟨#[]⟩,.slice none 0 0,.string ⟨#[]⟩,.slice none 0 0] 59 (0,0))):=o5;have HA5:Hd (w5.heap[W.heap.size]?=some (.cells #[.bool false,.int .i64 0,.string ⟨#[]⟩,.slice none 0 0,.string ⟨#[]⟩,.slice none 0 0] 59 (0,0))):=a5;have HK5:Hd (KP W0.heap.size h mb (.slice aa (Eo ms).length ac) kv w w5):=HY.o.2.1.trans HY.o.2.2 (Cc.refl _ _) hk5;have HS5:Hd (Gx W0.heap.size h mb 1 (.slice sa ss.length c1) (.slice ta ts.length c2) (.func (.func 73) #[.pointer (some ⟨h,0,none⟩)] #[]) w5 m1 st (Eo mf) av5 kv5 vs5):=hs5;have hwY:w.heap.size<=Y.heap.size:=by omega
  have HX5:Hd ((∀ x,x≠nm->lk mf x=lk m1 x)/\lk mf nm=some (some ⟨dc,dt,dls⟩)/\Av ss ts ms st (.make nm) mf (.ok ⟨dc,dt,dls⟩)/\Ar w5 W0.heap.size (.slice la ln lc) dls/\(∀ b,(Value.slice la ln lc).ownBlock=some b->w.heap.size<=b)/\Cc w (.slice aa (Eo ms).length ac) av5/\Cc w kv kv5/\Mz w ms vs m1 vs5):=⟨hne5,hat5,hdo,hlo,fun b q=>by have:=hlb b q;omega,HY.o.2.2.trans hwY ha5,hkk5.less hwY,hf5.less hwY⟩;have hmd:=(Av.inv HE.o.v hdo HF.o.1 HF.o.2.2.2.2 trivial _ rfl).1.done nm _ hat5;have HMD:Hd (0<=dc/\dc<=5/\dt.size<=2000):=⟨hmd.c0,hmd.c5,hmd.t2⟩;have hwW5:W.heap.size<w5.heap.size:=by omega
  obtain⟨⟨z0,z1,z2,z3,z4,z5⟩,zf⟩:=Nu a5;unfold Lk;dsimp only;clear hs5 hne5 hat5 hdo hlo hlb ha5 hkk5 hf5 hk5 keep a5 o5 hmY hmd HMT
  go_upto_region 6 with fail
  obtain⟨Z,eZ⟩:∃ Z,(((((((w5.setCell ⟨W.heap.size,0,none⟩ (.bool false)).setCell ⟨W.heap.size,1,none⟩ (.int .i64 dc)).setCell ⟨W.heap.size,2,none⟩ (.string dt)).setCell ⟨W.heap.size,3,none⟩ (.slice none 0 0)).setCell ⟨W.heap.size,4,none⟩ (.string ⟨#[]⟩)).setCell ⟨W.heap.size,5,none⟩ (.slice la ln lc)).setCell ⟨W.heap.size,0,none⟩ (.bool true))=Z:=⟨_,rfl⟩;rw[eZ];obtain⟨sz,kz,az,oz,lz⟩:=und_set7 HS5.o HK5.o HA5.o HO5.o HX5.o.2.2.2.1 (show W.heap.size≠h by omega) (show w.heap.size≠W.heap.size by omega) (by omega) (by omega) eZ;have HZ:Hd (Gx W0.heap.size h mb 1 (.slice sa ss.length c1) (.slice ta ts.length c2) (.func (.func 73) #[.pointer (some ⟨h,0,none⟩)] #[]) Z m1 st (Eo mf) av5 kv5 vs5/\KP W0.heap.size h mb (.slice aa (Eo ms).length ac) kv w Z/\Z.heap[w.heap.size]?=some (.cells #[.bool false,.int .i64 0,.string ⟨#[]⟩,.slice none 0 0,.string ⟨#[]⟩,.slice none 0 0] 59 (0,0))/\Ar Z W0.heap.size (.slice la ln lc) dls):=⟨sz,kz,oz,lz⟩;have HAZ:Hd (Z.heap[W.heap.size]?=some (.cells #[.bool true,.int .i64 dc,.string dt,.slice none 0 0,.string ⟨#[]⟩,.slice la ln lc] 59 (0,0))):=az;clear z0 z1 z2 z3 z4 z5 zf;obtain⟨⟨z0,z1,z2,z3,z4,z5⟩,zf⟩:=Nu az;obtain⟨fo,efo⟩:∃ fo,Bn dc dt=fo:=⟨_,rfl⟩;have EF:Hd (Bn dc dt=fo):=efo;have HFO:Hd (Calls Tryz.prog 12 #[.agg #[.int .i64 dc,.string dt,.slice none 0 0]] Z fun e w'=>e=.returned (.string fo)/\Below Z.heap.size Z w'):=by rw[<- efo];exact Qz dc dt Z HMD.o.1 HMD.o.2.1 HMD.o.2.2
  clear sz kz az oz lz efo eZ HS5 HK5 HA5 HO5;go_wp2_with fail;refine HFO.o.mono ?_;rintro e w7 ⟨rfl,hb7⟩;have hzs:=HZ.o.2.1.bl.size;obtain⟨s7,k7,a7,o7,l7⟩:=und_set (j:=4) (u:=.string fo) (HZ.o.1.bl hb7) (HZ.o.2.1.after hb7 (by omega)) (Ag hb7 HAZ.o) (Ag hb7 HZ.o.2.2.1) (HZ.o.2.2.2.bl hb7) (show W.heap.size≠h by omega) (show w.heap.size≠W.heap.size by omega) (by omega) (by omega) (cs':=#[.bool true,.int .i64 dc,.string dt,.slice none 0 0,.string fo,.slice la ln lc]) rfl;clear z0 z1 z2 z3 z4 z5 zf HFO;obtain⟨⟨z0,z1,z2,z3,z4,z5⟩,zf⟩:=Nu (Ag hb7 HAZ.o);obtain⟨Z7,eZ7⟩:∃ Z7,w7.setCell ⟨W.heap.size,4,none⟩ (.string fo)=Z7:=⟨_,rfl⟩;rw[eZ7] at s7 k7 a7 o7 l7;obtain⟨U,eU⟩:∃ U,Z7.drew=U:=⟨_,rfl⟩;have hbU:Below Z7.heap.size Z7 U:=by rw[<- eU];exact(Below.refl _ _).drew
  have hz7:=k7.bl.size;have sU:=s7.bl hbU;have kU:=k7.after hbU (by omega);have aU:=Ag hbU a7;have oU:=Ag hbU o7;have lU:=l7.bl hbU;dsimp only
  go_upto_region 7 with fail
  obtain⟨x0,x1,x2,x3,x4,x5,xf⟩:=sU.cells;obtain⟨⟨y0,y1,y2,y3,y4,y5⟩,yf⟩:=Nu aU;obtain⟨n,hn,hm⟩:=sU.map;obtain⟨p1,p2,p3,p4,p5,p6,p7,p8⟩:=HX5.o
  have hmf:mf.length<=40001:=by
   have hph:=Av.phi_le HE.o.v p3 HF.o.2.2.2.2 HF.o.1 trivial;have hin:=(Av.inv HE.o.v p3 HF.o.1 HF.o.2.2.2.2 trivial _ rfl).1;simp only at hph;exact Ol hin HE.o.l2 (by have:=HF.o.2.1;omega)
  have hnf:(Eo mf).length=mf.length:=by simp[Eo]
  obtain⟨w9,hrun,hm9,hg9⟩:=hm.store (k:=nm) (by unfold maxLen;omega) (by unfold maxLen;omega) (Ik ⟨dc,dt,dls⟩ (.slice la ln lc))
  classical
  have s9:Ml W0.heap.size h mb (.slice sa ss.length c1) (.slice ta ts.length c2) (.func (.func 73) #[.pointer (some ⟨h,0,none⟩)] #[]) w9 mf st av5 kv5 (fun x=>if x=nm then .slice la ln lc else vs5 x):=(sU.le (k':=0) (by omega)).mark (n:=n+1) (nm:=nm) (v:=Ik ⟨dc,dt,dls⟩ (.slice la ln lc)) (by omega) hm9 hg9 (fun x=>by
   by_cases hx:x=nm
   ·subst hx;unfold Fz;rw[p2];simp
   ·unfold Fz;rw[p1 x hx];simp only[if_neg hx]) (fun x d e=>by
   by_cases hx:x=nm
   ·subst hx;rw[p2] at e;simp only[Option.some.injEq] at e;subst e;simp only[if_true];exact lU
   ·simp only[if_neg hx];rw[p1 x hx] at e;exact sU.lks x d e)
  have k9:KP W0.heap.size h mb (.slice aa (Eo ms).length ac) kv w w9:=kU.mapped sU.mB hg9 (by have:=kU.bl.size;omega);have keep9:∀ b cs T,U.heap[b]?=some (Obj.cells cs T (0,0))->w9.heap[b]?=some (Obj.cells cs T (0,0)):=fun b cs T q=>by rw[hg9.block b (Af q) (fun e=>hm.notCells (by injection e with e;exact e▸q))];exact q
  have a9:=keep9 _ _ _ aU;have o9:=keep9 _ _ _ oU;unfold Ik at hrun;simp only[EF.o] at hrun;have HS9:Hd (Ml W0.heap.size h mb (.slice sa ss.length c1) (.slice ta ts.length c2) (.func (.func 73) #[.pointer (some ⟨h,0,none⟩)] #[]) w9 mf st av5 kv5 (fun x=>if x=nm then .slice la ln lc else vs5 x)):=s9;have HK9:Hd (KP W0.heap.size h mb (.slice aa (Eo ms).length ac) kv w w9):=k9;have HO9:Hd (w9.heap[w.heap.size]?=some (.cells #[.bool false,.int .i64 0,.string ⟨#[]⟩,.slice none 0 0,.string ⟨#[]⟩,.slice none 0 0] 59 (0,0))):=o9
  have HFR:Hd (Mz w ms vs mf (fun x=>if x=nm then .slice la ln lc else vs5 x)):=fun x d b e q=>by
   by_cases hx:x=nm
   ·subst hx;simp only[if_true] at q;exact Or.inr (p5 b q)
   ·simp only[if_neg hx] at q;rw[p1 x hx] at e;exact p8 x d b e q
  have HXX:Hd (Av ss ts ms st (.make nm) mf (.ok ⟨dc,dt,dls⟩)/\Cc w (.slice aa (Eo ms).length ac) av5/\Cc w kv kv5):=⟨p3,p6,p7⟩;clear s9 k9 keep9 hm9 hg9 hm hn sU kU aU oU lU s7 k7 a7 o7 l7 hb7 hbU p1 p2 p3 p4 p5 p6 p7 p8 eZ7 hmf hnf z0 z1 z2 z3 z4 z5 zf;go_region;clear eU x0 x1 x2 x3 x4 x5 xf y0 y1 y2 y3 y4 y5 yf hrun;obtain⟨⟨y0,y1,y2,y3,y4,y5⟩,yf⟩:=Nu a9;obtain⟨⟨z0,z1,z2,z3,z4,z5⟩,zf⟩:=Nu o9;clear a9 o9;have hOA:¬ w.heap.size=W.heap.size:=by omega
  go_wp2_with fail;obtain⟨⟨v0,v1,v2,v3,v4,v5⟩,_⟩:=Nu (Fq HO9.o (.bool true) (.int .i64 dc) (.string dt) (.slice none 0 0) (.string fo) (.slice la ln lc));refine bR (v:=Ik ⟨dc,dt,dls⟩ ((fun x=>if x=nm then (.slice la ln lc:Value) else vs5 x) nm)) (by simp[results,Tryz.results75,go_sem,Ik,EF.o,v0,v1,v2,v3,v4,v5]) rfl ⟨HK9.o.set6 hB (Nat.le_refl _) _ _ _ _ _ _,mf,_,HXX.o.1,Or.inl ⟨_,av5,kv5,_,rfl,rfl,HS9.o.set6 HO9.o (by omega) _ _ _ _ _ _,HXX.o.2.1,HXX.o.2.2,HFR.o⟩⟩
 ·unfold Ty;dsimp only;have HP5:Hd (KP W0.heap.size h mb (.slice aa (Eo ms).length ac) kv w w5/\Av ss ts ms st (.make nm) ms' an/\Ie W0.heap.size w5 an v):=⟨HY.o.2.1.trans HY.o.2.2 (Cc.refl _ _) hk5,hdo,hv⟩;clear hk5 hdo hv HMT;go_wp2_with fail;exact⟨rfl,HP5.o.1,ms',an,HP5.o.2.1,Or.inr ⟨v,rfl,HP5.o.2.2⟩⟩
theorem Qq {ss:List S2} {ts:List T2} {ms:Ms} {st:List ByteArray} {nm:ByteArray} (hi:Ja ss ts ms st) (hk:lk ms nm=some none):∃ i,i<st.length/\nx st i=nm/\∀ j,j<i->nx st j≠nm:=by
 have hm:=(hi.being nm).mp hk
 obtain⟨i,hi',e⟩:=List.getElem_of_mem hm
 have Fy:∀ j,(hj:j<st.length)->nx st j=st[j]:=fun j hj=>by unfold nx;rw[gG,gQ hj];rfl
 refine⟨i,hi',(Fy i hi').trans e,fun j hj e'=>?_⟩
 have hp:=List.pairwise_iff_getElem.mp hi.nds
 have h1:j<st.length:=by omega
 exact hp j i h1 hi' hj ((Fy j h1).symm.trans (e'.trans e.symm))
theorem under_all (W0:World) (h mb:Nat) (sa ta:Option Addr) (c1 c2:Nat) (ss:List S2) (ts:List T2) (hE:Jt W0 sa ta ss ts) (hT:Jr W0) (hP:Ld W0):∀(n:Nat) (st:List ByteArray),60-st.length=n->st.length<=60->Pl W0 h mb (.slice sa ss.length c1) (.slice ta ts.length c2) (.func (.func 73) #[.pointer (some ⟨h,0,none⟩)] #[]) ss ts st:=by
 intro n
 induction n with
 | zero=>
  intro st hn h60 w ms nm av kv vs hs hi hnm hp hb;have hn60:nm.size<=60:=hnm.2.1
  cases hk:lk ms nm with
  | none=>exact Uo W0 h mb sa ta c1 c2 ss ts nm ms st av kv vs w hE hs hi hp hb hk h60 hnm (fun i a cap q1 q2 q3 q4=>by omega)
  | some o=>
   cases o with
   | none=>
    obtain⟨i,q1,q2,q3⟩:=Qq hi hk;exact Oa _ h mb _ _ _ ss ts ms st av kv vs nm i w hs hb.size hn60 h60 hk q1 q2 q3
   | some d=>exact Qo _ h mb _ _ _ ss ts ms st av kv vs nm d w hs hb.size hn60 hk
 | succ n ih=>
  intro st hn h60 w ms nm av kv vs hs hi hnm hp hb;have hn60:nm.size<=60:=hnm.2.1
  cases hk:lk ms nm with
  | none=>
   refine Uo W0 h mb sa ta c1 c2 ss ts nm ms st av kv vs w hE hs hi hp hb hk h60 hnm (fun i a cap q1 q2 q3 q4=>?_);intro w' ms' av' kv' vs' hs' hi' hp' hb';exact Wa W0 h mb sa ta a c1 c2 cap _ ss ts (tx ts i).code nm ms' (st++[nm]) av' kv' vs' w' hE (ih (st++[nm]) (by simp;omega) (by simp;omega)) hs' hi' hp' hb' q3 (hE.v.pr i q1) hT hP
  | some o=>
   cases o with
   | none=>
    obtain⟨i,q1,q2,q3⟩:=Qq hi hk;exact Oa _ h mb _ _ _ ss ts ms st av kv vs nm i w hs hb.size hn60 h60 hk q1 q2 q3
   | some d=>exact Qo _ h mb _ _ _ ss ts ms st av kv vs nm d w hs hb.size hn60 hk
end
end Go.Proofs.YtjlnkepkkdefdaaGreatDoor
