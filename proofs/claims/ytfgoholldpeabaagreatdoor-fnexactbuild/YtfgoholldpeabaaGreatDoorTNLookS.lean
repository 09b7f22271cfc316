import Derived.Test.YtfgoholldpeabaaGreatDoorTNRun
import Derived.Test.YtfgoholldpeabaaGreatDoorTSrch
namespace Go.Proofs.YtfgoholldpeabaaGreatDoor
open _root_.Go.Proofs.Tryz Go.RowKit
set_option linter.unusedVariables false
set_option maxHeartbeats 8000000
set_option maxRecDepth 100000
set_option linter.unusedSimpArgs false
variable {B m b T e n i j h sz:Nat} {w w' a w3 w1:World} {is:List I3} {s s':St} {ss:List S2} {cd v v1 v2 av kv:Value} {st:Int} {cs:Array Value} {ys:List R3} {ov ask:Bool} {t nm k:By} {y:R3} {r:Res} {ts:List T2} {ls:List G3} {f:By->Option Value} {xs:List Value}
theorem KB.setB (h:KB B m w w') (j:Nat) (hb:w.heap.size<=b) (hB:B<=b) (v:Value):KB B m w (w'.setCell ⟨b,j,none⟩ v):=⟨h.bl.setCell (p:=⟨b,j,none⟩) hB _,fun b' cs T h1 h2 h3=>by rw[hC w' ⟨b,j,none⟩ _ b' (by have:=Af h3;simp;omega)];exact h.keep b' cs T h1 h2 h3,fun hm b' cs T h1 h2 h3=>⟨by rw[hC w' ⟨b,j,none⟩ _ b' (by have:=Af h3;simp;omega)];exact(h.own hm b' cs T h1 h2 h3).1,fun u hu=>(h.own hm b' cs T h1 h2 h3).2 u (by rw[World.cell?_setCell_far _ _ _ _ qh] at hu;exact hu)⟩⟩
def Uq (is:List I3) (s:St) (B m:Nat) (cd:Value) (e:Ending) (w':World):Prop:=
 (∃ c t n,Nq is s (.over c t n)/\e=.returned (Az true c t false ⟨#[]⟩ n))\/(∃ ask nm s',Nq is s (.look ask nm s')/\e=.returned (Az false 0 ⟨#[]⟩ ask nm s'.steps)/\Eb is s'/\Cd B w' m s'.stack cd s'.pl s'.steps s'.looks)
def AnsPost (is:List I3) (ask:Bool) (nm:By) (y:R3) (s:St) (B m:Nat) (cd:Value) (w:World) (e:Ending) (w':World):Prop:=
 KB B m w w'/\((∃ c t n,Em ask nm y s=.over c t n/\e=.returned (Az true c t false ⟨#[]⟩ n))\/(∃ s'',Em ask nm y s=.go s''/\Uq is s'' B m cd e w'))
theorem Kk (hs:Eb is s) (hl:is.length<=200) (hp:s.pl<is.length) (t6:s.stack.length<50) {x:By} (hx:x.size<=2000):Eb is ⟨s.pl+1,s.stack++[x],s.steps,s.looks⟩:=by
 refine⟨?_,?_,?_,hs.steps,hs.looks⟩
 ·show s.pl+1<=200;omega
 ·show (s.stack++[x]).length<=50;rw[List.length_append,List.length_singleton];omega
 ·intro z hz
  rcases List.mem_append.mp hz with hz|hz
  ·exact hs.size z hz
  ·obtain rfl:z=x:=by simpa using hz
   exact hx
theorem answer_any (B m:Nat) (is:List I3) (a:Option Addr) (cap:Nat) (ask:Bool) (nm:By) (y:R3) (s:St) (w:World) (hM:Cd B w m s.stack (.slice a is.length cap) s.pl s.steps s.looks) (hB:B<=w.heap.size) (bg:2<B) (du:Lv B w a is) (hT:Lr w) (hP:Mb w) (hv:Au is=true) (hs:Eb is s) (dy:s.pl<is.length) (t6:s.stack.length<50) (hy:y.text.size<=2000) :
  Calls prog 162 #[.pointer (p_ m),Az false 0 ⟨#[]⟩ ask nm s.steps,.agg #[.bool y.has,I y.code,.string y.text]] w fun e w'=>AnsPost is ask nm y s B m (.slice a is.length cap) w e w':=by
 have dh:=Dh hv
 have uy:=hs.pl
 have HV:=hid hv
 have HC:=hid du
 have HT:=hid hT
 have HP:=hid hP
 have HS:=hid hs
 obtain⟨_,_,_,_,_,_,_,_,ue,jr,_⟩:=hM.all
 have ak:Bw w (((w.alloc (.cells #[.bool false,I 0,ze,.bool ask,.string nm,I s.steps] 165)).alloc (.cells #[.bool y.has,I y.code,.string y.text] 169)).alloc (.cells #[.bool false,I 0,ze,.bool false,ze,I 0] 165)):=((aN _ _).alloc qg _).alloc qh _
 obtain⟨W,eW⟩:=Ai ((((w.alloc (.cells #[.bool false,I 0,ze,.bool ask,.string nm,I s.steps] 165)).alloc (.cells #[.bool y.has,I y.code,.string y.text] 169)).alloc (.cells #[.bool false,I 0,ze,.bool false,ze,I 0] 165)))
 rw[eW] at ak
 have yu:=hid (hM.bl ak)
 have d6:Hd (KB B m w W):=KB.old ak hB
 have iq:Hd (W.heap[w.heap.size+1+1]?=some (.cells #[.bool false,I 0,ze,.bool false,ze,I 0] 165 (0,0))):=by
  rw[<- eW];have h:=Be ((w.alloc (.cells #[.bool false,I 0,ze,.bool ask,.string nm,I s.steps] 165)).alloc (.cells #[.bool y.has,I y.code,.string y.text] 169)) (.cells #[.bool false,I 0,ze,.bool false,ze,I 0] 165);rw[show ((w.alloc (.cells #[.bool false,I 0,ze,.bool ask,.string nm,I s.steps] 165)).alloc (.cells #[.bool y.has,I y.code,.string y.text] 169)).heap.size=w.heap.size+1+1 from qg] at h;exact h
 have hB1':=Nat.le_trans hB ak.size
 have te:w.heap.size<=w.heap.size+1+1:=qb
 have tg:B<=w.heap.size+1+1:=qb
 have r0:W.cell? ⟨w.heap.size,3,none⟩=some (.bool ask):=qal
 have r1:W.cell? ⟨w.heap.size,4,none⟩=some (.string nm):=qal
 have r2:W.cell? ⟨w.heap.size+1,0,none⟩=some (.bool y.has):=qal
 have r3:W.cell? ⟨w.heap.size+1,1,none⟩=some (I y.code):=qal
 have r4:W.cell? ⟨w.heap.size+1,2,none⟩=some (.string y.text):=qal
 have hfl:(Co y.has).size<=2000:=qcs
 clear hv du hT hP hs hM ak
 unfold Az
 cases ask
 ·go_enter func162,ntmps162
  go_wp2_with (go_at_call 164;refine(Qj _ _).mono ?_;rintro e w9 ⟨rfl,rfl⟩)
  clear eW;refine(Fw B m s.stack _ s.pl s.steps s.looks (Co y.has) _ yu.o hB1' hfl t6).mono ?_;rintro e w1 ⟨rfl,af,fb⟩;have HMp:Hd (Cd B (w1.setCell ⟨m,2,none⟩ (I ((s.pl:Int)+1))) m (s.stack++[Co y.has]) (.slice a is.length cap) ((s.pl:Int)+1) s.steps s.looks):=fb.place _;obtain⟨c2,f2,_,_⟩:=fb.cell2;have HKp:Hd (KB B m w (w1.setCell ⟨m,2,none⟩ (I ((s.pl:Int)+1)))):=(d6.o.trans af).setM 2 jr _
  have HRp:Hd ((w1.setCell ⟨m,2,none⟩ (I ((s.pl:Int)+1))).heap[w.heap.size+1+1]?=some (.cells #[.bool false,I 0,ze,.bool false,ze,I 0] 165 (0,0))):=by
   exact qlg
  clear fb af yu d6 iq r0 r1 r2 r3 r4;go_wp2_with fail;refine(Yk B m is a cap ⟨s.pl+1,s.stack++[Co y.has],s.steps,s.looks⟩ _ HMp.o (Nat.le_trans hB HKp.o.size) bg (HC.o.belowB HKp.o.bl) (HT.o.belowB HKp.o.bl qb) (HP.o.belowB HKp.o.bl bg) HV.o (Kk HS.o dh.2 dy t6 hfl)).mono ?_;rintro e w2 ⟨gw,gj⟩;have fs:=hid (HKp.o.trans gw);have ol:Hd (w2.heap[w.heap.size+1+1]?=some (.cells #[.bool false,I 0,ze,.bool false,ze,I 0] 165 (0,0))):=gw.keep _ _ 165 qd qb HRp.o;have HG:Hd (Em false nm y s=.go ⟨s.pl+1,s.stack++[Co y.has],s.steps,s.looks⟩):=show Em false nm y s=.go ⟨s.pl+1,s.stack++[Co y.has],s.steps,s.looks⟩ from by simp[Em]
  clear c2 f2 gw
  rcases gj with ⟨c,t,n,hru,rfl⟩|⟨jh,nm',s',hru,rfl,Q8,jv⟩
  ·have ky:Hd (Nq is ⟨s.pl+1,s.stack++[Co y.has],s.steps,s.looks⟩ (.over c t n)):=hru;exact qhq
  ·have ky:Hd (Nq is ⟨s.pl+1,s.stack++[Co y.has],s.steps,s.looks⟩ (.look jh nm' s')):=hru;exact qhf
 ·by_cases hh:y.has=true
  ·have HY1:Hd (y.has=true):=hh;rw[hh] at r2 eW;rw[hh]
   by_cases hc:y.code=0
   ·have HY2:Hd (y.code=0):=hc;rw[hc] at r3 eW;rw[hc];go_enter func162,ntmps162;go_wp2_with fail;clear eW;refine(Fw B m s.stack _ s.pl s.steps s.looks (y.text) _ yu.o hB1' hy t6).mono ?_;rintro e w1 ⟨rfl,af,fb⟩;have HMp:Hd (Cd B (w1.setCell ⟨m,2,none⟩ (I ((s.pl:Int)+1))) m (s.stack++[y.text]) (.slice a is.length cap) ((s.pl:Int)+1) s.steps s.looks):=fb.place _;obtain⟨c2,f2,_,_⟩:=fb.cell2;have HKp:Hd (KB B m w (w1.setCell ⟨m,2,none⟩ (I ((s.pl:Int)+1)))):=(d6.o.trans af).setM 2 jr _
    have HRp:Hd ((w1.setCell ⟨m,2,none⟩ (I ((s.pl:Int)+1))).heap[w.heap.size+1+1]?=some (.cells #[.bool false,I 0,ze,.bool false,ze,I 0] 165 (0,0))):=by
     exact qlg
    clear fb af yu d6 iq r0 r1 r2 r3 r4;go_wp2_with fail;refine(Yk B m is a cap ⟨s.pl+1,s.stack++[y.text],s.steps,s.looks⟩ _ HMp.o (Nat.le_trans hB HKp.o.size) bg (HC.o.belowB HKp.o.bl) (HT.o.belowB HKp.o.bl qb) (HP.o.belowB HKp.o.bl bg) HV.o (Kk HS.o dh.2 dy t6 hy)).mono ?_;rintro e w2 ⟨gw,gj⟩;have fs:=hid (HKp.o.trans gw);have ol:Hd (w2.heap[w.heap.size+1+1]?=some (.cells #[.bool false,I 0,ze,.bool false,ze,I 0] 165 (0,0))):=gw.keep _ _ 165 qd qb HRp.o;(have HG:Hd (Em true nm y s=.go ⟨s.pl+1,s.stack++[y.text],s.steps,s.looks⟩):=show Em true nm y s=.go ⟨s.pl+1,s.stack++[y.text],s.steps,s.looks⟩ from by simp[Em,HY1.o,HY2.o]);clear c2 f2 gw
    rcases gj with ⟨c,t,n,hru,rfl⟩|⟨jh,nm',s',hru,rfl,Q8,jv⟩
    ·have ky:Hd (Nq is ⟨s.pl+1,s.stack++[y.text],s.steps,s.looks⟩ (.over c t n)):=hru;exact qhq
    ·have ky:Hd (Nq is ⟨s.pl+1,s.stack++[y.text],s.steps,s.looks⟩ (.look jh nm' s')):=hru;exact qhf
   ·(have hcb:(y.code == 0)=false:=by simpa using hc);(have HA:Hd (Em true nm y s=.over 5 nm s.steps):=show Em true nm y s=.over 5 nm s.steps from by simp[Em,HY1.o,hc]);obtain⟨z0,zp,_,_,_,_,_,_,_,_,gm⟩:=yu.o.all;have HG:=hid gm;clear gm;go_enter func162,ntmps162;go_wp2_with fail;clear eW;refine(Jl m _ _ s.pl s.steps s.looks 5 nm _ HG.o).mono ?_;rintro e w2 ⟨rfl,ag⟩;have fs:=hid (d6.o.trans (KB.old ag hB1'));have au:w2.heap[w.heap.size+1+1]?=some (.cells #[.bool false,I 0,ze,.bool false,ze,I 0] 165 (0,0)):=(by rw[ag.block _ (Af iq.o)];exact iq.o);obtain⟨k0,k1,k2,k3,k4,k5⟩:=Zo au;have f0:=fZ au;clear au r0 r1 r2 r3 r4;unfold Az;go_wp2;exact bR (v:=Az true 5 nm false ⟨#[]⟩ s.steps) qdt rfl ⟨((((((fs.o).setB 0 te tg _).setB 1 te tg _).setB 2 te tg _).setB 3 te tg _).setB 4 te tg _).setB 5 te tg _,Or.inl ⟨5,nm,s.steps,HA.o,rfl⟩⟩
  ·have hh':y.has=false:=by simpa using hh
   rw[hh'] at r2 eW;rw[hh'];have HA:Hd (Em true nm y s=.over 4 nm s.steps):=show Em true nm y s=.over 4 nm s.steps from by simp[Em,hh']
   obtain⟨z0,zp,_,_,_,_,_,_,_,_,gm⟩:=yu.o.all;have HG:=hid gm;clear gm;go_enter func162,ntmps162;go_wp2_with fail;clear eW;refine(Jl m _ _ s.pl s.steps s.looks 4 nm _ HG.o).mono ?_;rintro e w2 ⟨rfl,ag⟩;have fs:=hid (d6.o.trans (KB.old ag hB1'));have au:w2.heap[w.heap.size+1+1]?=some (.cells #[.bool false,I 0,ze,.bool false,ze,I 0] 165 (0,0)):=(by rw[ag.block _ (Af iq.o)];exact iq.o);obtain⟨k0,k1,k2,k3,k4,k5⟩:=Zo au;have f0:=fZ au;clear au r0 r1 r2 r3 r4;unfold Az;go_wp2;exact bR (v:=Az true 4 nm false ⟨#[]⟩ s.steps) qdt rfl ⟨((((((fs.o).setB 0 te tg _).setB 1 te tg _).setB 2 te tg _).setB 3 te tg _).setB 4 te tg _).setB 5 te tg _,Or.inl ⟨4,nm,s.steps,HA.o,rfl⟩⟩
theorem Xf (ys:List R3) {o:Out} (h:Nq is s o):∀ {c t n},o=.over c t n->Ce is ys s (.over c t n):=by
 induction h with
 | over h1=>intro c t n e;cases e;exact .over h1
 | look h1=>intro c t n e;cases e
 | go h1 _ ih=>intro c t n e;exact .go h1 (ih e)
theorem Oz (hv:Au is=true) (hs:Eb is s) (h:Ca is s=.go s'):Eb is s'/\s'.looks=s.looks:=by
 have hl:=Dh hv
 by_cases hp:s.pl<is.length
 ·by_cases h2:s.steps=2000
  ·rw[Jf hp h2] at h;cases h
  ·obtain⟨o,t,n,e,h3,h4,h5,h6,h7⟩:=Ks hv hp;rw[Hg hp h2 e] at h
   by_cases hf:s.stack.length<Av o
   ·rw[Nf hf] at h;cases h
   ·rcases (show o<=11\/(o=12\/o=13)\/o=14\/o=15 from qb) with ho|ho|ho|ho
    ·by_cases hb:Ta o t n s.stack
     ·rw[Hh hf ho hb] at h;cases h
     ·rw[Qm hf ho hb] at h;cases h;exact⟨go_ok hs hl.2 hp h2 h7 hb,rfl⟩
    ·exact qjg
    ·rw[Ku hf ho] at h;cases h
    ·rw[Ng hf ho] at h;cases h
 ·rw[Km hp] at h;cases h
def Ma:St:=⟨0,[],0,0⟩
theorem Tp (is:List I3):Eb is Ma:=⟨qbh,qbh,qbh,qbh,qbh⟩
def resT:Res->Value
 | .over c t n=>Az true c t false ⟨#[]⟩ n
 | .wait ask nm n=>Az false 0 ⟨#[]⟩ ask nm n
theorem Cd.alloc {ss:List By} {pl lk:Int} (h:Cd B w m ss cd pl st lk) (o:Obj):Cd B (w.alloc o) m ss cd pl st lk:=h.bl (aN _ _)
theorem storeT (hc:cs.size=6) (h:w.heap[T]?=some (.cells cs 165 (0,0))) (b0 b1 b2 b3 b4 b5:Value) :
  ((((((w.setCell ⟨T,0,none⟩ b0).setCell ⟨T,1,none⟩ b1).setCell ⟨T,2,none⟩ b2).setCell ⟨T,3,none⟩ b3).setCell ⟨T,4,none⟩ b4).setCell ⟨T,5,none⟩ b5).heap[T]?=some (.cells #[b0,b1,b2,b3,b4,b5] 165 (0,0))∧
  ∀ B m ss cd pl st lk,Cd B w m ss cd pl st lk->Cd B ((((((w.setCell ⟨T,0,none⟩ b0).setCell ⟨T,1,none⟩ b1).setCell ⟨T,2,none⟩ b2).setCell ⟨T,3,none⟩ b3).setCell ⟨T,4,none⟩ b4).setCell ⟨T,5,none⟩ b5) m ss cd pl st lk:=by
 refine⟨?_,fun B m ss cd pl st lk hM=>(Cd.turn (Cd.turn (Cd.turn (Cd.turn (Cd.turn (Cd.turn ⟨hM,_,h⟩ 0 _) 1 _) 2 _) 3 _) 4 _) 5 _).1⟩
 obtain⟨l⟩:=cs
 match l,hc with
 | [x0,x1,x2,x3,x4,x5],_=>
  rw[jB (jB (jB (jB (jB (jB h b0) b1) b2) b3) b4) b5];rfl
theorem bN {b:World} (h:Bw w a) (k:Bw a b):Bw w b:=h.trans (k.mono h.size)
theorem Ud (hv:Au is=true) {o:Out} (h:Nq is s o):Eb is s->∀ {ask nm s'},o=.look ask nm s'->∃ s1,Ca is s1=.look ask nm s'/\s1.looks=s.looks/\Eb is s1/\∀ ys r,Ce is ys s1 r->Ce is ys s r:=by
 induction h with
 | over h1=>intro _ c t n e;cases e
 | look h1=>intro hs c t n e;cases e;exact⟨_,h1,rfl,hs,fun ys r hr=>hr⟩
 | go h1 _ ih=>intro hs c t n e;obtain⟨k1,k2⟩:=Oz hv hs h1;obtain⟨s1,h2,h4,h5,h3⟩:=ih k1 e;exact⟨s1,h2,h4.trans k2,h5,fun ys r hr=>.go h1 (h3 ys r hr)⟩
def RQ (is:List I3) (ys:List R3) (s:St):Prop:=s.looks=ys.length/\∀ zs r,Ce is (ys++zs) s r->Ce is (ys++zs) Ma r
def VAt (is:List I3) (ys:List R3) (B m:Nat) (cd:Value) (ov:Bool) (c:Int) (t:By) (ask:Bool) (nm:By) (st:Int) (w:World):Prop:=
 (ov=true/\ask=false/\nm=⟨#[]⟩/\∃ n:Nat,st=n/\Ce is ys Ma (.over c t n))∨
 (ov=false/\c=0/\t=⟨#[]⟩/\∃ s1 s',st=(s'.steps:Int)/\Ca is s1=.look ask nm s'/\RQ is ys s1/\Eb is s1/\Eb is s'/\Cd B w m s'.stack cd s'.pl s'.steps s'.looks)
theorem VAt.full {c:Int} (h:VAt is ys B m cd ov c t ask nm st w):(ov=true/\∃ n,Ce is ys Ma (.over c t n))\/(ov=false/\∃ n,Ce is ys Ma (.wait ask nm n)):=by
 rcases h with ⟨rfl,_,_,n,_,hf⟩|⟨rfl,_,_,s1,s',_,h1,h2,_⟩
 ·exact Or.inl ⟨rfl,n,hf⟩
 ·refine Or.inr ⟨rfl,s'.steps,?_⟩;have:=h2.2 [] (.wait ask nm s'.steps);rw[List.append_nil] at this;exact this (.wait h1 (by rw[h2.1];exact Nat.le_refl _))
theorem VAt.mono {c:Int} (h:VAt is ys B m cd ov c t ask nm st w) (hM:∀ ss pl pj lk,Cd B w m ss cd pl pj lk->Cd B w' m ss cd pl pj lk):VAt is ys B m cd ov c t ask nm st w':=by
 rcases h with h|⟨e1,e2,e3,s1,s',e4,h1,h2,h3,h4,h5⟩
 ·exact Or.inl h
 ·exact Or.inr ⟨e1,e2,e3,s1,s',e4,h1,h2,h3,h4,hM _ _ _ _ h5⟩
theorem run_vat {e:Ending} (hv:Au is=true) (h:Uq is Ma B m cd e w3):∃ ov c t ask nm st,e=.returned (Az ov c t ask nm st)/\VAt is [] B m cd ov c t ask nm st w3:=by
 rcases h with ⟨c,t,n,hr,rfl⟩|⟨ask,nm,s',hr,rfl,hs,hM⟩
 ·exact⟨true,c,t,false,⟨#[]⟩,n,rfl,Or.inl ⟨rfl,rfl,rfl,n,rfl,Xf [] hr rfl⟩⟩
 ·obtain⟨s1,h1,h2,h3,h4⟩:=Ud hv hr (Tp is) rfl;exact⟨false,0,⟨#[]⟩,ask,nm,s'.steps,rfl,Or.inr ⟨rfl,rfl,rfl,s1,s',rfl,h1,⟨h2,fun zs r hr=>h4 _ r hr⟩,h3,hs,hM⟩⟩
theorem rx_mid (ys zs:List R3) (y:R3):rx (ys++[y]++zs) ys.length=y:=by
 unfold rx
 rw[gG,List.append_assoc,List.getElem?_append_right (Nat.le_refl _)]
 simp
theorem ans_vat {y':R3} {s1:St} {e:Ending} (hv:Au is=true) (h1:Ca is s1=.look ask nm s') (hq:RQ is ys s1) (hy:y.text.size<=2000) (hyy:Em ask nm y s'=Em ask nm y' s') (eg:Eb is s1) (H7:Eb is s')
  (h:(∃ c t n,Em ask nm y s'=.over c t n/\e=.returned (Az true c t false ⟨#[]⟩ n))\/(∃ s'',Em ask nm y s'=.go s''/\Uq is s'' B m cd e w3)) :
  ∃ ov c t ask nm st,e=.returned (Az ov c t ask nm st)/\VAt is (ys++[y']) B m cd ov c t ask nm st w3:=by
 obtain⟨q1,q2,q3,q4,q5,q6,q7,q8⟩:=Hf h1
 have hl:=(Dh hv).2
 have pc:∀ zs:List R3,s1.looks<(ys++[y']++zs).length:=fun zs=>by rw[hq.1];simp
 have hrx:∀ zs:List R3,rx (ys++[y']++zs) s1.looks=y':=fun zs=>by rw[hq.1];exact rx_mid ys zs y'
 have hF:∀ zs r,Ce is (ys++[y']++zs) s1 r->Ce is (ys++[y']++zs) Ma r:=fun zs r hr=>by
  have:=hq.2 ([y']++zs) r;rw[<- List.append_assoc] at this;exact this hr
 have nil:∀ r,Ce is (ys++[y']++[]) Ma r->Ce is (ys++[y']) Ma r:=fun r hr=>by rw[List.append_nil] at hr;exact hr
 rcases h with ⟨c,t,n,ha,rfl⟩|⟨s'',ha,gj⟩
 ·refine⟨true,c,t,false,⟨#[]⟩,n,rfl,Or.inl ⟨rfl,rfl,rfl,n,rfl,nil _ (hF [] _ (.end h1 (pc []) ?_))⟩⟩;rw[hrx,<- hyy];exact ha
 ·have t6:s'.stack.length<50:=by rw[q7,Bf];have:=eg.len;omega
  have Q8:Eb is s''/\s''.looks=s'.looks:=by
   unfold Em at ha
   split at ha
   ·cases ha;exact⟨Kk H7 hl qb t6 qcs,rfl⟩
   ·split at ha
    ·cases ha
    ·split at ha
     ·cases ha
     ·cases ha;exact⟨Kk H7 hl qb t6 hy,rfl⟩
  have hA:∀ zs,Em ask nm (rx (ys++[y']++zs) s1.looks) s'=.go s'':=fun zs=>by rw[hrx,<- hyy];exact ha
  rcases gj with ⟨c,t,n,hr,rfl⟩|⟨jh,nm',s3,hr,rfl,oa,hM⟩
  ·exact⟨true,c,t,false,⟨#[]⟩,n,rfl,Or.inl ⟨rfl,rfl,rfl,n,rfl,nil _ (hF [] _ (.ans h1 (pc []) (hA []) (Xf _ hr rfl)))⟩⟩
  ·obtain⟨s2,g1,g2,g3,g4⟩:=Ud hv hr Q8.1 rfl;exact⟨false,0,⟨#[]⟩,jh,nm',s3.steps,rfl,Or.inr ⟨rfl,rfl,rfl,s2,s3,rfl,g1,⟨by rw[g2,Q8.2,q1,hq.1];simp,fun zs r hr=>hF zs r (.ans h1 (pc zs) (hA zs) (g4 _ r hr))⟩,g3,oa,hM⟩⟩
theorem Qaf (hs:Eb is s) (h:1<=s.stack.length):(Bp s.stack).size<=2000:=by
 unfold Bp
 rw[gG,Iu qb]
 exact hs.size _ (List.getElem_mem _)
theorem decB_size (h:n<=200):(Er n).size<=2000:=by
 have:=Ok 2 n qb
 show (Lib.decDigits n).length<=2000
 omega
theorem step0_over {c:Int} (hv:Au is=true) (hs:Eb is s) (h:Ca is s=.over c t n):t.size<=2000/\0<=c/\c<=5:=by
 have hd:=decB_size hs.pl
 by_cases hp:s.pl<is.length
 ·by_cases h2:s.steps=2000
  ·rw[Jf hp h2] at h;cases h;exact⟨qd,qd,qd⟩
  ·obtain⟨o,t',n',e,h3,h4,h5,h6,h7⟩:=Ks hv hp;rw[Hg hp h2 e] at h
   by_cases hf:s.stack.length<Av o
   ·rw[Nf hf] at h;cases h;exact⟨hd,qd,qd⟩
   ·rcases (show o<=11\/(o=12\/o=13)\/o=14\/o=15 from qb) with ho|ho|ho|ho
    ·by_cases hb:Ta o t' n' s.stack
     ·rw[Hh hf ho hb] at h;cases h;exact⟨hd,qd,qd⟩
     ·rw[Qm hf ho hb] at h;cases h
    ·by_cases hn:Am (Bp s.stack)
     ·by_cases hk:s.looks=200
      ·rw[Hi hf ho hn hk] at h;cases h;exact⟨qd,qd,qd⟩
      ·rw[Jm hf ho hn hk] at h;cases h
     ·rw[Ld hf ho hn] at h;cases h;exact⟨hd,qd,qd⟩
    ·(have h1:1<=s.stack.length:=by rw[ho] at hf;have:Av 14=1:=rfl;omega);rw[Ku hf ho] at h;cases h;exact⟨Qaf hs h1,qd,qd⟩
    ·(have h1:1<=s.stack.length:=by rw[ho] at hf;have:Av 15=1:=rfl;omega);rw[Ng hf ho] at h;cases h;exact⟨Qaf hs h1,qd,qd⟩
 ·rw[Km hp] at h;cases h;exact⟨hd,qd,qd⟩
theorem Ix (hv:Au is=true) (hs:Eb is s) (h:Ca is s=.look ask nm s'):Eb is s'/\Am nm:=by
 by_cases hp:s.pl<is.length
 ·by_cases h2:s.steps=2000
  ·rw[Jf hp h2] at h;cases h
  ·obtain⟨o,t',n',e,h3,h4,h5,h6,h7⟩:=Ks hv hp;rw[Hg hp h2 e] at h
   by_cases hf:s.stack.length<Av o
   ·rw[Nf hf] at h;cases h
   ·rcases (show o<=11\/(o=12\/o=13)\/o=14\/o=15 from qb) with ho|ho|ho|ho
    ·by_cases hb:Ta o t' n' s.stack
     ·rw[Hh hf ho hb] at h;cases h
     ·rw[Qm hf ho hb] at h;cases h
    ·by_cases hn:Am (Bp s.stack)
     ·by_cases hk:s.looks=200
      ·rw[Hi hf ho hn hk] at h;cases h
      ·rw[Jm hf ho hn hk] at h;cases h;exact⟨Td hs h2 hk,hn⟩
     ·rw[Ld hf ho hn] at h;cases h
    ·rw[Ku hf ho] at h;cases h
    ·rw[Ng hf ho] at h;cases h
 ·rw[Km hp] at h;cases h
theorem Ce.size (hv:Au is=true) (sq:∀ i,i<ys.length->(rx ys i).text.size<=2000) (h:Ce is ys s r):Eb is s->∀ {c t n},r=.over c t n->t.size<=2000/\0<=c/\c<=5:=by
 have hl:=(Dh hv).2
 induction h with
 | over h1=>intro hs c t n e;cases e;exact step0_over hv hs h1
 | go h1 _ ih=>intro hs c t n e;exact ih (Oz hv hs h1).1 e
 | wait h1 _=>intro hs c t n e;cases e
 | ans h1 k1 a1 _ ih=>
  intro hs c t n e;obtain⟨q1,q2,q3,q4,q5,q6,q7,q8⟩:=Hf h1;have H7:=(Ix hv hs h1).1
  rename_i s s' s'' _ _
  have t6:s'.stack.length<50:=by rw[q7,Bf];have:=hs.len;omega
  refine ih ?_ e;unfold Em at a1
  split at a1
  ·cases a1;exact Kk H7 hl qb t6 qcs
  ·split at a1
   ·cases a1
   ·split at a1
    ·cases a1
    ·cases a1;exact Kk H7 hl qb t6 (sq _ k1)
 | «end» h1 k1 a1=>
  intro hs c t n e;cases e;have cr:=(Ix hv hs h1).2;have jn:=cr.2.1;unfold Em at a1
  split at a1
  ·cases a1
  ·split at a1
   ·cases a1;exact⟨qb,qd,qd⟩
   ·split at a1
    ·cases a1;exact⟨qb,qd,qd⟩
    ·cases a1
structure Md where
 c:Int
 t:By
 ls:List G3
abbrev Ms:=List (ByteArray × Option Md)
open Classical in
noncomputable def lk (ms:Ms) (nm:By):Option (Option Md):=(ms.find? fun e=>decide (e.1=nm)).map (·.2)
def Bk (c:Int) (t:By):By:=⟨#[UInt8.ofNat (48+c.toNat)]⟩++(⟨#[58]⟩:By)++t
def Xj (ss:List S2) (ts:List T2) (nm:By):Prop:=Ec (Aq ss) nm\/Ec (Ao ts) nm
open Classical in
noncomputable def Cb (ss:List S2) (ts:List T2) (nm:By):Bool:=decide (Xj ss ts nm)
noncomputable def Vq (ss:List S2) (ts:List T2) (nm:By) (d:Md):R3:=if Cb ss ts nm then ⟨true,d.c,d.t⟩ else ⟨false,0,⟨#[]⟩⟩
theorem asc_inj {l:List By} (h:Gf l) (hi:i<l.length) (hj:j<l.length) (e:nx l i=nx l j):i=j:=by
 rcases Nat.lt_trichotomy i j with h1|h1|h1
 ·have:=h.pair h1 hj;rw[e,Ej] at this;cases this
 ·exact h1
 ·have:=h.pair h1 hi;rw[e,Ej] at this;cases this
theorem src_inj (h:Gf (Aq ss)) (hi:i<ss.length) (hj:j<ss.length) (e:(sx ss i).name=(sx ss j).name):i=j:=asc_inj h (by rw[Bs];exact hi) (by rw[Bs];exact hj) (by rw[Du,Du];exact e)
theorem Tb (h:Gf (Ao ts)) (hi:i<ts.length) (hj:j<ts.length) (e:(tx ts i).name=(tx ts j).name):i=j:=asc_inj h (by rw[Bn];exact hi) (by rw[Bn];exact hj) (by rw[Dl,Dl];exact e)
theorem Gs (hi:i<ss.length):Ec (Aq ss) (sx ss i).name:=⟨i,by rw[Bs];exact hi,Du ss i⟩
theorem Hz (hi:i<ts.length):Ec (Ao ts) (tx ts i).name:=⟨i,by rw[Bn];exact hi,Dl ts i⟩
structure MdOk (ss:List S2) (ts:List T2) (nm:By) (d:Md):Prop where
 c0:0<=d.c
 c5:d.c<=5
 t2:d.t.size<=2000
 ls:d.ls.length<=200
 no:¬ Xj ss ts nm->d=⟨4,nm,[]⟩
structure SpV (ss:List S2) (ts:List T2):Prop where
 ascS:Gf (Aq ss)
 ascT:Gf (Ao ts)
 dis:∀ nm,Ec (Aq ss) nm->¬ Ec (Ao ts) nm
 txt:∀ i,i<ss.length->(sx ss i).text.size<=2000
 pr:∀ i,i<ts.length->Au (tx ts i).code=true
 nm:∀ i,i<ts.length->Am (tx ts i).name
structure Ft (is:List I3) (ys:List R3) (ls:List G3):Prop where
 pr:Au is=true
 ok:∀ i,i<ys.length->Kn (rx ys i)=true
 eq:ls.length=ys.length
theorem Ce.looks (hv:Au is=true) (sq:∀ i,i<ys.length->(rx ys i).text.size<=2000) (h:Ce is ys s r):Eb is s->s.looks<=ys.length->∀ {ask nm n},r=.wait ask nm n->ys.length<200/\Am nm:=by
 have hl:=(Dh hv).2
 induction h with
 | over h1=>intro _ _ c t n e;cases e
 | go h1 _ ih=>intro hs hk c t n e;obtain⟨k1,k2⟩:=Oz hv hs h1;exact ih k1 qb e
 | wait h1 k1=>
  intro hs hk c t n e;cases e;obtain⟨q1,q2,q3,q4,q5,q6,q7,q8⟩:=Hf h1;have:=hs.looks;exact⟨qb,(Ix hv hs h1).2⟩
 | ans h1 k1 a1 _ ih=>
  intro hs hk c t n e;obtain⟨q1,q2,q3,q4,q5,q6,q7,q8⟩:=Hf h1;have H7:=(Ix hv hs h1).1
  rename_i s s' s'' _ _
  have t6:s'.stack.length<50:=by rw[q7,Bf];have:=hs.len;omega
  have Q8:Eb is s''/\s''.looks=s'.looks:=by
   unfold Em at a1
   split at a1
   ·cases a1;exact⟨Kk H7 hl qb t6 qcs,rfl⟩
   ·split at a1
    ·cases a1
    ·split at a1
     ·cases a1
     ·cases a1;exact⟨Kk H7 hl qb t6 (sq _ k1),rfl⟩
  exact ih Q8.1 qb e
 | «end» h1 k1 a1=>intro _ _ c t n e;cases e
theorem Tr (h:∀ i,i<ys.length->Kn (rx ys i)=true):∀ i,i<ys.length->(rx ys i).text.size<=2000:=fun i hi=>by
 have:=h i hi
 simp only[Kn,Bool.and_eq_true,decide_eq_true_eq] at this
 exact this.1.1
theorem rx_snoc (h:∀ i,i<ys.length->Kn (rx ys i)=true) (hy:Kn y=true):∀ i,i<(ys++[y]).length->Kn (rx (ys++[y]) i)=true:=by
 intro i hi
 rw[List.length_append,List.length_singleton] at hi
 rcases Nat.lt_or_ge i ys.length with h1|h1
 ·have e:rx (ys++[y]) i=rx ys i:=by
   unfold rx;rw[gG,gG,List.getElem?_append_left h1]
  rw[e];exact h i h1
 ·obtain rfl:i=ys.length:=qb;have:=rx_mid ys [] y;rw[List.append_nil] at this;rw[this];exact hy
theorem Ft.has (h:Ft is ys ls) (b:Bool) (g:G3):Ft is (ys++[⟨b,0,⟨#[]⟩⟩]) (ls++[g]):=⟨h.pr,rx_snoc h.ok (by cases b<;>decide),by simp[h.eq]⟩
theorem repP_ok {d:Md} (h:MdOk ss ts nm d):Kn (Vq ss ts nm d)=true:=by
 unfold Vq
 split
 ·have h1:=h.c0;have h2:=h.c5;have h3:=h.t2;simp only[Kn,Bool.and_eq_true,decide_eq_true_eq];omega
 ·decide
theorem Ft.asked (h:Ft is ys ls) {d:Md} (hd:MdOk ss ts nm d) (g:G3):Ft is (ys++[Vq ss ts nm d]) (ls++[g]):=⟨h.pr,rx_snoc h.ok (repP_ok hd),by simp[h.eq]⟩
theorem Ft.over (h:Ft is ys ls) {c:Int} (hf:Ce is ys Ma (.over c t n)):t.size<=2000/\0<=c/\c<=5:=Ce.size h.pr (Tr h.ok) hf (Tp is) rfl
theorem Ft.wait (h:Ft is ys ls) (hf:Ce is ys Ma (.wait ask nm n)):ys.length<200/\Am nm:=Ce.looks h.pr (Tr h.ok) hf (Tp is) qbh rfl
def Ln (w:World) (B:Nat) (v:Value) (ls:List G3):Prop:=∃ xs,w.ownsRow B 172 3 v ls.length xs/\Bo ls ls.length xs
theorem Ln.same (h:Ln w B v ls) (hk:∀(b:Nat) (cs:Array Value),w.heap[b]?=some (Obj.cells cs 172 (0,0))->w'.heap[b]?=some (Obj.cells cs 172 (0,0))):Ln w' B v ls:=by
 obtain⟨xs,h1,h2⟩:=h
 refine⟨xs,⟨h1.1,?_⟩,h2⟩
 rcases h1.2 with k|⟨g,cap,cur,e,hg,hh,r⟩
 ·exact Or.inl k
 ·exact Or.inr ⟨g,cap,cur,e,hg,hk _ _ hh,r⟩
theorem Ev {b':Nat} (h:b'≠b) (v0 v1 v2 v3 v4 v5:Value):((((((w.setCell ⟨b,0,none⟩ v0).setCell ⟨b,1,none⟩ v1).setCell ⟨b,2,none⟩ v2).setCell ⟨b,3,none⟩ v3).setCell ⟨b,4,none⟩ v4).setCell ⟨b,5,none⟩ v5).heap[b']?=w.heap[b']?:=by
 rw[hC _ ⟨b,5,none⟩ _ b' h,hC _ ⟨b,4,none⟩ _ b' h,hC _ ⟨b,3,none⟩ _ b' h,hC _ ⟨b,2,none⟩ _ b' h,hC _ ⟨b,1,none⟩ _ b' h,hC _ ⟨b,0,none⟩ _ b' h]
theorem Hq (hb:Below B w w') (h:B<=b) (v0 v1 v2 v3 v4 v5:Value):Below B w ((((((w'.setCell ⟨b,0,none⟩ v0).setCell ⟨b,1,none⟩ v1).setCell ⟨b,2,none⟩ v2).setCell ⟨b,3,none⟩ v3).setCell ⟨b,4,none⟩ v4).setCell ⟨b,5,none⟩ v5):=
 (((((hb.setCell (p:=⟨b,0,none⟩) h _).setCell (p:=⟨b,1,none⟩) h _).setCell (p:=⟨b,2,none⟩) h _).setCell (p:=⟨b,3,none⟩) h _).setCell (p:=⟨b,4,none⟩) h _).setCell (p:=⟨b,5,none⟩) h _
theorem Fh {v0 v3 v4 v5:Value} (h:w.heap[b]?=some (.cells #[v0,v1,v2,v3,v4,v5] 165 (0,0))):w.cell? ⟨b,0,none⟩=some v0/\w.cell? ⟨b,1,none⟩=some v1/\w.cell? ⟨b,2,none⟩=some v2/\w.cell? ⟨b,3,none⟩=some v3/\w.cell? ⟨b,4,none⟩=some v4/\w.cell? ⟨b,5,none⟩=some v5/\∀ j,w.frozen? ⟨b,j,none⟩=false:=by
 refine⟨?_,?_,?_,?_,?_,?_,fun j=>fH h j⟩<;>rw[cH h]<;>rfl
theorem Mb.two (h:Mb w):2<w.heap.size:=by
 unfold Mb Lib.TabIs World.var? at h
 rw[show prog.globalNamed "internal/strconv.uint64pow10"=some 2 from qi] at h
 simp only[Option.bind_some] at h
 rcases Nat.lt_or_ge 2 w.heap.size with h'|h'
 ·exact h'
 ·rw[Array.getElem?_eq_none h'] at h;cases h
def Gn (is:List I3) (ys:List R3) (B m T:Nat) (cd:Value) (ov:Bool) (c:Int) (t:By) (ask:Bool) (nm:By) (st:Int) (w:World):Prop:=
 w.heap[T]?=some (.cells #[.bool ov,I c,.string t,.bool ask,.string nm,I st] 165 (0,0))/\T≠m/\B<=T/\m<w.heap.size/\VAt is ys B m cd ov c t ask nm st w
theorem Gn.bl {c:Int} (h:Gn is ys B m T cd ov c t ask nm st w) (hb:Bw w w'):Gn is ys B m T cd ov c t ask nm st w':=
 ⟨by rw[hb.block _ (Af h.1)];exact h.1,h.2.1,h.2.2.1,Nat.lt_of_lt_of_le h.2.2.2.1 hb.size,h.2.2.2.2.mono (fun _ _ _ _ k=>k.bl hb)⟩
theorem begin_any (a:Option Addr) (cap:Nat) (is:List I3) (w:World) (hT:Lr w) (hP:Mb w) (hc:Cj w a is) (hv:Au is=true) :
  Calls prog 148 #[.agg #[.slice a is.length cap]] w fun e w'=>Bw w w'/\∃ B m T ov c t ask nm st,w.heap.size<=B/\B<=w'.heap.size/\e=.returned (.tuple #[Az ov c t ask nm st,.func (.func 161) #[] #[.pointer (p_ m),.pointer (p_ T)]])/\Gn is [] B m T (.slice a is.length cap) ov c t ask nm st w':=by
 have hP2:=hP.two
 obtain⟨W,eW⟩:=Ai (((w.alloc (.cells #[.slice a is.length cap] 94)).alloc (.cells #[.bool false,I 0,ze,.bool false,ze,I 0] 165)))
 have ak:Bw w W:=by rw[<- eW];exact(aN _ _).alloc qg _
 have up:W.heap.size=w.heap.size+1+1:=qcx
 have x0:W.cell? ⟨w.heap.size,0,none⟩=some (.slice a is.length cap):=qal
 have HR:Hd (W.heap[w.heap.size+1]?=some (.cells #[.bool false,I 0,ze,.bool false,ze,I 0] 165 (0,0))):=by
  show W.heap[w.heap.size+1]?=_;rw[<- eW];exact qil
 have vv:Bw W (W.alloc (.cells #[nS,.slice a is.length cap,I 0,I 0,I 0] 243)):=aN _ _
 have HMK:Hd (Cd W.heap.size (W.alloc (.cells #[nS,.slice a is.length cap,I 0,I 0,I 0] 243)) W.heap.size Ma.stack (.slice a is.length cap) Ma.pl Ma.steps Ma.looks):=⟨Nat.le_refl _,nS,Be _ _,⟨by simp[Ma,Ax],Or.inl ⟨rfl,rfl⟩⟩⟩
 have HCB:Hd (Lv W.heap.size W a is):=⟨hc.bl ak,fun b off e=>by
  have:=(Dh hv).1;obtain⟨b',bq,e',c1,_,_⟩:=hc.bl ak 0 qb;rw[e] at e';cases e';exact World.block_lt_of_cell? _ _ c1⟩
 have HT2:=hid (hT.bl ak)
 have re:=hid (hP.bl ak)
 have HBM:=hid vv
 have HV:=hid hv
 have G2:=hid ak
 have HWS:=hid up
 clear hT hP hc hv vv ak up
 go_enter func148,ntmps148
 go_wp2_with fail
 clear eW
 refine(Yk W.heap.size W.heap.size is a cap Ma _ HMK.o qg (zo HWS.o) (HCB.o.belowB HBM.o) (HT2.o.bl HBM.o) (re.o.bl HBM.o) HV.o (Tp is)).mono ?_
 rintro e w3 ⟨gh,gj⟩
 obtain⟨ov,c,t,ask,nm,st,rfl,si⟩:=run_vat HV.o gj
 have hz3:W.heap.size+1<=w3.heap.size:=by have:=gh.size;simpa using this
 have fk:=hid (HBM.o.trans gh.bl)
 have HAT:Hd (VAt is [] W.heap.size W.heap.size (.slice a is.length cap) ov c t ask nm st (w3.alloc (.cells #[.bool ov,I c,.string t,.bool ask,.string nm,I st] 165))):=si.mono (fun _ _ _ _ k=>k.alloc _)
 have mi:Hd ((w3.alloc (.cells #[.bool ov,I c,.string t,.bool ask,.string nm,I st] 165)).heap[w.heap.size+1]?=some (.cells #[.bool false,I 0,ze,.bool false,ze,I 0] 165 (0,0))):=by
  show (w3.alloc (.cells #[.bool ov,I c,.string t,.bool ask,.string nm,I st] 165)).heap[w.heap.size+1]?=_;have:=HWS.o;rw[Lib.alloc_old w3 _ _ qb,fk.o.block _ qb];exact HR.o
 have HTN:Hd ((w3.alloc (.cells #[.bool ov,I c,.string t,.bool ask,.string nm,I st] 165)).heap[w3.heap.size]?=some (.cells #[.bool ov,I c,.string t,.bool ask,.string nm,I st] 165 (0,0))):=Be _ _
 have xr:Hd (Bw W (w3.alloc (.cells #[.bool ov,I c,.string t,.bool ask,.string nm,I st] 165))):=fk.o.alloc qb _
 obtain⟨z0,z1,z2,z3,z4,z5,zf⟩:=Fh mi.o
 clear si gj gh x0 HR
 unfold Az
 go_wp2_with fail
 obtain⟨n1,n2⟩:=storeT rfl mi.o (.bool ov) (I c) (.string t) (.bool ask) (.string nm) (I st)
 obtain⟨y0,y1,y2,y3,y4,y5,yf⟩:=Fh n1
 refine bR (v:=.tuple #[Az ov c t ask nm st,.func (.func 161) #[] #[.pointer (p_ W.heap.size),.pointer (p_ w3.heap.size)]]) (by simp[results,results148,go_sem,Az,z0,z1,z2,z3,z4,z5]) rfl ⟨Hq (G2.o.trans (xr.o.mono (zo HWS.o))) qb _ _ _ _ _ _,W.heap.size,W.heap.size,w3.heap.size,ov,c,t,ask,nm,st,by have:=HWS.o;omega,qh,rfl,?_,qb,qb,qh,?_⟩
 ·rw[Ev (zo HWS.o)];exact HTN.o
 ·exact HAT.o.mono (fun ss pl pj lk k=>n2 _ _ _ _ _ _ _ k)
theorem Fg.congr (h:w'.heap[m]?=w.heap[m]?) (k:Fg w m b):Fg w' m b:=fun v hv=>k v (by
 have e:w'.cell? ⟨m,0,none⟩=w.cell? ⟨m,0,none⟩:=by simp only[World.cell?,h]
 rw[<- e];exact hv)
theorem goOn_any (B m T:Nat) (is:List I3) (a:Option Addr) (cap:Nat) (ys:List R3) (ask:Bool) (nm:By) (st:Int) (y y':R3) (w:World) (hG:Gn is ys B m T (.slice a is.length cap) false 0 ⟨#[]⟩ ask nm st w) (hB:B<=w.heap.size) (bg:2<B) (du:Lv B w a is) (hT:Lr w) (hP:Mb w) (hv:Au is=true) (hy:y.text.size<=2000) (hyy:∀ nm s,Em ask nm y s=Em ask nm y' s) :
  Calls prog 161 #[.agg #[.bool y.has,I y.code,.string y.text],.pointer (p_ m),.pointer (p_ T)] w fun e w'=>(Below B w w'/\∀ b cs X,X≠9->b≠m->b≠T->w.heap[b]?=some (.cells cs X (0,0))->w'.heap[b]?=some (.cells cs X (0,0)))/\(∀ b cs X,b≠m->b≠T->Fg w m b->w.heap[b]?=some (.cells cs X (0,0))->w'.heap[b]?=some (.cells cs X (0,0))/\Fg w' m b)/\∃ ov c t jh nm' pj,e=.returned (Az ov c t jh nm' pj)/\Gn is (ys++[y']) B m T (.slice a is.length cap) ov c t jh nm' pj w':=by
 obtain⟨hTb,hTm,hBT,wu,hV⟩:=hG
 rcases hV with ⟨h0,_⟩|⟨_,_,_,s1,s',rfl,g1,g2,g3,g4,g5⟩
 ·cases h0
 obtain⟨q1,q2,q3,q4,q5,q6,q7,q8⟩:=Hf g1
 have t6:s'.stack.length<50:=by rw[q7,Bf];have:=g3.len;omega
 have hTl:=Af hTb
 obtain⟨W,eW⟩:=Ai (((w.alloc (.cells #[.bool y.has,I y.code,.string y.text] 169)).alloc (.cells #[.bool false,I 0,ze,.bool false,ze,I 0] 165)))
 have ak:Bw w W:=by rw[<- eW];exact(aN _ _).alloc qg _
 have up:W.heap.size=w.heap.size+1+1:=qcx
 have x0:W.cell? ⟨w.heap.size,0,none⟩=some (.bool y.has):=qal
 have x1:W.cell? ⟨w.heap.size,1,none⟩=some (I y.code):=qal
 have x2:W.cell? ⟨w.heap.size,2,none⟩=some (.string y.text):=qal
 have HR:Hd (W.heap[w.heap.size+1]?=some (.cells #[.bool false,I 0,ze,.bool false,ze,I 0] 165 (0,0))):=by
  show W.heap[w.heap.size+1]?=_;rw[<- eW];have h:=Be (w.alloc (.cells #[.bool y.has,I y.code,.string y.text] 169)) (.cells #[.bool false,I 0,ze,.bool false,ze,I 0] 165);rw[show (w.alloc (.cells #[.bool y.has,I y.code,.string y.text] 169)).heap.size=w.heap.size+1 from qg] at h;exact h
 have HTW:Hd (W.heap[T]?=some (.cells #[.bool false,I 0,ze,.bool ask,.string nm,I s'.steps] 165 (0,0))):=by
  show W.heap[T]?=_;rw[ak.block _ hTl];exact hTb
 have xq:Hd (KB B m w W):=KB.old ak hB
 have HAn:Hd (∀ _:Unit,Calls prog 162 #[.pointer (p_ m),Az false 0 ⟨#[]⟩ ask nm s'.steps,.agg #[.bool y.has,I y.code,.string y.text]] W fun e w'=>AnsPost is ask nm y s' B m (.slice a is.length cap) W e w'):=fun _=>
  answer_any B m is a cap ask nm y s' W (g5.bl ak) qb bg (du.belowB (ak.mono hB)) (hT.bl ak) (hP.bl ak) hv g4 qb t6 hy
 have HG:Hd (Ca is s1=.look ask nm s'/\RQ is ys s1/\Eb is s1/\Eb is s'/\Em ask nm y s'=Em ask nm y' s'):=⟨g1,g2,g3,g4,hyy nm s'⟩
 have HV:=hid hv
 have HWS:=hid up
 have HML0:=hid wu
 have rj:Hd (B<=T/\T≠m/\T<w.heap.size/\B<=w.heap.size):=⟨hBT,hTm,hTl,hB⟩
 obtain⟨k0,k1,k2,k3,k4,k5,kf⟩:=Fh HTW.o
 obtain⟨_,_,_,_,_,_,_,_,ue,_,_⟩:=g5.all
 clear g1 g2 g3 g4 g5 du hT hP hv ak hTb q1 q2 q3 q4 q5 q6 q7 q8 t6 up
 unfold Az at HAn
 go_enter func161,ntmps161
 go_wp2_with fail
 clear eW
 refine(HAn.o ()).mono ?_
 rintro e w4 ⟨oc,gj⟩
 obtain⟨ov',c',t',jh,nm',pj,rfl,hnext⟩:=ans_vat HV.o HG.o.1 HG.o.2.1 hy HG.o.2.2.2.2 HG.o.2.2.1 HG.o.2.2.2.1 gj
 have hT4:w4.heap[T]?=some (.cells #[.bool false,I 0,ze,.bool ask,.string nm,I s'.steps] 165 (0,0)):=oc.keep _ _ 165 qd rj.o.2.1 HTW.o
 have hR4:w4.heap[w.heap.size+1]?=some (.cells #[.bool false,I 0,ze,.bool false,ze,I 0] 165 (0,0)):=oc.keep _ _ 165 qd qb HR.o
 obtain⟨n1,n2⟩:=storeT rfl hT4 (.bool ov') (I c') (.string t') (.bool jh) (.string nm') (I pj)
 have hTR:T≠w.heap.size+1:=zo rj.o.2.2.1
 have hTR':w.heap.size+1≠T:=fun e=>hTR e.symm
 have hR5:=(Ev (w:=w4) (b:=T) (b':=w.heap.size+1) (fun e=>hTR e.symm) (.bool ov') (I c') (.string t') (.bool jh) (.string nm') (I pj)).trans hR4
 obtain⟨r1,r2⟩:=storeT rfl hR5 (.bool ov') (I c') (.string t') (.bool jh) (.string nm') (I pj)
 have HKB2:=hid (xq.o.trans oc)
 have HML:Hd (m<((((((((((((w4.setCell ⟨T,0,none⟩ (.bool ov')).setCell ⟨T,1,none⟩ (I c')).setCell ⟨T,2,none⟩ (.string t')).setCell ⟨T,3,none⟩ (.bool jh)).setCell ⟨T,4,none⟩ (.string nm')).setCell ⟨T,5,none⟩ (I pj)).setCell ⟨w.heap.size+1,0,none⟩ (.bool ov')).setCell ⟨w.heap.size+1,1,none⟩ (I c')).setCell ⟨w.heap.size+1,2,none⟩ (.string t')).setCell ⟨w.heap.size+1,3,none⟩ (.bool jh)).setCell ⟨w.heap.size+1,4,none⟩ (.string nm')).setCell ⟨w.heap.size+1,5,none⟩ (I pj)).heap.size):=Nat.lt_of_lt_of_le ue (Hq (Hq HKB2.o.bl rj.o.1 _ _ _ _ _ _) (b:=w.heap.size+1) (zo rj.o.2.2.2) _ _ _ _ _ _).size
 have ph:=hid hnext
 obtain⟨j0,j1,j2,j3,j4,j5,jf⟩:=Fh hT4
 obtain⟨z0,z1,z2,z3,z4,z5,zf⟩:=Fh hR4
 have E3:=hid n1
 have X1:=hid n2
 have ol:=hid r2
 clear k0 k1 k2 k3 k4 k5 kf oc gj hnext HAn n1 n2 r1 r2 hR5 x0 x1 x2
 unfold Az
 go_wp2_with fail
 refine bR (v:=Az ov' c' t' jh nm' pj) (by simp[results,results161,go_sem,Az,z0,z1,z2,z3,z4,z5]) rfl ⟨⟨Hq (Hq HKB2.o.bl rj.o.1 _ _ _ _ _ _) (zo rj.o.2.2.2) _ _ _ _ _ _,?_⟩,?_,ov',c',t',jh,nm',pj,rfl,?_,rj.o.2.1,rj.o.1,HML.o,?_⟩
 ·intro b cs X hX vv hbT hb;have bi:=Af hb;rw[Ev qb,Ev hbT];exact HKB2.o.keep b cs X hX vv hb
 ·intro b cs X vv hbT gk hb;have bi:=Af hb;have hml':=HML0.o;obtain⟨q1,q2⟩:=HKB2.o.own hml' b cs X vv gk hb;refine⟨?_,Fg.congr ?_ q2⟩
  ·rw[Ev qb,Ev hbT];exact q1
  ·rw[Ev qb,Ev (fun e=>rj.o.2.1 e.symm)]
 ·rw[Ev hTR];exact E3.o
 ·exact ph.o.mono (fun ss pl pj lk k=>ol.o _ _ _ _ _ _ _ (X1.o _ _ _ _ _ _ _ k))
def kS (k:By):Lit:=.string k.data.toList
theorem kS_inj {a b:By} (h:kS a=kS b):a=b:=by
 unfold kS at h
 injection h with h
 apply ByteArray.ext
 exact Array.ext' h
theorem kS_key (k:By):WideAt.IsKeyLit (kS k):=by unfold kS;trivial
def Iq (w:World) (b n:Nat) (f:By->Option Value):Prop:=
 ∃ D:DataW Value,w.ownsMap prog 9 (fun v=>some (.held v,[])) b n D/\∀ k:By,Maps.has D (kS k)=(f k).isSome/\∀ v,f k=some v->∀ z,D.atKey (kS k) z=.held v
theorem Iq.made (w:World):Iq (w.alloc (.map #[] 0)) w.heap.size 0 (fun _=>none):=⟨_,World.ownsMap_made w _ _ _,fun k=>⟨rfl,fun v h=>by cases h⟩⟩
theorem Iq.same (h:Iq w b n f) (he:w'.heap[b]?=w.heap[b]?):Iq w' b n f:=by
 exact qmu
theorem Iq.lt (h:Iq w b n f):b<w.heap.size:=by obtain⟨D,h1,_⟩:=h;exact h1.lt
theorem Iq.notCells (h:Iq w b n f) {T:TypeId} {fr:Nat × Nat} (hc:w.heap[b]?=some (.cells cs T fr)):False:=by
 obtain⟨D,⟨es,cl,h1,_⟩,_⟩:=h
 rw[hc] at h1;cases h1
def He:Value:=.agg #[.bool false,I 0,ze,nS,ze,nS]
theorem zero59 (w:World):(zeroValue 187).run prog w=.ok He w:=qi
theorem key_of (k:By) (h:k.size<=maxLen):keyOf prog 9 (.string k)=some (kS k):=Go.WideMaps.keyOf_string_mk underlying9 h
theorem Iq.look (h:Iq w b n f) (hk:k.size<=maxLen):(Instr.lookup 183 (.map (some b)) (.string k) true).run prog w=.ok (.tuple #[(f k).getD He,.bool (f k).isSome]) w:=by
 obtain⟨D,h1,h2⟩:=h
 obtain⟨v,ps,h3,h4⟩:=h1.look_ok (Maps.string_keyed underlying9) underlying183 (zero59 w) (zd:=.held He) (zp:=[]) rfl (key_of k hk)
 have h5:(DataW.held v:DataW Value)=D.atKey (kS k) (.held He):=by
  simp only[Option.some.injEq,Prod.mk.injEq] at h4;exact h4.1
 have h6:v=(f k).getD He:=by
  cases hf:f k with
  | none=>
   have h7:=(h2 k).1;rw[hf] at h7;rw[Maps.atKey_of_not_has h7] at h5;exact DataW.held.inj h5
  | some u=>
   rw[(h2 k).2 u hf] at h5;exact DataW.held.inj h5
 rw[h3,(h2 k).1,h6]
open Classical in
theorem Iq.store (h:Iq w b n f) (hk:k.size<=maxLen) (hn:n<maxLen) (v:Value):∃ w',(Instr.mapUpdate 183 (.map (some b)) (.string k) v).run prog w=.ok () w'/\Iq w' b (n+1) (fun x=>if x=k then some v else f x)/\w.grownBy w' (some b):=by
 obtain⟨D,h1,h2⟩:=h
 obtain⟨w',h3,h4,h5⟩:=h1.update (Maps.string_keyed underlying9) underlying183 hn (key_of k hk) (val:=v) (d:=.held v) (ps:=[]) rfl
 refine⟨w',h3,⟨_,h4,fun x=>?_⟩,h5⟩
 by_cases hx:x=k
 ·subst hx;simp only[if_true];exact⟨Maps.has_put_same h1.isMap (kS_key _) _,fun v' e z=>by cases e;exact Maps.atKey_put_same h1.isMap (kS_key _) _ _⟩
 ·simp only[if_neg hx];have hne:kS x≠kS k:=fun e=>hx (kS_inj e);exact⟨by rw[Maps.has_put_other hne];exact(h2 x).1,fun v' e z=>by rw[Maps.atKey_put_other hne];exact(h2 x).2 v' e z⟩
theorem Iq.congr {g:By->Option Value} (h:Iq w b n f) (e:∀ k,f k=g k):Iq w b n g:=by
 obtain rfl:f=g:=funext e
 exact h
def Ey (d:Md) (v:Value):Value:=.agg #[.bool true,I d.c,.string d.t,nS,.string (Bk d.c d.t),v]
structure KP (B h mb:Nat) (av kv:Value) (w w':World):Prop where
 bl:Below B w w'
 keep:∀ b,b<w.heap.size->b≠h->b≠mb->av.ownBlock≠some b->kv.ownBlock≠some b->w'.heap[b]?=w.heap[b]?
def Ak (w:World) (v v':Value):Prop:=∀ b,v'.ownBlock=some b->v.ownBlock=some b\/w.heap.size<=b
theorem Ak.refl (w:World) (v:Value):Ak w v v:=fun b h=>Or.inl h
theorem Ak.trans (h:Ak w v v1) (hs:w.heap.size<=w1.heap.size) (k:Ak w1 v1 v2):Ak w v v2:=fun b hb=>by
 rcases k b hb with q|q
 ·exact h b q
 ·exact Or.inr qb
theorem KP.old {mb:Nat} (hb:Bw w w') (hB:B<=w.heap.size):KP B h mb av kv w w':=⟨hb.mono hB,fun b h1 _ _ _ _=>hb.block b h1⟩
theorem KP.setH {mb:Nat} (k:KP B h mb av kv w w') (hB:B<=h):KP B h mb av kv w (w'.setCell ⟨h,j,none⟩ v):=⟨k.bl.setCell (p:=⟨h,j,none⟩) hB _,fun b h1 h2 h3 h4 h5=>by rw[hC w' ⟨h,j,none⟩ _ b (by simpa using h2)];exact k.keep b h1 h2 h3 h4 h5⟩
theorem KP.mapped {mb:Nat} {w2:World} (k:KP B h mb av kv w w1) (hB:B<=mb) (hg:w1.grownBy w2 (some mb)) (fy:B<=w1.heap.size):KP B h mb av kv w w2:=⟨k.bl.grown hg fy (fun b e=>by injection e with e;omega),fun b h1 h2 h3 h4 h5=>by
 have hs:=k.bl.size
 rw[hg.block b qb (fun e=>h3 qan)]
 exact k.keep b h1 h2 h3 h4 h5⟩
theorem Dr (ho:w.ownsRow B e sz v n xs) (hb:v.ownBlock=some b):B<=b/\∃ cur,w.heap[b]?=some (.cells cur e (0,0)):=by
 rcases ho.2 with ⟨rfl,_⟩|⟨g,cap,cur,rfl,hg,hh,_⟩
 ·simp[Value.ownBlock] at hb
 ·simp[Value.ownBlock] at hb;subst hb;exact⟨hg,cur,hh⟩
theorem Ad (ho:w.ownsRow B e sz v n xs) {T:TypeId} (hT:T≠e) (hb:w.heap[b]?=some (.cells cs T (0,0))):v.ownBlock≠some b:=fun q=>by
 obtain⟨_,cur,hh⟩:=Dr ho q
 rw[hb] at hh
 injection hh with hh
 injection hh with _ h5
 exact hT h5
theorem Jk (ho:w.ownsRow B e sz v n xs) (hm:Iq w b m f):v.ownBlock≠some b:=fun q=>by
 obtain⟨_,cur,hh⟩:=Dr ho q
 exact hm.notCells hh
theorem Aj (ho:w.ownsRow B e sz v n xs) (hk:∀ b,v.ownBlock=some b->w'.heap[b]?=w.heap[b]?):w'.ownsRow B e sz v n xs:=by
 refine⟨ho.1,?_⟩
 rcases ho.2 with k|⟨g,cap,cur,rfl,hg,hh,r⟩
 ·exact Or.inl k
 ·exact Or.inr ⟨g,cap,cur,rfl,hg,by rw[hk g (by simp[Value.ownBlock])];exact hh,r⟩
theorem Ln.keptB (h:Ln w B v ls) (hk:∀ b,v.ownBlock=some b->w'.heap[b]?=w.heap[b]?):Ln w' B v ls:=by
 obtain⟨xs,h1,h2⟩:=h
 exact⟨xs,Aj h1 hk,h2⟩
def Kq (v:Value):Ending:=.panicked [{ v:=.iface 207 v,recovered:=false }]
def Wc (n:Nat):By:=⟨#[UInt8.ofNat (48+n)]⟩
theorem Xh (n:Nat):(Wc n).size=1:=rfl
theorem itoa_in (n:Nat) (hn:n<=5) (w:World):Calls prog 166 #[I n] w fun e w'=>e=.returned (.string (Wc n))/\w=w':=by
 rcases (show n=0\/n=1\/n=2\/n=3\/n=4\/n=5 from qb) with rfl|rfl|rfl|rfl|rfl|rfl
 all_goals
  go_enter func166,ntmps166;exact qah
theorem l2Dec_in (n:Nat) (hn:n<=5) (w:World):Calls prog 117 #[I n] w fun e w'=>e=.returned (.string (Wc n))/\Bw w w':=by
 have hu:=Ul n qb
 unfold Wc
 generalize UInt8.ofNat (48+n)=u at *
 have hcv:=Um (w.alloc (.cells #[.int .u8 (48+n)] 5)) w.heap.size (48+n) u hu qk
 clear hu
 exact qlu
theorem Ay {b:World} (h:Bw w a) (k:Bw a b):Bw w b:=h.trans (k.mono h.size)
theorem Pb (m:Nat) (t:By) (a:Option Addr) (cap:Nat) (w:World) (hm:m<=5) (ht:t.size<=2000) :
  Calls prog 93 #[.agg #[I m,.string t,.slice a 0 cap]] w fun e w'=>e=.returned (.string (Wc m++(⟨#[58]⟩:By)++t))/\Bw w w':=by
 have hd:=Nat.le_of_eq (Xh m)
 have HC:Hd (∀ W:World,Calls prog 117 #[I m] W fun e w'=>e=.returned (.string (Wc m))/\Bw W w'):=fun W=>l2Dec_in m hm W
 generalize Wc m=d at *
 have HD:Hd (∀ W:World,W.cell? ⟨w.heap.size,1,none⟩=some (.string t)->Calls prog 117 #[I m] W fun e w'=>e=.returned (.string d)/\Bw W w'/\w'.cell? ⟨w.heap.size,1,none⟩=some (.string t)):=fun W hW=>(HC.o W).mono fun e w' ⟨he,hb⟩=>⟨he,hb,Aa hb hW⟩
 have hx0:(w.alloc (.cells #[I m,.string t,.slice a 0 cap] 105)).cell? ⟨w.heap.size,0,none⟩=some (I m):=qk
 have hx1:(w.alloc (.cells #[I m,.string t,.slice a 0 cap] 105)).cell? ⟨w.heap.size,1,none⟩=some (.string t):=qk
 go_enter func93,ntmps93
 go_wp2
 go_region_with (first|(go_at_call 117;refine(HD.o _ ?_).mono ?_;(focus (simp[go_sem];done));rintro e w1 ⟨rfl,af,hcc⟩))
 all_goals
  go_wp2;go_ret;exact⟨rfl,((aN _ _).drew.trans (af.mono qg))⟩
theorem Ps (m:Nat) (t:By) (a:Option Addr) (cap:Nat) (w:World) (hm:m<=5) (ht:t.size<=2000) :
  Calls prog 151 #[.agg #[I m,.string t,.slice a 0 cap]] w fun e w'=>e=.returned (.string (Wc m++(⟨#[58]⟩:By)++t))/\Bw w w':=by
 have hd:=Nat.le_of_eq (Xh m)
 have HC:Hd (∀ W:World,Calls prog 166 #[I m] W fun e w'=>e=.returned (.string (Wc m))/\W=w'):=fun W=>itoa_in m hm W
 generalize Wc m=d at *
 have hx0:(w.alloc (.cells #[I m,.string t,.slice a 0 cap] 105)).cell? ⟨w.heap.size,0,none⟩=some (I m):=qk
 have hx1:(w.alloc (.cells #[I m,.string t,.slice a 0 cap] 105)).cell? ⟨w.heap.size,1,none⟩=some (.string t):=qk
 go_enter func151,ntmps151
 go_wp2
 go_region_with (first|(go_at_call 166;refine(HC.o _).mono ?_;rintro e w1 ⟨rfl,rfl⟩))
 all_goals
  go_wp2;go_ret;exact⟨rfl,(aN _ _).drew⟩
section
open Go.Deep
theorem Hu {w:World} {b:Nat} {u0 u1 u2 u3 u4 u5:Value} {T:TypeId} (h:w.heap[b]?=some (.cells #[u0,u1,u2,u3,u4,u5] T (0,0))) (v0 v1 v2 v3 v4 v5:Value):((((((w.setCell ⟨b,0,none⟩ v0).setCell ⟨b,1,none⟩ v1).setCell ⟨b,2,none⟩ v2).setCell ⟨b,3,none⟩ v3).setCell ⟨b,4,none⟩ v4).setCell ⟨b,5,none⟩ v5).heap[b]?=some (.cells #[v0,v1,v2,v3,v4,v5] T (0,0)):=by
 rw[jB (jB (jB (jB (jB (jB h v0) v1) v2) v3) v4) v5]
 rfl
theorem Rl {w:World} {b:Nat} {v0 v1 v2 v3 v4 v5:Value} {T:TypeId} (h:w.heap[b]?=some (.cells #[v0,v1,v2,v3,v4,v5] T (0,0))):(w.cell? ⟨b,0,none⟩=some v0/\w.cell? ⟨b,1,none⟩=some v1/\w.cell? ⟨b,2,none⟩=some v2/\w.cell? ⟨b,3,none⟩=some v3/\w.cell? ⟨b,4,none⟩=some v4/\w.cell? ⟨b,5,none⟩=some v5)/\∀ j,w.frozen? ⟨b,j,none⟩=false:=by
 refine⟨⟨?_,?_,?_,?_,?_,?_⟩,fun j=>fH h j⟩<;>rw[cH h]<;>rfl
def mkW (sv tv:Value) (w:World):World:=((w.alloc (.cells #[sv,tv] 42)).alloc (.map #[] 0)).alloc (.cells #[sv,tv,.map (some (w.heap.size+1)),nS,nS,.nilFunc] 185)
theorem Yv (sa ta:Option Addr) (n1 n2 c1 c2:Nat) (w:World) :
  Calls prog 107 #[.agg #[.slice sa n1 c1,.slice ta n2 c2]] w fun e w'=>e=.returned (.pointer (p_ (w.heap.size+1+1)))/\w'=mkW (.slice sa n1 c1) (.slice ta n2 c2) w:=by
 have hmm:∀ w:World,(Instr.makeMap 183 none).run prog w=.ok (.map (some w.heap.size)) (w.alloc (.map #[] 0)):=fun w=>qi
 go_enter func107,ntmps107
 exact qah
theorem mkW_blk (sv tv:Value) (w:World):(mkW sv tv w).heap[w.heap.size+1+1]?=some (.cells #[sv,tv,.map (some (w.heap.size+1)),nS,nS,.nilFunc] 185 (0,0)):=by
 unfold mkW
 have h:=Be ((w.alloc (.cells #[sv,tv] 42)).alloc (.map #[] 0)) (.cells #[sv,tv,.map (some (w.heap.size+1)),nS,nS,.nilFunc] 185)
 rw[show ((w.alloc (.cells #[sv,tv] 42)).alloc (.map #[] 0)).heap.size=w.heap.size+1+1 from qg] at h
 exact h
theorem mkW_map (sv tv:Value) (w:World):Iq (mkW sv tv w) (w.heap.size+1) 0 (fun _=>none):=by
 have h:=Iq.made (w.alloc (.cells #[sv,tv] 42))
 rw[show (w.alloc (.cells #[sv,tv] 42)).heap.size=w.heap.size+1 from qg] at h
 unfold mkW
 exact h.same (Lib.alloc_old _ _ _ qg)
theorem mkW_below (sv tv:Value) (w:World):Bw w (mkW sv tv w):=by
 unfold mkW
 exact((aN _ _).alloc qg _).alloc qh _
theorem blk_keep' {w w':World} {b:Nat} {cs:Array Value} {T:TypeId} (hb:Bw w w') (h:w.heap[b]?=some (.cells cs T (0,0))):w'.heap[b]?=some (.cells cs T (0,0)):=by
 rw[hb.block _ (Af h)];exact h
theorem strV_get' (l:List By) (i:Nat) (h:i<l.length):(Ax l)[i]?=some (.string (l.getD i ByteArray.empty)):=by
 unfold Ax
 rw[List.getElem?_map,Iu h,gG,Iu h]
 rfl
theorem own_base' {w:World} {B B' e sz n:Nat} {v:Value} {xs:List Value} (h:w.ownsRow B e sz v n xs) (hB:B'<=B):w.ownsRow B' e sz v n xs:=by
 exact qkp
theorem Ag (V:World) (o:Obj):Bw V (V.alloc o):=aN _ _
end
theorem Rd (sa ta:Option Addr) (n2 c1 c2:Nat) (ts:List S2) (s:By) (w:World) (hc:Jv w sa ts) (hl:ts.length<=1048576) :
  Calls prog 67 #[.agg #[.slice sa ts.length c1,.slice ta n2 c2],.string s] w fun e w'=>Bw w w'/\((∃ i:Nat,e=.returned (I i)/\i<ts.length/\(sx ts i).name=s)\/(e=.returned (I (-1))/\¬ Ec (Aq ts) s)):=by
 have ak:Bw w (w.alloc (.cells #[.slice sa ts.length c1,.slice ta n2 c2] 42)):=aN _ _
 have k1:(w.alloc (.cells #[.slice sa ts.length c1,.slice ta n2 c2] 42)).cell? ⟨w.heap.size,0,none⟩=some (.slice sa ts.length c1):=qk
 have HC:=hid (hc.bl ak)
 clear hc
 go_enter func67,ntmps67
 go_wp2
 go_loopw [5] (fun i wr=>∃ k:Nat,k<=ts.length/\i=I k/\Hd (∀ j,j<k->(sx ts j).name≠s)/\(w.alloc (.cells #[.slice sa ts.length c1,.slice ta n2 c2] 42))=wr) (fun i _=>ts.length-(intOf i).toNat)
 case atStart=>exact⟨0,Nat.zero_le _,rfl,(fun j hj=>by omega:∀ j,j<0->(sx ts j).name≠s),rfl⟩
 case round=>
  obtain⟨k,hk,rfl,HA,rfl⟩:=hrel
  by_cases aj:k<ts.length
  ·obtain⟨b,off,rfl,F6,zl⟩:=HC.o k aj;have je:(k:Int)<(ts.length:Int):=qb;obtain⟨nm,en⟩:=Ai ((sx ts k).name);have EN:=hid en;rw[en] at F6;clear en zl;exact qhy
  ·go_wp2;go_ret;exact⟨ak,Or.inr ⟨rfl,fun ⟨j,hj,e⟩=>by rw[Bs] at hj;rw[Du] at e;exact HA.o j qb e⟩⟩
theorem Rc (sa ta:Option Addr) (n1 c1 c2:Nat) (ts:List T2) (s:By) (w:World) (hc:Ju w ta ts) (hl:ts.length<=1048576) :
  Calls prog 47 #[.agg #[.slice sa n1 c1,.slice ta ts.length c2],.string s] w fun e w'=>Bw w w'/\((∃ i:Nat,e=.returned (I i)/\i<ts.length/\(tx ts i).name=s)\/(e=.returned (I (-1))/\¬ Ec (Ao ts) s)):=by
 have ak:Bw w (w.alloc (.cells #[.slice sa n1 c1,.slice ta ts.length c2] 42)):=aN _ _
 have k1:(w.alloc (.cells #[.slice sa n1 c1,.slice ta ts.length c2] 42)).cell? ⟨w.heap.size,1,none⟩=some (.slice ta ts.length c2):=qk
 have HC:=hid (hc.bl ak)
 clear hc
 go_enter func47,ntmps47
 go_wp2
 go_loopw [5] (fun i wr=>∃ k:Nat,k<=ts.length/\i=I k/\Hd (∀ j,j<k->(tx ts j).name≠s)/\(w.alloc (.cells #[.slice sa n1 c1,.slice ta ts.length c2] 42))=wr) (fun i _=>ts.length-(intOf i).toNat)
 case atStart=>exact⟨0,Nat.zero_le _,rfl,(fun j hj=>by omega:∀ j,j<0->(tx ts j).name≠s),rfl⟩
 case round=>
  obtain⟨k,hk,rfl,HA,rfl⟩:=hrel
  by_cases aj:k<ts.length
  ·obtain⟨b,off,rfl,F6,x,p,zl,c3'⟩:=HC.o k aj;have je:(k:Int)<(ts.length:Int):=qb;obtain⟨nm,en⟩:=Ai ((tx ts k).name);have EN:=hid en;rw[en] at F6;clear en zl c3';exact qhy
  ·go_wp2;go_ret;exact⟨ak,Or.inr ⟨rfl,fun ⟨j,hj,e⟩=>by rw[Bn] at hj;rw[Dl] at e;exact HA.o j qb e⟩⟩
theorem Qx (h:Xj ss ts nm):Cb ss ts nm=true:=by simp[Cb,h]
theorem Xt (h:¬ Xj ss ts nm):Cb ss ts nm=false:=by simp[Cb,h]
section
theorem Qbz (x:By):x.extract 0 x.size=x:=by
 apply WideShapes.bytes_inj
 simp
theorem Zl (x:By):x.extract x.size x.size=⟨#[]⟩:=by
 apply WideShapes.bytes_inj
 simp
def Lu (w:World) (e:Ending) (outs:List By):Prop:=∃ g cap:Nat,e=.returned (.slice (p_ g) outs.length cap)/\∀ j,j<outs.length->w.cell? ⟨g,j,none⟩=some (.string (outs.getD j ByteArray.empty))
theorem Qay (w:World) (x:By) (ty:TypeId):Lu (w.alloc (.cells #[.string x] ty)) (.returned (.slice (p_ w.heap.size) 1 1)) [x]:=
 ⟨_,_,rfl,fun j hj=>by obtain rfl:j=0:=(by simp at hj;omega);simp[go_sem]⟩
theorem out2 (w:World) (x y:By) (ty:TypeId):Lu (w.alloc (.cells #[.string x,.string y] ty)) (.returned (.slice (p_ w.heap.size) 2 2)) [x,y]:=
 ⟨_,_,rfl,fun j hj=>by
  rcases (show j=0\/j=1 by simp at hj;omega) with rfl|rfl
  ·simp[go_sem]
  ·simp[go_sem]⟩
variable (t:By) (n:Nat) (a b:By) (w:World)
theorem plain_1 (ha:a.size<=2000) (hb:b.size<=2000) (hn:n<=2000) :
  Calls prog 136 #[.agg #[I 1,.string t,I n],.string a,.string b] w fun e w'=>Bw w w'/\Lu w' e (Ct 1 t n a b):=by
 go_enter func136,ntmps136
 go_wp2
 go_ret
 exact⟨(aN _ _).alloc qg _,by have h:=Qay (w.alloc (.cells #[I 1,.string t,I n] 128)) (t) 9;simpa [Ct] using h⟩
theorem plain_2 (ha:a.size<=2000) (hb:b.size<=2000) (hn:n<=2000) :
  Calls prog 136 #[.agg #[I 2,.string t,I n],.string a,.string b] w fun e w'=>Bw w w'/\Lu w' e (Ct 2 t n a b):=by
 have hc:(b++a).size=b.size+a.size:=ByteArray.size_append
 go_enter func136,ntmps136
 go_wp2
 go_ret
 exact⟨(aN _ _).alloc qg _,by have h:=Qay (w.alloc (.cells #[I 2,.string t,I n] 128)) (b++a) 9;simpa [Ct] using h⟩
theorem plain_3 (ha:a.size<=2000) (hb:b.size<=2000) (hn:n<=2000) :
  Calls prog 136 #[.agg #[I 3,.string t,I n],.string a,.string b] w fun e w'=>Bw w w'/\Lu w' e (Ct 3 t n a b):=by
 by_cases h:n<a.size
 ·have hI:(n:Int)<(a.size:Int):=qb;have e:min n a.size=n:=qb;have gz:Ct 3 t n a b=[a.extract 0 n]:=by simp only[Ct,e]
  rw[gz];clear e gz;go_enter func136,ntmps136;go_wp2;go_ret;exact⟨(aN _ _).alloc qg _,by have h:=Qay (w.alloc (.cells #[I 3,.string t,I n] 128)) (a.extract 0 n) 9;simpa using h⟩
 ·have hI:¬ (n:Int)<(a.size:Int):=qb;have e:min n a.size=a.size:=qb;have gz:Ct 3 t n a b=[a]:=by simp only[Ct,e,Qbz]
  rw[gz];clear e gz;go_enter func136,ntmps136;go_wp2;go_ret;exact⟨(aN _ _).alloc qg _,by have h:=Qay (w.alloc (.cells #[I 3,.string t,I n] 128)) (a) 9;simpa using h⟩
theorem plain_4 (ha:a.size<=2000) (hb:b.size<=2000) (hn:n<=2000) :
  Calls prog 136 #[.agg #[I 4,.string t,I n],.string a,.string b] w fun e w'=>Bw w w'/\Lu w' e (Ct 4 t n a b):=by
 by_cases h:n<a.size
 ·have hI:(n:Int)<(a.size:Int):=qb;have e:min n a.size=n:=qb;have gz:Ct 4 t n a b=[a.extract n a.size]:=by simp only[Ct,e]
  rw[gz];clear e gz;go_enter func136,ntmps136;go_wp2;go_ret;exact⟨(aN _ _).alloc qg _,by have h:=Qay (w.alloc (.cells #[I 4,.string t,I n] 128)) (a.extract n a.size) 9;simpa using h⟩
 ·have hI:¬ (n:Int)<(a.size:Int):=qb;have e:min n a.size=a.size:=qb;have gz:Ct 4 t n a b=[⟨#[]⟩]:=by simp only[Ct,e,Zl]
  rw[gz];clear e gz;go_enter func136,ntmps136;go_wp2;go_ret;exact⟨(aN _ _).alloc qg _,by have h:=Qay (w.alloc (.cells #[I 4,.string t,I n] 128)) (⟨#[]⟩) 9;simpa using h⟩
theorem plain_5 (ha:a.size<=2000) (hb:b.size<=2000) (hn:n<=2000) :
  Calls prog 136 #[.agg #[I 5,.string t,I n],.string a,.string b] w fun e w'=>Bw w w'/\Lu w' e (Ct 5 t n a b):=by
 go_enter func136,ntmps136
 go_wp2_with (go_at_call 155;refine(Qbh a n _ ha hn).mono ?_;rintro e w9 ⟨rfl,rfl⟩)
 go_ret
 exact⟨(aN _ _).alloc qg _,by have h:=Qay (w.alloc (.cells #[I 5,.string t,I n] 128)) (Ke a n) 9;simpa [Ct] using h⟩
theorem plain_6 (ha:a.size<=2000) (hb:b.size<=2000) (hn:n<=2000) :
  Calls prog 136 #[.agg #[I 6,.string t,I n],.string a,.string b] w fun e w'=>Bw w w'/\Lu w' e (Ct 6 t n a b):=by
 have hsym:(a.toList == b.toList)=(b.toList == a.toList):=BEq.comm
 obtain⟨f,ef⟩:=Ai (Co (a.toList == b.toList))
 have EF:=hid ef
 have gz:Ct 6 t n a b=[f]:=by simp only[Ct,<- hsym,ef]
 rw[gz]
 clear hsym gz ef
 go_enter func136,ntmps136
 go_wp2_with (go_at_call 92;refine(Lc _ _).mono ?_;rintro e w9 ⟨rfl,rfl⟩;rw[EF.o])
 go_ret
 exact⟨(aN _ _).alloc qg _,by have h:=Qay (w.alloc (.cells #[I 6,.string t,I n] 128)) f 9;simpa using h⟩
theorem plain_7 (ha:a.size<=2000) (hb:b.size<=2000) (hn:n<=2000) :
  Calls prog 136 #[.agg #[I 7,.string t,I n],.string a,.string b] w fun e w'=>Bw w w'/\Lu w' e (Ct 7 t n a b):=by
 go_enter func136,ntmps136
 go_wp2
 go_ret
 exact⟨(aN _ _).alloc qg _,by have h:=out2 (w.alloc (.cells #[I 7,.string t,I n] 128)) a a 9;simpa [Ct] using h⟩
theorem plain_8 (ha:a.size<=2000) (hb:b.size<=2000) (hn:n<=2000) :
  Calls prog 136 #[.agg #[I 8,.string t,I n],.string a,.string b] w fun e w'=>Bw w w'/\Lu w' e (Ct 8 t n a b):=by
 go_enter func136,ntmps136
 go_wp2
 go_ret
 exact⟨(aN _ _).alloc qg _,by have h:=out2 (w.alloc (.cells #[I 8,.string t,I n] 128)) a b 9;simpa [Ct] using h⟩
theorem plain_any (o:Nat) (ha:a.size<=2000) (hb:b.size<=2000) (hn:n<=2000) (h1:1<=o) (h2:o<=8) :
  Calls prog 136 #[.agg #[I (o:Int),.string t,I n],.string a,.string b] w fun e w'=>Bw w w'/\Lu w' e (Ct o t n a b):=by
 rcases (show o=1\/o=2\/o=3\/o=4\/o=5\/o=6\/o=7\/o=8 from qb) with rfl|rfl|rfl|rfl|rfl|rfl|rfl|rfl
 ·exact plain_1 t n a b w ha hb hn
 ·exact plain_2 t n a b w ha hb hn
 ·exact plain_3 t n a b w ha hb hn
 ·exact plain_4 t n a b w ha hb hn
 ·exact plain_5 t n a b w ha hb hn
 ·exact plain_6 t n a b w ha hb hn
 ·exact plain_7 t n a b w ha hb hn
 ·exact plain_8 t n a b w ha hb hn
end
section
def Rp (B:Nat) (w:World) (a:Option Addr) (cp:Nat) (ss:List By):Prop:=w.ownsRow B 9 1 (.slice a ss.length cp) ss.length (Ax ss)
variable (B:Nat) (o:Nat) (t:By) (n:Nat) (pl:Nat) (sa:Option Addr) (cp:Nat) (stack:List By) (st lk:Nat) (nm place:By) (ra:Option Addr) (rcap:Nat) (ys:List R3) (w:World)
theorem blk3 (o1 o2 o3:Obj):(((w.alloc o1).alloc o2).alloc o3).heap[w.heap.size+1+1]?=some o3/\(((w.alloc o1).alloc o2).alloc o3).heap[w.heap.size+1]?=some o2/\(((w.alloc o1).alloc o2).alloc o3).heap[w.heap.size]?=some o1:=by
 refine⟨?_,?_,?_⟩
 ·have h:=Be ((w.alloc o1).alloc o2) o3;rw[show ((w.alloc o1).alloc o2).heap.size=w.heap.size+1+1 from qg] at h;exact h
 ·rw[Lib.alloc_old _ _ _ qg];have h:=Be (w.alloc o1) o2;rw[show (w.alloc o1).heap.size=w.heap.size+1 from qg] at h;exact h
 ·rw[Lib.alloc_old _ _ _ qh,Lib.alloc_old _ _ _ qg];exact Be w o1
theorem op3 (w:World) (a:Option Addr) (n cap:Nat) (p:Int) (v:Value) (st lo:Int):Bw w (((w.alloc (.cells #[.slice a n cap] 94)).alloc (.cells #[I p,v,I st,I lo,.bool false,I 0,ze,.bool false,ze,.bool false] 195)).alloc (.cells #[I 0,nS,I 0,I 0,.bool false,I 0,ze,.bool false,ze,.bool false] 195))/\(((w.alloc (.cells #[.slice a n cap] 94)).alloc (.cells #[I p,v,I st,I lo,.bool false,I 0,ze,.bool false,ze,.bool false] 195)).alloc (.cells #[I 0,nS,I 0,I 0,.bool false,I 0,ze,.bool false,ze,.bool false] 195)).heap[w.heap.size+1+1]?=some (.cells #[I 0,nS,I 0,I 0,.bool false,I 0,ze,.bool false,ze,.bool false] 195)/\(((w.alloc (.cells #[.slice a n cap] 94)).alloc (.cells #[I p,v,I st,I lo,.bool false,I 0,ze,.bool false,ze,.bool false] 195)).alloc (.cells #[I 0,nS,I 0,I 0,.bool false,I 0,ze,.bool false,ze,.bool false] 195)).heap[w.heap.size+1]?=some (.cells #[I p,v,I st,I lo,.bool false,I 0,ze,.bool false,ze,.bool false] 195)/\(((w.alloc (.cells #[.slice a n cap] 94)).alloc (.cells #[I p,v,I st,I lo,.bool false,I 0,ze,.bool false,ze,.bool false] 195)).alloc (.cells #[I 0,nS,I 0,I 0,.bool false,I 0,ze,.bool false,ze,.bool false] 195)).heap[w.heap.size]?=some (.cells #[.slice a n cap] 94):=⟨((aN _ _).alloc qg _).alloc qh _,blk3 w _ _ _⟩
theorem dcH {p:Nat} {q:By} (eq:Er p=q) (h:p<=1000000):∀ W:World,Calls prog 117 #[I p] W fun e w'=>e=.returned (.string q)/\Bw W w':=fun W=>by rw[<- eq];exact l2Dec_any p W h
theorem look_no (hB:B<=w.heap.size) (cr:nm.size<=2000) (dy:pl<=201) (cz:st<=2000) (pc:lk<=200) (hn:¬ Am nm) :
  Calls prog 135 #[.agg #[I o,.string t,I n],Dt pl (.slice sa stack.length cp) st lk,.string nm,.string place,.slice ra ys.length rcap] w fun e w'=>Below B w w'/\e=.returned (Dx pl (.slice sa stack.length cp) st lk 2 place):=by
 have ip:=Ck hn
 have ak:Bw w (((w.alloc (.cells #[I o,.string t,I n] 128)).alloc (.cells #[I pl,.slice sa stack.length cp,I st,I lk,.bool false,I 0,ze,.bool false,ze,.bool false] 195)).alloc (.cells #[I 0,nS,I 0,I 0,.bool false,I 0,ze,.bool false,ze,.bool false] 195)):=((aN _ _).alloc qg _).alloc qh _
 have th:B<=w.heap.size+1+1:=qb
 have hz:=(blk3 w (.cells #[I o,.string t,I n] 128) (.cells #[I pl,.slice sa stack.length cp,I st,I lk,.bool false,I 0,ze,.bool false,ze,.bool false] 195) (.cells #[I 0,nS,I 0,I 0,.bool false,I 0,ze,.bool false,ze,.bool false] 195)).1
 unfold Dt
 go_enter func135,ntmps135
 go_wp2_with (first|(go_at_call 23;refine(Bx nm _ qb).mono ?_;rintro e w9 ⟨rfl,rfl⟩))
 have hl:=Eo pl sa stack.length cp st lk 2 place
 unfold Dt at hl
 refine(hl _).mono ?_
 rintro e w1 ⟨rfl,af⟩
 have bg:=(bN ak af).mono hB
 have bh:w1.heap[w.heap.size+1+1]?=some (.cells #[I 0,nS,I 0,I 0,.bool false,I 0,ze,.bool false,ze,.bool false] 195 (0,0)):=by rw[af.block _ qg];exact hz
 obtain⟨k0,k1,k2,k3,k4,k5,k6,k7,k8,k9⟩:=Fc bh
 have f0:=fZ bh
 clear hz bh ak af hl
 unfold Dx
 go_wp2_with fail
 exact bR (v:=Dx pl (.slice sa stack.length cp) st lk 2 place) qdq rfl ⟨Pz (bg) th,rfl⟩
theorem look_sp (hB:B<=w.heap.size) (cr:nm.size<=2000) (dy:pl<=201) (cz:st<=2000) (pc:lk<=200) (hn:Am nm) (hl:lk=200) :
  Calls prog 135 #[.agg #[I o,.string t,I n],Dt pl (.slice sa stack.length cp) st lk,.string nm,.string place,.slice ra ys.length rcap] w fun e w'=>Below B w w'/\e=.returned (Dx pl (.slice sa stack.length cp) st lk 3 ⟨#[]⟩):=by
 have ip:=Cu hn
 have d1:((lk:Int) == 200)=true:=qh
 clear hl
 have ak:Bw w (((w.alloc (.cells #[I o,.string t,I n] 128)).alloc (.cells #[I pl,.slice sa stack.length cp,I st,I lk,.bool false,I 0,ze,.bool false,ze,.bool false] 195)).alloc (.cells #[I 0,nS,I 0,I 0,.bool false,I 0,ze,.bool false,ze,.bool false] 195)):=((aN _ _).alloc qg _).alloc qh _
 have th:B<=w.heap.size+1+1:=qb
 have hz:=(blk3 w (.cells #[I o,.string t,I n] 128) (.cells #[I pl,.slice sa stack.length cp,I st,I lk,.bool false,I 0,ze,.bool false,ze,.bool false] 195) (.cells #[I 0,nS,I 0,I 0,.bool false,I 0,ze,.bool false,ze,.bool false] 195)).1
 unfold Dt
 go_enter func135,ntmps135
 go_wp2_with (first|(go_at_call 23;refine(Bx nm _ qb).mono ?_;rintro e w9 ⟨rfl,rfl⟩))
 have hl:=Eo pl sa stack.length cp st lk 3 ⟨#[]⟩
 unfold Dt at hl
 refine(hl _).mono ?_
 rintro e w1 ⟨rfl,af⟩
 have bg:=(bN ak af).mono hB
 have bh:w1.heap[w.heap.size+1+1]?=some (.cells #[I 0,nS,I 0,I 0,.bool false,I 0,ze,.bool false,ze,.bool false] 195 (0,0)):=by rw[af.block _ qg];exact hz
 obtain⟨k0,k1,k2,k3,k4,k5,k6,k7,k8,k9⟩:=Fc bh
 have f0:=fZ bh
 clear hz bh ak af hl
 unfold Dx
 go_wp2_with fail
 exact bR (v:=Dx pl (.slice sa stack.length cp) st lk 3 ⟨#[]⟩) qdq rfl ⟨Pz (bg) th,rfl⟩
theorem look_wt (hB:B<=w.heap.size) (cr:nm.size<=2000) (dy:pl<=201) (cz:st<=2000) (pc:lk<=200) (hn:Am nm) (hl:lk≠200) (hy:ys.length<=lk) :
  Calls prog 135 #[.agg #[I o,.string t,I n],Dt pl (.slice sa stack.length cp) st lk,.string nm,.string place,.slice ra ys.length rcap] w fun e w'=>Below B w w'/\e=.returned (waitV pl (.slice sa stack.length cp) st lk ((o:Int) == 12) nm):=by
 have ip:=Cu hn
 have d1:((lk:Int) == 200)=false:=qh
 have hyI:(ys.length:Int)<=(lk:Int):=qb
 unfold Dt
 go_enter func135,ntmps135
 go_wp2_with (first|(go_at_call 23;refine(Bx nm _ qb).mono ?_;rintro e w9 ⟨rfl,rfl⟩))
 exact bR (v:=waitV pl (.slice sa stack.length cp) st lk ((o:Int) == 12) nm) (by simp[results,results135,go_sem,waitV]) rfl ⟨(((aN _ _).alloc qg _).alloc qh _).mono hB,rfl⟩
theorem blk4 (o1 o2 o3 o4:Obj):((((w.alloc o1).alloc o2).alloc o3).alloc o4).heap[w.heap.size+1+1]?=some o3/\((((w.alloc o1).alloc o2).alloc o3).alloc o4).heap[w.heap.size+1]?=some o2:=by
 obtain⟨h1,h2,h3⟩:=blk3 w o1 o2 o3
 exact⟨by rw[Lib.alloc_old _ _ _ qg];exact h1,by rw[Lib.alloc_old _ _ _ qg];exact h2⟩
theorem look_miss (hB:B<=w.heap.size) (cr:nm.size<=2000) (dy:pl<=201) (cz:st<=2000) (pc:lk<=200) (hn:Am nm) (hl:lk≠200) (hy:lk<ys.length) (G9:ys.length<=200) (hr:Qu w ra ys) (hh:(rx ys lk).has=false) :
  Calls prog 135 #[.agg #[I 12,.string t,I n],Dt pl (.slice sa stack.length cp) st lk,.string nm,.string place,.slice ra ys.length rcap] w fun e w'=>Below B w w'/\e=.returned (Dx pl (.slice sa stack.length cp) st ((lk:Int)+1) 4 nm):=by
 have ip:=Cu hn
 have d1:((lk:Int) == 200)=false:=qh
 have hyI:(lk:Int)<(ys.length:Int):=qb
 obtain⟨b,off,rfl,e1,e2,e3⟩:=hr lk hy
 rw[hh] at e1
 generalize rx ys lk=y at *
 clear hr hn hl
 clear hh
 have me:∀(x y z:Obj) (p:Addr) (v:Value),w.cell? p=some v->(((w.alloc x).alloc y).alloc z).cell? p=some v:=fun x y z p v h=>by
  exact qda
 have a1:=fun x y z=>me x y z _ _ e1
 have a2:=fun x y z=>me x y z _ _ e2
 have a3:=fun x y z=>me x y z _ _ e3
 clear me
 have ak:Bw w ((((w.alloc (.cells #[I 12,.string t,I n] 128)).alloc (.cells #[I pl,.slice sa stack.length cp,I st,I ((lk:Int)+1),.bool false,I 0,ze,.bool false,ze,.bool false] 195)).alloc (.cells #[I 0,nS,I 0,I 0,.bool false,I 0,ze,.bool false,ze,.bool false] 195)).alloc (.cells #[.bool false,I y.code,.string y.text] 169)):=(((aN _ _).alloc qg _).alloc qh _).alloc qh _
 have th:B<=w.heap.size+1+1:=qb
 have hz:=(blk4 w (.cells #[I 12,.string t,I n] 128) (.cells #[I pl,.slice sa stack.length cp,I st,I ((lk:Int)+1),.bool false,I 0,ze,.bool false,ze,.bool false] 195) (.cells #[I 0,nS,I 0,I 0,.bool false,I 0,ze,.bool false,ze,.bool false] 195) (.cells #[.bool false,I y.code,.string y.text] 169)).1
 unfold Dt
 go_enter func135,ntmps135
 go_wp2_with (first|(go_at_call 23;refine(Bx nm _ qb).mono ?_;rintro e w9 ⟨rfl,rfl⟩))
 have hl:=Eo pl sa stack.length cp st ((lk:Int)+1) 4 nm
 unfold Dt at hl
 refine(hl _).mono ?_
 rintro e w1 ⟨rfl,af⟩
 have bg:=(bN ak af).mono hB
 have bh:w1.heap[w.heap.size+1+1]?=some (.cells #[I 0,nS,I 0,I 0,.bool false,I 0,ze,.bool false,ze,.bool false] 195 (0,0)):=by rw[af.block _ qg];exact hz
 obtain⟨k0,k1,k2,k3,k4,k5,k6,k7,k8,k9⟩:=Fc bh
 have f0:=fZ bh
 clear hz bh ak af hl a1 a2 a3
 unfold Dx
 go_wp2_with fail
 exact bR (v:=Dx pl (.slice sa stack.length cp) st ((lk:Int)+1) 4 nm) qdq rfl ⟨Pz (bg) th,rfl⟩
theorem look_below (hB:B<=w.heap.size) (cr:nm.size<=2000) (dy:pl<=201) (cz:st<=2000) (pc:lk<=200) (hn:Am nm) (hl:lk≠200) (hy:lk<ys.length) (G9:ys.length<=200) (hr:Qu w ra ys) (hh:(rx ys lk).has=true) (hcd:(rx ys lk).code≠0) :
  Calls prog 135 #[.agg #[I 12,.string t,I n],Dt pl (.slice sa stack.length cp) st lk,.string nm,.string place,.slice ra ys.length rcap] w fun e w'=>Below B w w'/\e=.returned (Dx pl (.slice sa stack.length cp) st ((lk:Int)+1) 5 nm):=by
 have ip:=Cu hn
 have d1:((lk:Int) == 200)=false:=qh
 have hyI:(lk:Int)<(ys.length:Int):=qb
 obtain⟨b,off,rfl,e1,e2,e3⟩:=hr lk hy
 rw[hh] at e1
 have hcb:((rx ys lk).code == 0)=false:=by simpa using hcd
 generalize rx ys lk=y at *
 clear hr hn hl
 clear hh
 have me:∀(x y z:Obj) (p:Addr) (v:Value),w.cell? p=some v->(((w.alloc x).alloc y).alloc z).cell? p=some v:=fun x y z p v h=>by
  exact qda
 have a1:=fun x y z=>me x y z _ _ e1
 have a2:=fun x y z=>me x y z _ _ e2
 have a3:=fun x y z=>me x y z _ _ e3
 clear me
 have ak:Bw w ((((w.alloc (.cells #[I 12,.string t,I n] 128)).alloc (.cells #[I pl,.slice sa stack.length cp,I st,I ((lk:Int)+1),.bool false,I 0,ze,.bool false,ze,.bool false] 195)).alloc (.cells #[I 0,nS,I 0,I 0,.bool false,I 0,ze,.bool false,ze,.bool false] 195)).alloc (.cells #[.bool true,I y.code,.string y.text] 169)):=(((aN _ _).alloc qg _).alloc qh _).alloc qh _
 have th:B<=w.heap.size+1+1:=qb
 have hz:=(blk4 w (.cells #[I 12,.string t,I n] 128) (.cells #[I pl,.slice sa stack.length cp,I st,I ((lk:Int)+1),.bool false,I 0,ze,.bool false,ze,.bool false] 195) (.cells #[I 0,nS,I 0,I 0,.bool false,I 0,ze,.bool false,ze,.bool false] 195) (.cells #[.bool true,I y.code,.string y.text] 169)).1
 unfold Dt
 go_enter func135,ntmps135
 go_wp2_with (first|(go_at_call 23;refine(Bx nm _ qb).mono ?_;rintro e w9 ⟨rfl,rfl⟩))
 have hl:=Eo pl sa stack.length cp st ((lk:Int)+1) 5 nm
 unfold Dt at hl
 refine(hl _).mono ?_
 rintro e w1 ⟨rfl,af⟩
 have bg:=(bN ak af).mono hB
 have bh:w1.heap[w.heap.size+1+1]?=some (.cells #[I 0,nS,I 0,I 0,.bool false,I 0,ze,.bool false,ze,.bool false] 195 (0,0)):=by rw[af.block _ qg];exact hz
 obtain⟨k0,k1,k2,k3,k4,k5,k6,k7,k8,k9⟩:=Fc bh
 have f0:=fZ bh
 clear hz bh ak af hl a1 a2 a3
 unfold Dx
 go_wp2_with fail
 exact bR (v:=Dx pl (.slice sa stack.length cp) st ((lk:Int)+1) 5 nm) qdq rfl ⟨Pz (bg) th,rfl⟩
theorem Gg {B:Nat} {w:World} {v:Value} {n:Nat} {xs:List Value} {b:Nat} (h:w.ownsRow B 9 1 v n xs/\∃ cs,w.heap[b]?=some (.cells cs 195 (0,0))) (j:Nat) (x:Value) :
  (w.setCell ⟨b,j,none⟩ x).ownsRow B 9 1 v n xs/\∃ cs,(w.setCell ⟨b,j,none⟩ x).heap[b]?=some (.cells cs 195 (0,0)):=by
 obtain⟨ho,cs,hb⟩:=h
 refine⟨⟨ho.1,?_⟩,_,jB hb x⟩
 have hne:=Gv qd hb ho
 rcases ho.2 with h0|⟨g,cap,cur,hv,hg,hh,r⟩
 ·exact Or.inl h0
 ·refine Or.inr ⟨g,cap,cur,hv,hg,?_,r⟩;rw[hC w ⟨b,j,none⟩ _ g qcl];exact hh
theorem look_text (hB:B<=w.heap.size) (cr:nm.size<=2000) (dy:pl<=201) (cz:st<=2000) (pc:lk<=200) (hn:Am nm) (hl:lk≠200) (hy:lk<ys.length) (G9:ys.length<=200) (hr:Qu w ra ys) (hh:(rx ys lk).has=true) (hcd:(rx ys lk).code=0) (ah:Rp B w sa cp stack) (t6:stack.length<50) :
  Calls prog 135 #[.agg #[I 12,.string t,I n],Dt pl (.slice sa stack.length cp) st lk,.string nm,.string place,.slice ra ys.length rcap] w fun e w'=>Below B w w'/\∃ a' om,e=.returned (Dt pl (.slice a' (stack.length+1) om) st ((lk:Int)+1))/\Rp B w' a' om (stack++[(rx ys lk).text]):=by
 have ip:=Cu hn
 have d1:((lk:Int) == 200)=false:=qh
 have hyI:(lk:Int)<(ys.length:Int):=qb
 obtain⟨b,off,rfl,e1,e2,e3⟩:=hr lk hy
 rw[hh] at e1
 rw[hcd] at e2
 generalize rx ys lk=y at *
 clear hr hn hl
 clear hh
 have me:∀(x y z:Obj) (p:Addr) (v:Value),w.cell? p=some v->(((w.alloc x).alloc y).alloc z).cell? p=some v:=fun x y z p v h=>by
  exact qda
 have a1:=fun x y z=>me x y z _ _ e1
 have a2:=fun x y z=>me x y z _ _ e2
 have a3:=fun x y z=>me x y z _ _ e3
 clear me
 have ak:Bw w ((((w.alloc (.cells #[I 12,.string t,I n] 128)).alloc (.cells #[I pl,.slice sa stack.length cp,I st,I ((lk:Int)+1),.bool false,I 0,ze,.bool false,ze,.bool false] 195)).alloc (.cells #[I 0,nS,I 0,I 0,.bool false,I 0,ze,.bool false,ze,.bool false] 195)).alloc (.cells #[.bool true,I 0,.string y.text] 169)):=(((aN _ _).alloc qg _).alloc qh _).alloc qh _
 have th:B<=w.heap.size+1+1:=qb
 have hR1:B<=w.heap.size+1:=qb
 have hz:=blk4 w (.cells #[I 12,.string t,I n] 128) (.cells #[I pl,.slice sa stack.length cp,I st,I ((lk:Int)+1),.bool false,I 0,ze,.bool false,ze,.bool false] 195) (.cells #[I 0,nS,I 0,I 0,.bool false,I 0,ze,.bool false,ze,.bool false] 195) (.cells #[.bool true,I 0,.string y.text] 169)
 have ke:=((((ah.alloc (.cells #[I 12,.string t,I n] 128)).alloc (.cells #[I pl,.slice sa stack.length cp,I st,I ((lk:Int)+1),.bool false,I 0,ze,.bool false,ze,.bool false] 195)).alloc (.cells #[I 0,nS,I 0,I 0,.bool false,I 0,ze,.bool false,ze,.bool false] 195)).alloc (.cells #[.bool true,I 0,.string y.text] 169)).alloc (.cells #[.string y.text] 9)
 obtain⟨i0,hi,bp,G5,G4⟩:=info_parts Tryz.info9b
 unfold Rp at ah
 unfold Dt
 go_enter func135,ntmps135
 go_wp2_with (first|(go_at_call 23;refine(Bx nm _ qb).mono ?_;rintro e w9 ⟨rfl,rfl⟩)|(at_builtin;refine wpList_append_own _ rfl (.tmp 70) (.tmp 73) 22 rfl B 9 i0 ze 1 16 underlying22 hi bp G5 G4 rfl qd _ _ _ rfl ke ⟨w.heap.size+1+1+1+1,0,none⟩ 1 1 [.string y.text] rfl rfl ?_ qaf qm qb qh ?_;(focus (have:=cell_one_new ((((w.alloc (.cells #[I 12,.string t,I n] 128)).alloc (.cells #[I pl,.slice sa stack.length cp,I st,I ((lk:Int)+1),.bool false,I 0,ze,.bool false,ze,.bool false] 195)).alloc (.cells #[I 0,nS,I 0,I 0,.bool false,I 0,ze,.bool false,ze,.bool false] 195)).alloc (.cells #[.bool true,I 0,.string y.text] 169)) (.string y.text) 9;simpa using this));intro v' w2 ba ae dp;clear dp;have ll:w2.heap[w.heap.size+1]?=some (.cells #[I pl,.slice sa stack.length cp,I st,I ((lk:Int)+1),.bool false,I 0,ze,.bool false,ze,.bool false] 195 (0,0)):=Ff ae (fun b' cs' T' I7 F3=>Gv I7 qbe ke) _ _ 195 qd hz.2;have ox:w2.heap[w.heap.size+1+1]?=some (.cells #[I 0,nS,I 0,I 0,.bool false,I 0,ze,.bool false,ze,.bool false] 195 (0,0)):=Ff ae (fun b' cs' T' I7 F3=>Gv I7 qbe ke) _ _ 195 qd hz.1;have fg:Below B w w2:=((ak.mono hB).alloc qh _).grown ae qh (fun k hk=>(ah.lt k hk).1);obtain⟨g',nr,Q5⟩:∃ g cap,v'=.slice (p_ g) (stack.length+1) cap:=(by rcases ba.2 with ⟨_,h0⟩|⟨g,cap,cur,hv,_⟩;omega;exact⟨g,cap,hv⟩);rw[Q5] at ba ⊢;have k0:=cH ox 0;have k1:=cH ox 1;have k2:=cH ox 2;have k3:=cH ox 3;have k4:=cH ox 4;have k5:=cH ox 5;have k6:=cH ox 6;have k7:=cH ox 7;have k8:=cH ox 8;have k9:=cH ox 9;simp only[gA,gB,gC] at k0 k1 k2 k3 k4 k5 k6 k7 k8 k9;have m0:=cH ll 0;have m1:=cH ll 1;have m2:=cH ll 2;have m3:=cH ll 3;have m4:=cH ll 4;have m5:=cH ll 5;have m6:=cH ll 6;have m7:=cH ll 7;have m8:=cH ll 8;have m9:=cH ll 9;simp only[gA,gB,gC] at m0 m1 m2 m3 m4 m5 m6 m7 m8 m9;have f0:∀ j,w2.frozen? ⟨w.heap.size+1+1,j,none⟩=false:=(fun j=>fH ox j);have f1:∀ j,w2.frozen? ⟨w.heap.size+1,j,none⟩=false:=(fun j=>fH ll j);have lz:Hd (w2.heap[w.heap.size+1]?=some (.cells #[I pl,.slice sa stack.length cp,I st,I ((lk:Int)+1),.bool false,I 0,ze,.bool false,ze,.bool false] 195 (0,0))):=ll;have F9:Hd (w2.heap[w.heap.size+1+1]?=some (.cells #[I 0,nS,I 0,I 0,.bool false,I 0,ze,.bool false,ze,.bool false] 195 (0,0))):=ox;have J4:Hd (w2.ownsRow B 9 1 (.slice (p_ g') (stack.length+1) nr) (stack.length+1) (Ax stack++[.string y.text])):=ba;clear ll ox ba ae a1 a2 a3))
 refine bR (v:=Dt pl (.slice (p_ g') (stack.length+1) nr) st ((lk:Int)+1)) (by simp[results,results135,go_sem,Dt,k0,k1,k2,k3,k4,k5,k6,k7,k8,k9]) rfl ⟨Pz ((fg.setCell (p:=⟨w.heap.size+1,1,none⟩) hR1 _)) th,_,_,rfl,?_⟩
 have h1:=Gg ⟨J4.o,_,lz.o⟩ 1 (.slice (p_ g') (stack.length+1) nr)
 have h2:∃ cs,(w2.setCell ⟨w.heap.size+1,1,none⟩ (.slice (p_ g') (stack.length+1) nr)).heap[w.heap.size+1+1]?=some (.cells cs 195 (0,0)):=⟨_,by rw[hC w2 ⟨w.heap.size+1,1,none⟩ _ _ qg];exact F9.o⟩
 have e:Ax (stack++[y.text])=Ax stack++[.string y.text]:=qai
 exact qja
end
end Go.Proofs.YtfgoholldpeabaaGreatDoor
