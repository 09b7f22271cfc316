import Derived.Test.YtjlnkepkkdefdaaGreatDoorTImI
import Derived.Defers
import Derived.Recover
import Derived.Test.YtjlnkepkkdefdaaGreatDoorTImD
import Derived.Test.YtjlnkepkkdefdaaGreatDoorTChkS
namespace Go.Proofs.YtjlnkepkkdefdaaGreatDoor
open Go.RowKit
set_option linter.unusedVariables false
set_option maxHeartbeats 8000000
set_option maxRecDepth 100000
set_option linter.unusedSimpArgs false
section
open Go.Deep
theorem Rf (O:Nat) (c:Int) (t:ByteArray) (ca:Option Addr) (cn cc:Nat) (older:List PanicEntry) (w:World) (hO:w.heap[O]?=some (.cells #[.bool false,.int .i64 0,.string ⟨#[]⟩,.slice none 0 0,.string ⟨#[]⟩,.slice none 0 0] 59 (0,0))) :
  CallsD Tryz.prog 74 #[.pointer (some ⟨O,0,none⟩)] (.panicking ({ v:=.iface 141 (.agg #[.int .i64 c,.string t,.slice ca cn cc]),recovered:=false } :: older)) w fun e u' w'=>
   e=.returned (.tuple #[])/\u'=.panicking ({ v:=.iface 141 (.agg #[.int .i64 c,.string t,.slice ca cn cc]),recovered:=true } :: older)/\w'=((((((w.setCell ⟨O,0,none⟩ (.bool false)).setCell ⟨O,1,none⟩ (.int .i64 c)).setCell ⟨O,2,none⟩ (.string t)).setCell ⟨O,3,none⟩ (.slice ca cn cc)).setCell ⟨O,4,none⟩ (.string ⟨#[]⟩)).setCell ⟨O,5,none⟩ (.slice none 0 0)).alloc (.cells #[.int .i64 c,.string t,.slice ca cn cc] 141):=by
 refine callsD_of_wpS Tryz.func74 rfl fun c₀ cs hu=>?_
 apply wpS_seq
 apply wpS_region
 simp[wpOpsS,go_sem,recoverD,hu,Tryz.ntmps74,Exit.thenS]
 obtain⟨⟨z0,z1,z2,z3,z4,z5⟩,zf⟩:=Nu hO
 have hOl:O<w.heap.size:=Af hO
 have hta:∀ w:World,(Instr.typeAssert (.iface 141 (.agg #[.int .i64 c,.string t,.slice ca cn cc])) 20 141 true).run Tryz.prog w=.ok (.tuple #[.agg #[.int .i64 c,.string t,.slice ca cn cc],.bool true]) w:=fun w=>by kernel_rfl
 have hfr:∀(p x:Value),#[p]++(((Array.replicate 15 undef).setIfInBounds 3 x).setIfInBounds 0 x)=#[p,x,undef,undef,x,undef,undef,undef,undef,undef,undef,undef,undef,undef,undef,undef]:=fun p x=>rfl
 refine wpS_of_wp ?_
 rw[hfr]
 go_wp2_with fail
 simp[bodyPostS,results,Tryz.results74]
theorem catch_idle (O:Nat) (w:World) :
  CallsD Tryz.prog 74 #[.pointer (some ⟨O,0,none⟩)] .returning w fun e u' w'=>e=.returned (.tuple #[])/\u'=.returning/\w'=w.alloc (.cells #[.int .i64 0,.string ⟨#[]⟩,.slice none 0 0] 141):=by
 refine callsD_of_wpS Tryz.func74 rfl fun c₀ cs hu=>?_
 apply wpS_seq
 apply wpS_region
 simp[wpOpsS,go_sem,recoverD,hu,Tryz.ntmps74,Exit.thenS]
 have hta:∀ w:World,(Instr.typeAssert .nilIface 20 141 true).run Tryz.prog w=.ok (.tuple #[.agg #[.int .i64 0,.string ⟨#[]⟩,.slice none 0 0],.bool false]) w:=fun w=>by kernel_rfl
 have hne:∀ w:World,(binOp BinOp.neq 20 .nilIface .nilIface).run Tryz.prog w=.ok (.bool false) w:=fun _=>by kernel_rfl
 have hfr:∀(p x:Value),#[p]++(((Array.replicate 15 undef).setIfInBounds 3 x).setIfInBounds 0 x)=#[p,x,undef,undef,x,undef,undef,undef,undef,undef,undef,undef,undef,undef,undef,undef]:=fun p x=>rfl
 refine wpS_of_wp ?_
 rw[hfr]
 go_wp2_with fail
 cases c₀
 simp_all [bodyPostS,results,Tryz.results74]
theorem Ie.kept {B:Nat} {w w':World} {a:Um} {v:Value} (h:Ie B w a v) (hk:∀(b:Nat) (cur:Array Value),w.heap[b]?=some (Obj.cells cur 9 (0,0))->w'.heap[b]?=w.heap[b]?):Ie B w' a v:=by
 cases a with
 | ok d=>exact absurd h id
 | circle ch=>
  obtain⟨ca,cn,cc,e,ho⟩:=h;exact⟨ca,cn,cc,e,Cn ho fun b' q=>by obtain⟨_,cur,hh⟩:=Ef ho q;exact hk b' cur hh⟩
 | deep nm=>exact h
def FirstP (B h mb:Nat) (sv tv fv:Value) (ss:List S2) (ts:List T2) (nm:ByteArray) (w:World) (e:Ending) (w':World):Prop:=
 Below B w w'/\∃ ms' a,Av ss ts [] [] (.make nm) ms' a/\((∃ d lv,a=.ok d/\e=.returned (Ik d lv)/\Ar w' B lv d.ls)\/(∃ c t ca cn cc,e=.returned (.agg #[.bool false,.int .i64 c,.string t,.slice ca cn cc,.string ⟨#[]⟩,.slice none 0 0])/\Ie B w' a (.agg #[.int .i64 c,.string t,.slice ca cn cc])))
theorem Ie.parts {B:Nat} {w:World} {a:Um} {v:Value} (h:Ie B w a v):∃ c t ca cn cc,v=.agg #[.int .i64 c,.string t,.slice ca cn cc]:=by
 cases a with
 | ok d=>exact absurd h id
 | circle ch=>obtain⟨ca,cn,cc,e,_⟩:=h;exact⟨_,_,_,_,_,e⟩
 | deep nm=>exact⟨_,_,_,_,_,h⟩
theorem first_any (W0:World) (h mb:Nat) (sa ta:Option Addr) (c1 c2:Nat) (ss:List S2) (ts:List T2) (nm:ByteArray) (w:World) (hE:Jt W0 sa ta ss ts) (hT:Jr W0) (hP:Ld W0) (hnm:Aq nm)
  (s:Ml W0.heap.size h mb (.slice sa ss.length c1) (.slice ta ts.length c2) (.func (.func 73) #[.pointer (some ⟨h,0,none⟩)] #[]) w [] [] (.slice none 0 0) (.slice none 0 0) (fun _=>.slice none 0 0)) (hW:Below W0.heap.size W0 w) :
  Calls Tryz.prog 42 #[.pointer (some ⟨h,0,none⟩),.string nm] w fun e w'=>FirstP W0.heap.size h mb (.slice sa ss.length c1) (.slice ta ts.length c2) (.func (.func 73) #[.pointer (some ⟨h,0,none⟩)] #[]) ss ts nm w e w':=by
 have hB:=hW.size
 have hhw:h<w.heap.size:=Af s.blk
 have hmf:∀(fn:Fn) (first cap:Array Value) (w:World),(Instr.makeFunc fn first cap).run Tryz.prog w=.ok (.func fn first cap) w:=fun _ _ _ _=>rfl
 obtain⟨W,eW⟩:∃ W,w.alloc (.cells #[.bool false,.int .i64 0,.string ⟨#[]⟩,.slice none 0 0,.string ⟨#[]⟩,.slice none 0 0] 59)=W:=⟨_,rfl⟩
 have hbW:Below w.heap.size w W:=by rw[<- eW];exact Ak _ _
 have HOB:Hd (W.heap[w.heap.size]?=some (.cells #[.bool false,.int .i64 0,.string ⟨#[]⟩,.slice none 0 0,.string ⟨#[]⟩,.slice none 0 0] 59 (0,0))):=by
  show _=_;rw[<- eW];exact Aj _ _
 have HSW:Hd (Ml W0.heap.size h mb (.slice sa ss.length c1) (.slice ta ts.length c2) (.func (.func 73) #[.pointer (some ⟨h,0,none⟩)] #[]) W [] [] (.slice none 0 0) (.slice none 0 0) (fun _=>.slice none 0 0)):=s.bl hbW
 have hphi:phi ts []<=0:=by simp[phi,Ii,Eo]
 have HU:Hd (Calls Tryz.prog 75 #[.pointer (some ⟨h,0,none⟩),.string nm] W fun e w'=>Ql W0.heap.size h mb (.slice sa ss.length c1) (.slice ta ts.length c2) (.func (.func 73) #[.pointer (some ⟨h,0,none⟩)] #[]) ss ts [] [] (.slice none 0 0) (.slice none 0 0) (fun _=>.slice none 0 0) nm W e w'):=under_all W0 h mb sa ta c1 c2 ss ts hE hT hP 60 [] rfl (by simp) W [] nm _ _ _ HSW.o (Ja.nil ss ts) hnm hphi (hW.trans (hbW.mono hB))
 have HB:Hd (Below W0.heap.size w W):=hbW.mono hB
 have HLK:Hd (∀ ms' d,Av ss ts [] [] (.make nm) ms' (.ok d)->lk ms' nm=some (some d)):=fun ms' d hd=>(Av.inv hE.v hd (Ja.nil ss ts) hnm trivial d rfl).2.2
 clear s hW hE hT hP hnm hbW hphi
 go_enter_defers Tryz.func42,Tryz.ntmps42
 go_wp2_with fail
 refine HU.o.mono ?_
 rintro e w4 ⟨hk4,ms',an,hdo,⟨⟨dc,dt,dls⟩,av',kv',vs',rfl,rfl,hs4,ha4,hkk4,hf4⟩|⟨v,rfl,hv⟩⟩
 ·have hO4:w4.heap[w.heap.size]?=some (.cells #[.bool false,.int .i64 0,.string ⟨#[]⟩,.slice none 0 0,.string ⟨#[]⟩,.slice none 0 0] 59 (0,0)):=by
   obtain⟨n,_,hm⟩:=HSW.o.map;rw[hk4.keep _ (Af HOB.o) (by omega) (fun e=>hm.notCells (e▸HOB.o)) (by simp[Value.ownBlock]) (by simp[Value.ownBlock])];exact HOB.o
  have hlo:=hs4.lks nm _ (HLK.o _ _ hdo);obtain⟨la,ln,lc,hlv⟩:=Jj hlo;rw[hlv] at hlo;obtain⟨fo,efo⟩:∃ fo,Bn dc dt=fo:=⟨_,rfl⟩;have EF:Hd (Bn dc dt=fo):=efo;unfold Ik;simp only[efo,hlv];have HO4:Hd _:=hO4;have HLO:Hd (Ar w4 W0.heap.size (.slice la ln lc) dls):=hlo;have HDO:Hd (Av ss ts [] [] (.make nm) ms' (.ok ⟨dc,dt,dls⟩)/\Below W0.heap.size w w4):=⟨hdo,HB.o.trans hk4.bl⟩;obtain⟨⟨z0,z1,z2,z3,z4,z5⟩,zf⟩:=Nu hO4;clear hk4 hdo hs4 ha4 hkk4 hf4 hlo hO4 hlv efo eW;go_wp2_with fail;refine leaves_cons (f:=74) (args:=#[.pointer (some ⟨w.heap.size,0,none⟩)]) (by simp) (by simp[go_sem]) ?_;refine(catch_idle w.heap.size _).mono ?_;rintro e u' w'' ⟨rfl,rfl,rfl⟩;have e7:=Ag (Ak _ (.cells #[.int .i64 0,.string ⟨#[]⟩,.slice none 0 0] 141)) (Fq HO4.o (.bool true) (.int .i64 dc) (.string dt) (.slice none 0 0) (.string fo) (.slice la ln lc));obtain⟨⟨y0,y1,y2,y3,y4,y5⟩,_⟩:=Nu e7;have hlo2:Ar _ W0.heap.size (.slice la ln lc) dls:=(HLO.o.keptB (fun b q=>Dl (w:=w4) (b:=w.heap.size) (fun e=>by obtain⟨xs,k1,_⟩:=HLO.o;subst e;exact Ad k1 (by decide) HO4.o q) (.bool true) (.int .i64 dc) (.string dt) (.slice none 0 0) (.string fo) (.slice la ln lc))).bl (Ak _ (.cells #[.int .i64 0,.string ⟨#[]⟩,.slice none 0 0] 141));have hbl:Below W0.heap.size w _:=Dg HDO.o.2 (b:=w.heap.size) hB (.bool true) (.int .i64 dc) (.string dt) (.slice none 0 0) (.string fo) (.slice la ln lc);refine⟨Ik ⟨dc,dt,dls⟩ (.slice la ln lc),by simp[results,Tryz.results42,go_sem,Ik,EF.o,y0,y1,y2,y3,y4,y5],hbl.trans ((Ak _ _).mono (Nat.le_trans hB hbl.size)),ms',_,HDO.o.1,Or.inl ⟨_,_,rfl,rfl,hlo2⟩⟩
 ·obtain⟨c,t,ca,cn,cc,rfl⟩:=hv.parts;unfold Ty;dsimp only
  have hO4:w4.heap[w.heap.size]?=some (.cells #[.bool false,.int .i64 0,.string ⟨#[]⟩,.slice none 0 0,.string ⟨#[]⟩,.slice none 0 0] 59 (0,0)):=by
   obtain⟨n,_,hm⟩:=HSW.o.map;rw[hk4.keep _ (Af HOB.o) (by omega) (fun e=>hm.notCells (e▸HOB.o)) (by simp[Value.ownBlock]) (by simp[Value.ownBlock])];exact HOB.o
  have HO4:Hd _:=hO4;have HDV:Hd (Av ss ts [] [] (.make nm) ms' an/\Ie W0.heap.size w4 an (.agg #[.int .i64 c,.string t,.slice ca cn cc])/\Below W0.heap.size w w4):=⟨hdo,hv,HB.o.trans hk4.bl⟩;clear hk4 hdo hv hO4 eW;go_wp2_with fail;refine leaves_cons (f:=74) (args:=#[.pointer (some ⟨w.heap.size,0,none⟩)]) (by simp) (by simp[go_sem]) ?_;refine(Rf w.heap.size c t ca cn cc [] _ HO4.o).mono ?_;rintro e u' w'' ⟨rfl,rfl,rfl⟩;have e7:=Ag (Ak _ (.cells #[.int .i64 c,.string t,.slice ca cn cc] 141)) (Fq HO4.o (.bool false) (.int .i64 c) (.string t) (.slice ca cn cc) (.string ⟨#[]⟩) (.slice none 0 0));obtain⟨⟨y0,y1,y2,y3,y4,y5⟩,_⟩:=Nu e7;have hbl:Below W0.heap.size w _:=Dg HDV.o.2.2 (b:=w.heap.size) hB (.bool false) (.int .i64 c) (.string t) (.slice ca cn cc) (.string ⟨#[]⟩) (.slice none 0 0);have hen1:Ie W0.heap.size _ an (.agg #[.int .i64 c,.string t,.slice ca cn cc]):=Ie.kept HDV.o.2.1 (fun b cur q=>Dl (w:=w4) (b:=w.heap.size) (fun e=>by subst e;have q2:=HO4.o;rw[q] at q2;injection q2 with q2;injection q2 with _ q2;exact absurd q2 (by decide)) (.bool false) (.int .i64 c) (.string t) (.slice ca cn cc) (.string ⟨#[]⟩) (.slice none 0 0));have hen:=Ie.bl hen1 (Ak _ (.cells #[.int .i64 c,.string t,.slice ca cn cc] 141));refine⟨.agg #[.bool false,.int .i64 c,.string t,.slice ca cn cc,.string ⟨#[]⟩,.slice none 0 0],by simp[results,Tryz.results42,go_sem,y0,y1,y2,y3,y4,y5],hbl.trans ((Ak _ _).mono (Nat.le_trans hB hbl.size)),ms',an,HDV.o.1,Or.inr ⟨c,t,ca,cn,cc,rfl,hen⟩⟩
end
section
open Go.Deep
structure Done (B h:Nat) (sv tv:Value) (w:World) (ms:Ms) (mv kv:Value) (vs:Nat->Value) (d:Md):Prop where
 blk:w.heap[h]?=some (.cells #[sv,tv,mv,kv,.int .i64 d.c,.string d.t,.slice none 0 0,.bool false] 69 (0,0))
 row:w.ownsRow B 72 6 mv ms.length (Ox ms vs)
 lks:∀ i d,i<ms.length->(mx ms i).2=some d->Ar w B (vs i) d.ls
theorem Yv (sa ta:Option Addr) (c1 c2:Nat) (ss:List S2) (ts:List T2) (nm:ByteArray) (w:World) (hE:Jt w sa ta ss ts) (hnm:Aq nm) :
  Calls Tryz.prog 20 #[.agg #[.slice sa ss.length c1,.slice ta ts.length c2],.string nm] w fun e w'=>Below w.heap.size w w'/\∃ h ms' a,e=.returned (.pointer (some ⟨h,0,none⟩))/\w.heap.size<=h/\Av ss ts [] [] (.make nm) ms' a/\((∃ d mv kv vs,a=.ok d/\Done w.heap.size h (.slice sa ss.length c1) (.slice ta ts.length c2) w' ms' mv kv vs d)\/(∃ v,Ff h (.slice sa ss.length c1) (.slice ta ts.length c2) w' a v)):=by
 obtain⟨W,eW⟩:∃ W,(w.alloc (.cells #[.slice sa ss.length c1,.slice ta ts.length c2] 26)).alloc (.cells #[.slice sa ss.length c1,.slice ta ts.length c2,.slice none 0 0,.slice none 0 0,.int .i64 0,.string ⟨#[]⟩,.slice none 0 0,.bool false] 69)=W:=⟨_,rfl⟩
 have hb0:Below w.heap.size w W:=by rw[<- eW];exact(aN _ _).alloc (by simp) _
 have hblk:W.heap[w.heap.size+1]?=some (.cells #[.slice sa ss.length c1,.slice ta ts.length c2,.slice none 0 0,.slice none 0 0,.int .i64 0,.string ⟨#[]⟩,.slice none 0 0,.bool false] 69 (0,0)):=by
  rw[<- eW];have h:=Aj (w.alloc (.cells #[.slice sa ss.length c1,.slice ta ts.length c2] 26)) (.cells #[.slice sa ss.length c1,.slice ta ts.length c2,.slice none 0 0,.slice none 0 0,.int .i64 0,.string ⟨#[]⟩,.slice none 0 0,.bool false] 69);rw[show (w.alloc (.cells #[.slice sa ss.length c1,.slice ta ts.length c2] 26)).heap.size=w.heap.size+1 from by simp] at h;exact h
 have hs:Bh w.heap.size (w.heap.size+1) (.slice sa ss.length c1) (.slice ta ts.length c2) W [] [] (.slice none 0 0) (.slice none 0 0) (fun _=>.slice none 0 0):=⟨by omega,hblk,⟨rfl,Or.inl ⟨rfl,rfl⟩⟩,⟨rfl,Or.inl ⟨rfl,rfl⟩⟩,fun i d hi=>by simp at hi⟩
 have hphi:phi ts []<=0:=by simp[phi,Ii,Eo]
 have HMK:Hd (Calls Tryz.prog 45 #[.pointer (some ⟨w.heap.size+1,0,none⟩),.string nm] W _):=make_all w (w.heap.size+1) sa ta c1 c2 ss ts hE 60 [] rfl (by simp) W [] nm _ _ _ hs (Ja.nil ss ts) hnm hphi hb0
 have HB0:Hd (Below w.heap.size w W):=hb0
 clear hb0 hblk hs hphi hE hnm
 go_enter Tryz.func20,Tryz.ntmps20
 go_wp2_with fail
 refine HMK.o.mono ?_
 rintro e w2 ⟨hk,ms',an,hdo,⟨d,mv,kv,vs',rfl,rfl,hs2,hfr⟩|⟨v,rfl,hdead⟩⟩
 ·obtain⟨⟨x0,x1,x2,x3⟩,⟨x4,x5,x6,x7⟩,xf⟩:=bk8 hs2.blk;have hh2:w.heap.size+1<w2.heap.size:=Af hs2.blk;have HS2:Hd (Bh w.heap.size (w.heap.size+1) (.slice sa ss.length c1) (.slice ta ts.length c2) w2 ms' [] mv kv vs'):=hs2
  have HDO:Hd (Av ss ts [] [] (.make nm) ms' (.ok d)):=hdo
  have HB2:Hd (Below w.heap.size w w2):=HB0.o.trans hk.bl;obtain⟨dc,dt,dls⟩:=d;clear hs2 hdo hk hfr eW;go_wp2_with fail;have hbA:∀ V:World,∀ o:Obj,Below V.heap.size V (V.alloc o):=fun V o=>aN _ _;have a1:=jB HS2.o.blk (.int .i64 dc) (i:=4);have a2:=jB a1 (.string dt) (i:=5);have a3:=jB a2 (.slice none 0 0) (i:=6);have hrow:=Da (Da (Da HS2.o.row HS2.o.blk (by decide) 4 (.int .i64 dc)) a1 (by decide) 5 (.string dt)) a2 (by decide) 6 (.slice none 0 0);have hbl:Below w.heap.size w (((w2.setCell ⟨w.heap.size+1,4,none⟩ (.int .i64 dc)).setCell ⟨w.heap.size+1,5,none⟩ (.string dt)).setCell ⟨w.heap.size+1,6,none⟩ (.slice none 0 0)):=((HB2.o.setCell (p:=⟨w.heap.size+1,4,none⟩) (by simp) _).setCell (p:=⟨w.heap.size+1,5,none⟩) (by simp) _).setCell (p:=⟨w.heap.size+1,6,none⟩) (by simp) _;exact bR (v:=.pointer (some ⟨w.heap.size+1,0,none⟩)) (by simp[results,Tryz.results20,go_sem]) rfl ⟨hbl.trans ((hbA _ _).mono (by have:=hbl.size;omega)),_,ms',_,rfl,by omega,HDO.o,Or.inl ⟨⟨dc,dt,dls⟩,mv,kv,vs',rfl,Ag (hbA _ _) (a3.trans rfl),Ac hrow (hbA _ _),fun i d hi hd=>((((HS2.o.lks i d hi hd).set HS2.o.blk (by decide) 4 (.int .i64 dc)).set a1 (by decide) 5 (.string dt)).set a2 (by decide) 6 (.slice none 0 0)).bl (hbA _ _)⟩⟩
 ·have HDD:Hd (Ff (w.heap.size+1) (.slice sa ss.length c1) (.slice ta ts.length c2) w2 an v):=hdead
  have HDO:Hd (Av ss ts [] [] (.make nm) ms' an):=hdo
  have HB2:Hd (Below w.heap.size w w2):=HB0.o.trans hk.bl;obtain⟨mv3,kv3,c,tt,ca,cn,cc,hblk,rfl⟩:=hdead.o;obtain⟨⟨x0,x1,x2,x3⟩,⟨x4,x5,x6,x7⟩,xf⟩:=bk8 hblk;have hh2:w.heap.size+1<w2.heap.size:=Af hblk;clear hdead hdo hk eW hblk;go_wp2_with fail;have hbA:∀ V:World,∀ o:Obj,Below V.heap.size V (V.alloc o):=fun V o=>aN _ _;exact bR (v:=.pointer (some ⟨w.heap.size+1,0,none⟩)) (by simp[results,Tryz.results20,go_sem]) rfl ⟨HB2.o.trans ((hbA _ _).mono (by have:=HB2.o.size;omega)),_,ms',an,rfl,by omega,HDO.o,Or.inr ⟨_,HDD.o.bl (hbA _ _)⟩⟩
end
section
open Go.Deep
theorem Sj (c:Int) (t:ByteArray) (w:World) :
  Calls Tryz.prog 21 #[.agg #[.int .i64 c,.string t,.slice none 0 0]] w fun e w'=>Below w.heap.size w w'/\∃ g,e=.returned (.agg #[.int .i64 c,.string t,.slice (some ⟨g,0,none⟩) 0 0]):=by
 go_enter Tryz.func21,Tryz.ntmps21
 go_wp2_with fail
 go_region
 go_wp2_with fail
 have hb:Below w.heap.size w (((w.alloc (.cells #[.int .i64 c,.string t,.slice none 0 0] 32)).alloc (.cells #[.int .i64 c,.string t,.slice (some ⟨w.heap.size+1+1,0,none⟩) 0 0] 32)).alloc (.cells #[] 9)).drew:=(((aN _ _).alloc (by simp) _).alloc (by simp;omega) _).drew
 exact bR (v:=.agg #[.int .i64 c,.string t,.slice (some ⟨w.heap.size+1+1,0,none⟩) 0 0]) (by simp[results,Tryz.results21,go_sem]) rfl ⟨hb,_,rfl⟩
theorem l3Copy_row (c:Int) (t:ByteArray) (ch:List ByteArray) (base g cp:Nat) (w:World) (hn:0<ch.length) (h60:ch.length<=60) (ho:w.ownsRow base 9 1 (.slice (some ⟨g,0,none⟩) ch.length cp) ch.length (Bf ch)) :
  Calls Tryz.prog 21 #[.agg #[.int .i64 c,.string t,.slice (some ⟨g,0,none⟩) ch.length cp]] w fun e w'=>Below w.heap.size w w'/\∃ g' cp',e=.returned (.agg #[.int .i64 c,.string t,.slice (some ⟨g',0,none⟩) ch.length cp'])/\w'.ownsRow w.heap.size 9 1 (.slice (some ⟨g',0,none⟩) ch.length cp') ch.length (Bf ch):=by
 obtain⟨i9,hi9,hz9,hs9,hb9⟩:=info_parts Tryz.info9b
 obtain⟨X,eX⟩:∃ X,((w.alloc (.cells #[.int .i64 c,.string t,.slice (some ⟨g,0,none⟩) ch.length cp] 32)).alloc (.cells #[.int .i64 0,.string ⟨#[]⟩,.slice none 0 0] 32))=X:=⟨_,rfl⟩
 have hbX:Below w.heap.size w X:=by rw[<- eX];exact(aN _ _).alloc (by simp) _
 have hXs:X.heap.size=w.heap.size+1+1:=by rw[<- eX];simp
 have HR:Hd (∀ o:Obj,(X.alloc o).heap[w.heap.size+1]?=some (.cells #[.int .i64 0,.string ⟨#[]⟩,.slice none 0 0] 32 (0,0))):=fun o=>by
  rw[Lib.alloc_old _ _ _ (by omega),<- eX];have h:=Aj (w.alloc (.cells #[.int .i64 c,.string t,.slice (some ⟨g,0,none⟩) ch.length cp] 32)) (.cells #[.int .i64 0,.string ⟨#[]⟩,.slice none 0 0] 32);rw[show (w.alloc (.cells #[.int .i64 c,.string t,.slice (some ⟨g,0,none⟩) ch.length cp] 32)).heap.size=w.heap.size+1 from by simp] at h;exact h
 have HP:Hd (∀ o:Obj,(X.alloc o).heap[w.heap.size]?=some (.cells #[.int .i64 c,.string t,.slice (some ⟨g,0,none⟩) ch.length cp] 32 (0,0))):=fun o=>by
  rw[Lib.alloc_old _ _ _ (by omega),<- eX,Lib.alloc_old _ _ _ (by simp)];exact Aj _ _
 have HO:Hd ((X.alloc (.cells #[] 9)).ownsRow w.heap.size 9 1 (.slice (some ⟨w.heap.size+1+1,0,none⟩) 0 0) 0 []):=by
  have h:=World.ownsRow_lit (base:=w.heap.size) (e:=9) (size:=1) X #[] 0 (by omega) (by unfold maxLen;omega) rfl;rw[hXs] at h;exact h
 have HNW:Hd (∀ j u,(Bf ch)[j]?=some u->(X.alloc (.cells #[] 9)).cell? ((⟨g,0,none⟩:Addr).add j)=some u):=fun j u hu=>by
  have o2:=(Ac ho hbX).alloc (.cells #[] 9);exact o2.cells (g:=g) (by simp[Value.ownBlock]) j u hu
 have HBX:Hd (Below w.heap.size w (X.alloc (.cells #[] 9))):=hbX.alloc (by omega) _
 have HXS:Hd ((X.alloc (.cells #[] 9)).heap.size=w.heap.size+1+1+1):=by show _=_;simp;omega
 have hlen:(Bf ch).length=ch.length*1:=by simp[Bf]
 have HLEN:Hd ((Bf ch).length=ch.length*1):=hlen
 clear ho hbX hXs hlen
 go_enter Tryz.func21,Tryz.ntmps21
 subst eX
 go_wp2_with fail
 go_region_law (first|(refine step_append_lies (w:=_) rfl (.tmp 7) (.tmp 9) 30 rfl w.heap.size 9 i9 (.string ⟨#[]⟩) 1 16 Tryz.underlying30 hi9 hz9 hs9 hb9 rfl (by decide) (.slice (some ⟨w.heap.size+1+1,0,none⟩) 0 0) 0 [] rfl HO.o ⟨g,0,none⟩ ch.length cp (Bf ch) rfl HLEN.o HNW.o (by intro u hu;obtain⟨z,_,rfl⟩:=List.mem_map.mp hu;rfl) hn (by unfold maxLen;omega) (by omega) (by simp;omega) _ rfl ?_;intro g' cap' w5 hown5 hgrow5 hat5 hlt5;have hgr:World.grownBy _ w5 _:=(⟨hgrow5.os,hgrow5.tape,hgrow5.output,hgrow5.size,hgrow5.block⟩:World.grownBy (((w.alloc (.cells #[.int .i64 c,.string t,.slice (some ⟨g,0,none⟩) ch.length cp] 32)).alloc (.cells #[.int .i64 0,.string ⟨#[]⟩,.slice none 0 0] 32)).alloc (.cells #[] 9)) w5 _);have HR5:Hd (w5.heap[w.heap.size+1]?=some (.cells #[.int .i64 0,.string ⟨#[]⟩,.slice none 0 0] 32 (0,0))):=Fh HO.o hgr (by decide) (HR.o _);have HB5:Hd (Below w.heap.size w w5):=HBX.o.grown hgr (by simp;omega) (fun k hk=>(HO.o.lt k hk).1);have HO5:Hd (w5.ownsRow w.heap.size 9 1 (.slice (some ⟨g',0,none⟩) (0+ch.length) cap') (0+ch.length) ([]++Bf ch)):=hown5;obtain⟨z0,z1,z2,zf⟩:=Gi HR5.o;obtain⟨p0,p1,p2,pf⟩:=Gi (Fh HO.o hgr (by decide) (HP.o _));clear hgr hown5 hgrow5 hat5 hlt5))
 all_goals
  go_wp2_with fail;rw[Nat.zero_add,List.nil_append] at HO5;have hb:=Bc HB5.o (b:=w.heap.size+1) (by omega) (.int .i64 c) (.string t) (.slice (some ⟨g',0,none⟩) ch.length cap');have e3:=Cz HR5.o (.int .i64 c) (.string t) (.slice (some ⟨g',0,none⟩) ch.length cap');have e1:=jB HR5.o (.int .i64 c) (i:=0);have e2:=jB e1 (.string t) (i:=1);have ho:=Da (Da (Da HO5.o HR5.o (by decide) 0 (.int .i64 c)) e1 (by decide) 1 (.string t)) e2 (by decide) 2 (.slice (some ⟨g',0,none⟩) ch.length cap');obtain⟨v0,v1,v2,_⟩:=Gi e3;exact bR (v:=.agg #[.int .i64 c,.string t,.slice (some ⟨g',0,none⟩) ch.length cap']) (by simp[results,Tryz.results21,go_sem,v0,v1,v2]) rfl ⟨hb,g',cap',rfl,ho⟩
end
section
open Go.Deep
theorem Qh {w:World} {sa ta:Option Addr} {ss:List S2} {ts:List T2} (h:Mx w sa ss ta ts) (hc:Iw ss ts=0):Jt w sa ta ss ts:=by
 unfold Iw at hc
 split at hc
 ·omega
 ·rename_i h1
  split at hc
  ·omega
  ·rename_i h2
   split at hc
   ·omega
   ·rename_i h3
    split at hc
    ·omega
    ·rename_i h4
     split at hc
     ·omega
     ·rename_i h5
      split at hc
      ·omega
      ·rename_i h6
       split at hc
       ·omega
       ·rename_i h7
        have h2:=Classical.not_not.mp h2;have h3:=Classical.not_not.mp h3;have h4:=Classical.not_not.mp h4;have h6:=Classical.not_not.mp h6;have h7:=Classical.not_not.mp h7;refine⟨h.rs,h.rt,⟨h3,h4,?_,?_,?_,?_⟩,by omega,by omega,?_⟩
        ·rintro nm ⟨i,hi,e⟩ hn;exact h5 ⟨i,hi,by rw[e];exact hn⟩
        ·exact h6
        ·exact h7
        ·intro i hi;have hq:=h2.2 i (by rw[Bj];exact hi);rw[Df] at hq;unfold Cu at hq;simpa using hq
        ·intro i j;have:=h.xt i j;unfold maxLen at this;omega
theorem Av.circle_len {ss:List S2} {ts:List T2} {ms:Ms} {st:List ByteArray} {j:Job} {ms':Ms} {a:Um} (h:Av ss ts ms st j ms' a):st.length<=60->∀ ch,a=.circle ch->0<ch.length/\ch.length<=60:=by
 induction h with
 | known=>intro _ ch e;cases e
 | circle h1 h2 h3 h4=>intro hs ch e;cases e;rw[List.length_drop];omega
 | source=>intro _ ch e;cases e
 | missing=>intro _ ch e;cases e
 | deep=>intro _ ch e;cases e
 | made=>intro _ ch e;cases e
 | fell h1 h2 h3 h4 h5 _ _ ih=>intro hs ch e;exact ih (by simp;omega) ch e
 | over=>intro _ ch e;cases e
 | has _ _ ih=>intro hs ch e;exact ih hs ch e
 | asked _ _ _ _ ih=>intro hs ch e;exact ih hs ch e
 | askfell _ _ _ ih=>intro hs ch e;exact ih hs ch e
def CleanP (ss:List S2) (ts:List T2) (nm:ByteArray) (c:Int) (t:ByteArray) (ch:List ByteArray):Prop:=
 (¬ (Iw ss ts=0/\Cu nm=true)/\c=9/\t=⟨#[]⟩/\ch=[])\/(Iw ss ts=0/\Cu nm=true/\∃ ms a,Av ss ts [] [] (.make nm) ms a/\(match a with|.ok d=>c=d.c/\t=d.t/\ch=[]|.circle l=>c=6/\t=⟨#[]⟩/\ch=l|.deep x=>c=7/\t=x/\ch=[]))
theorem Mx.bl {w w':World} {sa ta:Option Addr} {ss:List S2} {ts:List T2} (h:Mx w sa ss ta ts) (hb:Below w.heap.size w w'):Mx w' sa ss ta ts:=⟨h.rs.bl hb,h.rt.bl hb,h.ls,h.lt,h.ns,h.xs,h.nt,h.lc,h.xt⟩
theorem Kj (w:World) (a:Option Addr):Cp w a []:=fun i hi=>by simp at hi
theorem Xg {w:World} {base g cp:Nat} {ch:List ByteArray} (h:w.ownsRow base 9 1 (.slice (some ⟨g,0,none⟩) ch.length cp) ch.length (Bf ch)):Cp w (some ⟨g,0,none⟩) ch:=fun i hi=>⟨g,0,rfl,by rw[Nat.zero_add,h.cellAt i (by omega),Xj ch i hi];rfl⟩
end
end Go.Proofs.YtjlnkepkkdefdaaGreatDoor
