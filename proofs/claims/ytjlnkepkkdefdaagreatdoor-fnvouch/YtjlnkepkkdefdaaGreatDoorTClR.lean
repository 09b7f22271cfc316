import Derived.Test.YtjlnkepkkdefdaaGreatDoorTMkT
import Derived.Test.YtjlnkepkkdefdaaGreatDoorTOrd
namespace Go.Proofs.YtjlnkepkkdefdaaGreatDoor
open Go.RowKit
set_option linter.unusedVariables false
set_option linter.unusedSimpArgs false
set_option maxHeartbeats 8000000
set_option maxRecDepth 100000
section
open Go.Deep
theorem Kl (w:World) (a:Option Addr):Ks w a []:=fun i hi=>by simp at hi
theorem Sa {w:World} {B n:Nat} {a:Option Addr} {cap:Nat} {ls:List G3} (h:Ar w B (.slice a n cap) ls):n=ls.length/\Ks w a ls:=by
 obtain⟨xs,h1,h2⟩:=h
 rcases h1.2 with ⟨e,h0⟩|⟨g,cp,cur,e,_⟩
 ·simp only[Value.slice.injEq] at e;exact⟨by omega,fun i hi=>by omega⟩
 ·simp only[Value.slice.injEq] at e;obtain⟨rfl,rfl,rfl⟩:=e;refine⟨rfl,fun i hi=>⟨g,0,rfl,?_⟩⟩;obtain⟨k1,k2,k3⟩:=h2 i hi;refine⟨?_,?_,?_⟩
  ·rw[Nat.zero_add,h1.cellAt _ (by omega)];exact k1
  ·rw[Nat.zero_add,h1.cellAt _ (by omega)];exact k2
  ·rw[Nat.zero_add,h1.cellAt _ (by omega)];exact k3
theorem lk_first {ms:Ms} {nm:ByteArray} {o:Option Md} (h:lk ms nm=some o):∃ k,k<ms.length/\(mx ms k).1=nm/\(∀ j,j<k->(mx ms j).1≠nm)/\(mx ms k).2=o:=by
 induction ms with
 | nil=>cases h
 | cons e r ih=>
  obtain⟨a,x⟩:=e
  by_cases ha:a=nm
  ·subst ha;rw[Du] at h;cases h;exact⟨0,by simp,rfl,fun j hj=>by omega,rfl⟩
  ·rw[Bt ha] at h;obtain⟨k,k1,k2,k3,k4⟩:=ih h;refine⟨k+1,by simpa using k1,by rw[Dt];exact k2,fun j hj=>?_,by rw[Dt];exact k4⟩
   cases j with
   | zero=>exact ha
   | succ j=>rw[Dt];exact k3 j (by omega)
theorem Sy (c:Int) (t:ByteArray) (w:World):Calls Tryz.prog 21 #[.agg #[.int .i64 c,.string t,.slice none 0 0]] w fun e w'=>∃ v,e=.returned v/\(Below w.heap.size w w'/\∃ g,v=.agg #[.int .i64 c,.string t,.slice (some ⟨g,0,none⟩) 0 0]):=
 (Sj c t w).mono fun e w' ⟨hb,g,he⟩=>⟨_,he,hb,g,rfl⟩
theorem Zs {ls:List G3} {xs:List Value} (h:Fe ls ls.length xs) (hl:xs.length=ls.length*3):∀ u∈xs,u.oneCell'=true:=fun u hu=>by
 obtain⟨i,hi,rfl⟩:=List.getElem_of_mem hu
 have h3:i / 3<ls.length:=by omega
 obtain⟨k1,k2,k3⟩:=h (i / 3) h3
 have hm:i=i / 3*3\/i=i / 3*3+1\/i=i / 3*3+2:=by omega
 rcases hm with q|q|q
 ·have:=k1;rw[<- q,gQ hi] at this;injection this with this;rw[this];rfl
 ·have:=k2;rw[<- q,gQ hi] at this;injection this with this;rw[this];rfl
 ·have:=k3;rw[<- q,gQ hi] at this;injection this with this;rw[this];rfl
theorem far_grown' {base e sz n:Nat} {V w':World} {v:Value} {xs:List Value} (ho:V.ownsRow base e sz v n xs) (hg:V.grownBy w' v.ownBlock) {b:Nat} {cs:Array Value} {T:TypeId} (h:T≠e/\V.heap[b]?=some (.cells cs T (0,0))):w'.heap[b]?=V.heap[b]?:=by rw[Fh ho hg h.1 h.2,h.2]
def TrailS (ss:List S2) (ts:List T2) (nm:ByteArray) (w:World) (e:Ending) (w':World):Prop:=
 Below w.heap.size w w'/\∃ ls c t ch ca cc la lc,e=.returned (.tuple #[.slice la ls.length lc,.agg #[.int .i64 c,.string t,.slice ca ch.length cc]])/\Dh ss ts nm ls c t ch/\Cp w' ca ch/\Ks w' la ls
theorem Tv (sa ta:Option Addr) (c1 c2:Nat) (ss:List S2) (ts:List T2) (nm:ByteArray) (w:World) (h:Mx w sa ss ta ts) (hsm:Mu ss ts) (hn:nm.size<=9223372036854775807) :
  Calls Tryz.prog 7 #[.agg #[.slice sa ss.length c1,.slice ta ts.length c2],.string nm] w fun e w'=>TrailS ss ts nm w e w':=by
 obtain⟨W0,eW0⟩:∃ W0,(w.alloc (.cells #[.slice sa ss.length c1,.slice ta ts.length c2] 26)).alloc (.cells #[.int .i64 0,.string ⟨#[]⟩,.slice none 0 0] 32)=W0:=⟨_,rfl⟩
 have hW0s:W0.heap.size=w.heap.size+1+1:=by rw[<- eW0];simp
 obtain⟨W,eW⟩:∃ W,W0.alloc (.cells #[] 45)=W:=⟨_,rfl⟩
 have hb00:Below w.heap.size w W0:=by rw[<- eW0];exact Bo (Ak _ _) (Ak _ _)
 have hb0:Below w.heap.size w W:=by rw[<- eW];exact Bo hb00 (Ak _ _)
 have HRB:Hd (W.heap[w.heap.size+1]?=some (.cells #[.int .i64 0,.string ⟨#[]⟩,.slice none 0 0] 32 (0,0))):=by
  show _=_;rw[<- eW,Lib.alloc_old _ _ _ (by omega),<- eW0];have h:=Aj (w.alloc (.cells #[.slice sa ss.length c1,.slice ta ts.length c2] 26)) (.cells #[.int .i64 0,.string ⟨#[]⟩,.slice none 0 0] 32);rw[show (w.alloc (.cells #[.slice sa ss.length c1,.slice ta ts.length c2] 26)).heap.size=w.heap.size+1 from by simp] at h;exact h
 have HPB:Hd (W.heap[w.heap.size]?=some (.cells #[.slice sa ss.length c1,.slice ta ts.length c2] 26 (0,0))):=by
  show _=_;rw[<- eW,Lib.alloc_old _ _ _ (by omega),<- eW0,Lib.alloc_old _ _ _ (by simp)];exact Aj _ _
 have HNB:Hd (W.ownsRow w.heap.size 45 3 (.slice (some ⟨w.heap.size+1+1,0,none⟩) 0 0) 0 []):=by
  have h:=World.ownsRow_lit (base:=w.heap.size) (e:=45) (size:=3) W0 #[] 0 (by omega) (by unfold maxLen;omega) rfl;rw[eW,hW0s] at h;exact h
 have hW9:w.heap.size+1<W.heap.size:=Af HRB.o
 have p0:W.cell? ⟨w.heap.size,0,none⟩=some (.slice sa ss.length c1):=by rw[cH HPB.o];rfl
 have p1:W.cell? ⟨w.heap.size,1,none⟩=some (.slice ta ts.length c2):=by rw[cH HPB.o];rfl
 have HCK:Hd (Calls Tryz.prog 18 #[.agg #[.slice sa ss.length c1,.slice ta ts.length c2]] W _):=Tw sa ta c1 c2 ss ts W (h.bl hb0) hsm
 have HB0:Hd (Below w.heap.size w W):=hb0
 have HOK:Hd (Mx w sa ss ta ts):=h
 have EW0:Hd (W0.heap.size=w.heap.size+1+1):=hW0s
 clear h hb0 hb00 hsm
 go_enter Tryz.func7,Tryz.ntmps7
 go_wp2_with fail
 refine HCK.o.mono ?_
 rintro e w1 ⟨hb1,rfl⟩
 have HB1:Hd (Below w.heap.size w w1):=HB0.o.trans (hb1.mono (by omega))
 have HR1:Hd (w1.heap[w.heap.size+1]?=some (.cells #[.int .i64 0,.string ⟨#[]⟩,.slice none 0 0] 32 (0,0))):=Ag hb1 HRB.o
 have HP1:Hd (w1.heap[w.heap.size]?=some (.cells #[.slice sa ss.length c1,.slice ta ts.length c2] 26 (0,0))):=Ag hb1 HPB.o
 have HN1:Hd (w1.ownsRow w.heap.size 45 3 (.slice (some ⟨w.heap.size+1+1,0,none⟩) 0 0) 0 []):=Ac HNB.o hb1
 obtain⟨z0,z1,z2,zf⟩:=Gi HR1.o
 have q0:w1.cell? ⟨w.heap.size,0,none⟩=some (.slice sa ss.length c1):=by rw[cH HP1.o];rfl
 have q1:w1.cell? ⟨w.heap.size,1,none⟩=some (.slice ta ts.length c2):=by rw[cH HP1.o];rfl
 clear hb1 p0 p1 eW eW0 hW0s HCK
 dsimp only
 by_cases hc:Iw ss ts=0
 ·by_cases hnb:Cu nm=true
  ·have hE:=Qh (HOK.o.bl HB1.o) hc;have hnk:Aq nm:=by unfold Cu at hnb;simpa using hnb
   have HLC:Hd (Calls Tryz.prog 20 #[.agg #[.slice sa ss.length c1,.slice ta ts.length c2],.string nm] w1 _):=Yv sa ta c1 c2 ss ts nm w1 hE hnk;have HCC:Hd (Iw ss ts=0/\Cu nm=true):=⟨hc,hnb⟩
   have HLK:Hd (∀ ms' d,Av ss ts [] [] (.make nm) ms' (.ok d)->lk ms' nm=some (some d)/\d.ls.length<=200/\ms'.length<=40001):=fun ms' d hd=>by
    obtain⟨i1,_,i3⟩:=Av.inv hE.v hd (Ja.nil ss ts) hnk trivial d rfl;have hph:=Av.phi_le hE.v hd hnk (Ja.nil ss ts) trivial;(have hphi:phi ts []=0:=by simp[phi,Ii,Eo]);simp only at hph;exact⟨i3,(i1.done nm d i3).ls,Ol i1 hE.l2 (by omega)⟩
   rw[hc];clear hE hnk hc
   go_wp2_with (first|(go_at_call 19;refine(Db nm _ hn).mono ?_;rintro e w9 ⟨rfl,rfl⟩;rw[hnb]))
   refine HLC.o.mono ?_;rintro e w2 ⟨hb2,h,ms',a,rfl,hh,hdo,ho⟩;have HR2:Hd (w2.heap[w.heap.size+1]?=some (.cells #[.int .i64 0,.string ⟨#[]⟩,.slice none 0 0] 32 (0,0))):=Ag hb2 HR1.o;have HN2:Hd (w2.ownsRow w.heap.size 45 3 (.slice (some ⟨w.heap.size+1+1,0,none⟩) 0 0) 0 []):=Ac HN1.o hb2;have HB2:Hd (Below w.heap.size w w2):=HB1.o.trans (hb2.mono (by have:=HB1.o.size;omega));have hs2:w.heap.size<=w2.heap.size:=HB2.o.size;have hs1:w.heap.size<=w1.heap.size:=HB1.o.size;clear hb2 z0 z1 z2 zf q0 q1
   rcases ho with ⟨d,mv,kv,vs,rfl,hdn⟩|⟨v,mv,kv,c,t,chv,hblk,rfl,k⟩
   ·obtain⟨hlk,hl200,hml⟩:=HLK.o _ _ hdo
    obtain⟨k,hk,hkn,hkf,hkd⟩:=lk_first hlk;obtain⟨U,eU⟩:∃ U,w2.drew=U:=⟨_,rfl⟩;(have hbU:Below w2.heap.size w2 U:=by rw[<- eU];exact(Below.refl _ _).drew);have hblkU:=Ag hbU hdn.blk;have hrowU:=Ac hdn.row hbU;have HLO:Ar U w1.heap.size (vs k) d.ls:=(hdn.lks k d hk hkd).bl hbU;obtain⟨⟨x0,x1,x2,x3⟩,⟨x4,x5,x6,x7⟩,xf⟩:=bk8 hblkU
    have HFD:Hd (Calls Tryz.prog 22 #[.pointer (some ⟨h,0,none⟩),.string nm] U fun e w'=>∃ v,e=.returned v/\(v=.int .i64 (k:Nat)/\w'=U)):=by
     refine(find_done w1.heap.size h ms' mv vs nm U x2 hrowU (by omega)).mono ?_;rintro e w' ⟨rfl,⟨i,rfl,i1,i2,i3⟩|⟨rfl,i1⟩⟩
     ·rcases Nat.lt_trichotomy i k with q|q|q
      ·exact absurd i2 (hkf i q)
      ·subst q;exact⟨_,rfl,rfl,rfl⟩
      ·exact absurd hkn (i3 k q)
     ·exact absurd hkn (i1 k hk)
    obtain⟨ma,mc,rfl,hat⟩:=row_at hrowU;obtain⟨mg,rfl,hc6⟩:=hat k hk;obtain⟨mcur,hmcur⟩:∃ cur,U.heap[mg]?=some (Obj.cells cur 72 (0,0)):=(Ef hrowU (b:=mg) (by simp[Value.ownBlock])).2;have HMW:Hd ((72:Nat)≠45/\U.heap[mg]?=some (.cells mcur 72 (0,0))):=⟨by decide,hmcur⟩;clear hmcur
    have hcell:U.cell? ⟨mg,k*6+4,none⟩=some (vs k):=by
     rw[hc6 4 (by omega)];unfold Vz;rw[hkd];rfl
    have HTP:Hd (Dh ss ts nm d.ls d.c d.t []):=Or.inr ⟨HCC.o.1,HCC.o.2,_,_,hdo,rfl,rfl,rfl,rfl⟩;(have hkI:(k:Int)<(ms'.length:Int):=by omega);have HR3:Hd (U.heap[w.heap.size+1]?=some (.cells #[.int .i64 0,.string ⟨#[]⟩,.slice none 0 0] 32 (0,0))):=Ag hbU HR2.o;have HNU:Hd (U.ownsRow w.heap.size 45 3 (.slice (some ⟨w.heap.size+1+1,0,none⟩) 0 0) 0 []):=Ac HN2.o hbU;have HBU:Hd (Below w.heap.size w U):=HB2.o.trans (hbU.mono hs2);have HBL:Hd (U.heap[h]?=some (.cells #[.slice sa ss.length c1,.slice ta ts.length c2,.slice (some ⟨mg,0,none⟩) ms'.length mc,kv,.int .i64 d.c,.string d.t,.slice none 0 0,.bool false] 69 (0,0))):=hblkU;have HLU:Hd (Ar U w1.heap.size (vs k) d.ls):=HLO;(have x7':w2.cell? ⟨h,7,none⟩=some (.bool false):=by rw[cH hdn.blk];rfl);obtain⟨dc,dt,dls⟩:=d;have hsU:w.heap.size<=U.heap.size:=HBU.o.size;obtain⟨lv,elv⟩:∃ lv,vs k=lv:=⟨_,rfl⟩;rw[elv] at hcell HLU;clear hbU hblkU hrowU HLO hat hc6 hdn hlk hkn hkf hkd hdo HR2 HN2 elv
    go_upto_region 7 with fail
    clear x7';obtain⟨xs,HLr,HLf⟩:=HLU.o
    rcases HLr.2 with ⟨rfl,hl0⟩|⟨lg,lcp,lcur,rfl,hlg⟩
    ·have hls0:dls=[]:=List.length_eq_zero_iff.mp hl0;subst hls0;refine Lt.begin 18 (fun w'=>w'.cell? ⟨h,2,none⟩=some (.slice (some ⟨mg,0,none⟩) ms'.length mc)/\w'.cell? ⟨h,4,none⟩=some (.int .i64 dc)/\w'.cell? ⟨h,5,none⟩=some (.string dt)/\w'.cell? ⟨h,6,none⟩=some (.slice none 0 0)/\w'.cell? ⟨mg,k*6+4,none⟩=some (.slice none 0 0)) (by kernel_rfl) ?_;rw[eU];have hS0:U.cell? ⟨h,2,none⟩=some (.slice (some ⟨mg,0,none⟩) ms'.length mc)/\U.cell? ⟨h,4,none⟩=some (.int .i64 dc)/\U.cell? ⟨h,5,none⟩=some (.string dt)/\U.cell? ⟨h,6,none⟩=some (.slice none 0 0)/\U.cell? ⟨mg,k*6+4,none⟩=some (.slice none 0 0):=⟨x2,x4,x5,x6,hcell⟩;change K 0 _
     iterate 7
      refine Lt.ti (v:=?_) hS0 ?_ ?_;rotate_left 1
      ·intro w hSw;(try dsimp only at hSw);go_simp;first|done|with_reducible rfl
      simp only[gX]
     change K 12 _
     iterate 4
      refine Lt.ti (v:=?_) hS0 ?_ ?_;rotate_left 1
      ·intro w hSw;(try dsimp only at hSw);go_simp;first|done|with_reducible rfl
      simp only[gX]
     refine Lt.sp (i:=7) (fun K hK=>?_);refine Nl (f:=22) rfl rfl (.pointer (some ⟨h,0,none⟩)) (.string nm) rfl rfl HFD.o (fun W=>by simp[go_sem]) ?_;rintro v w' ⟨hv',hw'⟩;rw[hv',hw'];refine hK.out _ _ (fun _=>hS0) (fun _=>?_);clear hK K hv' hw';simp only[gX];change K 8 _
     iterate 3
      refine Lt.ti (v:=?_) hS0 ?_ ?_;rotate_left 1
      ·intro w hSw;(try dsimp only at hSw);go_simp;first|done|with_reducible rfl
      simp only[gX]
     refine Lt.sp (i:=11) (fun K hK=>?_);go_simp;refine hK.out _ _ (fun _=>hS0) (fun hS5=>?_);replace hS5:=hS5 (by decide);clear hK K;have HR5:Hd (U.heap[w.heap.size+1]?=some (.cells #[.int .i64 0,.string ⟨#[]⟩,.slice none 0 0] 32 (0,0))):=HR3.o;have HB5:Hd (Below w.heap.size w U):=HBU.o
     try simp only[gX]
     refine Lt.sp (i:=16) (fun K hK=>?_);refine Nm (f:=21) rfl rfl (.agg #[.int .i64 dc,.string dt,.slice none 0 0]) rfl (Sy dc dt _) (fun W=>by simp[go_sem]) ?_;rintro v w6 ⟨hb6,g6,hv6⟩;rw[hv6];have HR6:Hd (w6.heap[w.heap.size+1]?=some (.cells #[.int .i64 0,.string ⟨#[]⟩,.slice none 0 0] 32 (0,0))):=Ag hb6 HR5.o;have HB6:Hd (Below w.heap.size w w6):=Bo HB5.o hb6;refine hK.out _ _ (fun _=>⟨Ab hb6 hS5.1,Ab hb6 hS5.2.1,Ab hb6 hS5.2.2.1,Ab hb6 hS5.2.2.2.1,Ab hb6 hS5.2.2.2.2⟩) (fun hS6=>?_);replace hS6:=hS6 (by decide);clear hK K hS5 hv6;simp only[gX];refine Lt.ti (i:=17) (v:=?_) hS6 ?_ ?_;rotate_left 1
     ·intro w hSw;(try dsimp only at hSw);go_simp;first|done|with_reducible rfl
     simp only[gX];obtain⟨r0,r1,r2,rf⟩:=Gi HR6.o;clear hb6;refine Lt.sp (i:=18) (fun K hK=>?_);go_simp;refine hK.out _ _ (fun h=>absurd rfl h) (fun _=>?_);clear hK K hS6;refine Lt.done (by kernel_rfl) ?_ _;go_wp2_with fail;have hb:=Bc HB6.o (b:=w.heap.size+1) (by omega) (.int .i64 dc) (.string dt) (.slice (some ⟨g6,0,none⟩) 0 0);obtain⟨v0,v1,v2,_⟩:=Gi (Cz HR6.o (.int .i64 dc) (.string dt) (.slice (some ⟨g6,0,none⟩) 0 0));exact bR (v:=.tuple #[.slice (some ⟨w.heap.size+1+1,0,none⟩) ([]:List G3).length 0,.agg #[.int .i64 dc,.string dt,.slice (some ⟨g6,0,none⟩) 0 0]]) (by simp[results,Tryz.results7,go_sem,v0,v1,v2]) rfl ⟨hb,[],dc,dt,[],some ⟨g6,0,none⟩,0,_,_,rfl,HTP.o,Kj _ _,Kl _ _⟩
    ·by_cases hl0:dls.length=0
     ·have hls0:dls=[]:=List.length_eq_zero_iff.mp hl0;subst hls0;refine Lt.begin 18 (fun w'=>w'.cell? ⟨h,2,none⟩=some (.slice (some ⟨mg,0,none⟩) ms'.length mc)/\w'.cell? ⟨h,4,none⟩=some (.int .i64 dc)/\w'.cell? ⟨h,5,none⟩=some (.string dt)/\w'.cell? ⟨h,6,none⟩=some (.slice none 0 0)/\w'.cell? ⟨mg,k*6+4,none⟩=some (.slice (some ⟨lg,0,none⟩) 0 lcp)) (by kernel_rfl) ?_;rw[eU];have hS0:U.cell? ⟨h,2,none⟩=some (.slice (some ⟨mg,0,none⟩) ms'.length mc)/\U.cell? ⟨h,4,none⟩=some (.int .i64 dc)/\U.cell? ⟨h,5,none⟩=some (.string dt)/\U.cell? ⟨h,6,none⟩=some (.slice none 0 0)/\U.cell? ⟨mg,k*6+4,none⟩=some (.slice (some ⟨lg,0,none⟩) 0 lcp):=⟨x2,x4,x5,x6,hcell⟩;change K 0 _
      iterate 7
       refine Lt.ti (v:=?_) hS0 ?_ ?_;rotate_left 1
       ·intro w hSw;(try dsimp only at hSw);go_simp;first|done|with_reducible rfl
       simp only[gX]
      change K 12 _
      iterate 4
       refine Lt.ti (v:=?_) hS0 ?_ ?_;rotate_left 1
       ·intro w hSw;(try dsimp only at hSw);go_simp;first|done|with_reducible rfl
       simp only[gX]
      refine Lt.sp (i:=7) (fun K hK=>?_);refine Nl (f:=22) rfl rfl (.pointer (some ⟨h,0,none⟩)) (.string nm) rfl rfl HFD.o (fun W=>by simp[go_sem]) ?_;rintro v w' ⟨hv',hw'⟩;rw[hv',hw'];refine hK.out _ _ (fun _=>hS0) (fun _=>?_);clear hK K hv' hw';simp only[gX];change K 8 _
      iterate 3
       refine Lt.ti (v:=?_) hS0 ?_ ?_;rotate_left 1
       ·intro w hSw;(try dsimp only at hSw);go_simp;first|done|with_reducible rfl
       simp only[gX]
      refine Lt.sp (i:=11) (fun K hK=>?_);go_simp;refine hK.out _ _ (fun _=>hS0) (fun hS5=>?_);replace hS5:=hS5 (by decide);clear hK K;have HR5:Hd (U.heap[w.heap.size+1]?=some (.cells #[.int .i64 0,.string ⟨#[]⟩,.slice none 0 0] 32 (0,0))):=HR3.o;have HB5:Hd (Below w.heap.size w U):=HBU.o
      try simp only[gX]
      refine Lt.sp (i:=16) (fun K hK=>?_);refine Nm (f:=21) rfl rfl (.agg #[.int .i64 dc,.string dt,.slice none 0 0]) rfl (Sy dc dt _) (fun W=>by simp[go_sem]) ?_;rintro v w6 ⟨hb6,g6,hv6⟩;rw[hv6];have HR6:Hd (w6.heap[w.heap.size+1]?=some (.cells #[.int .i64 0,.string ⟨#[]⟩,.slice none 0 0] 32 (0,0))):=Ag hb6 HR5.o;have HB6:Hd (Below w.heap.size w w6):=Bo HB5.o hb6;refine hK.out _ _ (fun _=>⟨Ab hb6 hS5.1,Ab hb6 hS5.2.1,Ab hb6 hS5.2.2.1,Ab hb6 hS5.2.2.2.1,Ab hb6 hS5.2.2.2.2⟩) (fun hS6=>?_);replace hS6:=hS6 (by decide);clear hK K hS5 hv6;simp only[gX];refine Lt.ti (i:=17) (v:=?_) hS6 ?_ ?_;rotate_left 1
      ·intro w hSw;(try dsimp only at hSw);go_simp;first|done|with_reducible rfl
      simp only[gX];obtain⟨r0,r1,r2,rf⟩:=Gi HR6.o;clear hb6;refine Lt.sp (i:=18) (fun K hK=>?_);go_simp;refine hK.out _ _ (fun h=>absurd rfl h) (fun _=>?_);clear hK K hS6;refine Lt.done (by kernel_rfl) ?_ _;go_wp2_with fail;have hb:=Bc HB6.o (b:=w.heap.size+1) (by omega) (.int .i64 dc) (.string dt) (.slice (some ⟨g6,0,none⟩) 0 0);obtain⟨v0,v1,v2,_⟩:=Gi (Cz HR6.o (.int .i64 dc) (.string dt) (.slice (some ⟨g6,0,none⟩) 0 0));exact bR (v:=.tuple #[.slice (some ⟨w.heap.size+1+1,0,none⟩) ([]:List G3).length 0,.agg #[.int .i64 dc,.string dt,.slice (some ⟨g6,0,none⟩) 0 0]]) (by simp[results,Tryz.results7,go_sem,v0,v1,v2]) rfl ⟨hb,[],dc,dt,[],some ⟨g6,0,none⟩,0,_,_,rfl,HTP.o,Kj _ _,Kl _ _⟩
     ·(have HN0:Hd (0<dls.length):=by show _<_;omega);have HRW:Hd (U.ownsRow w1.heap.size 45 3 (.slice (some ⟨lg,0,none⟩) dls.length lcp) dls.length xs):=HLr;have HFL:Hd (Fe dls dls.length xs):=HLf;have HCE:Hd (∀ u∈xs,u.oneCell'=true):=fun u hu=>Zs HLf HLr.1 u hu
      have HMG:Hd (∀ w5,U.grownBy w5 (some (w.heap.size+1+1))->w5.cell? ⟨mg,k*6+4,none⟩=some (.slice (some ⟨lg,0,none⟩) dls.length lcp)):=fun w5 hg=>by
       have hm:=HMW.o;rw[Vg (far_grown' HNU.o hg hm)];exact hcell
      clear HLr HLf hlg HLU;refine Lt.begin 18 (fun w'=>w'.cell? ⟨h,2,none⟩=some (.slice (some ⟨mg,0,none⟩) ms'.length mc)/\w'.cell? ⟨h,4,none⟩=some (.int .i64 dc)/\w'.cell? ⟨h,5,none⟩=some (.string dt)/\w'.cell? ⟨h,6,none⟩=some (.slice none 0 0)/\w'.cell? ⟨mg,k*6+4,none⟩=some (.slice (some ⟨lg,0,none⟩) dls.length lcp)) (by kernel_rfl) ?_;rw[eU];have hS0:U.cell? ⟨h,2,none⟩=some (.slice (some ⟨mg,0,none⟩) ms'.length mc)/\U.cell? ⟨h,4,none⟩=some (.int .i64 dc)/\U.cell? ⟨h,5,none⟩=some (.string dt)/\U.cell? ⟨h,6,none⟩=some (.slice none 0 0)/\U.cell? ⟨mg,k*6+4,none⟩=some (.slice (some ⟨lg,0,none⟩) dls.length lcp):=⟨x2,x4,x5,x6,hcell⟩;change K 0 _
      iterate 7
       refine Lt.ti (v:=?_) hS0 ?_ ?_;rotate_left 1
       ·intro w hSw;(try dsimp only at hSw);go_simp;first|done|with_reducible rfl
       simp only[gX]
      change K 12 _
      iterate 4
       refine Lt.ti (v:=?_) hS0 ?_ ?_;rotate_left 1
       ·intro w hSw;(try dsimp only at hSw);go_simp;first|done|with_reducible rfl
       simp only[gX]
      refine Lt.sp (i:=7) (fun K hK=>?_);refine Nl (f:=22) rfl rfl (.pointer (some ⟨h,0,none⟩)) (.string nm) rfl rfl HFD.o (fun W=>by simp[go_sem]) ?_;rintro v w' ⟨hv',hw'⟩;rw[hv',hw'];refine hK.out _ _ (fun _=>hS0) (fun _=>?_);clear hK K hv' hw';simp only[gX];change K 8 _
      iterate 3
       refine Lt.ti (v:=?_) hS0 ?_ ?_;rotate_left 1
       ·intro w hSw;(try dsimp only at hSw);go_simp;first|done|with_reducible rfl
       simp only[gX]
      refine Lt.sp (i:=11) (fun K hK=>?_);refine step_appR rfl rfl w.heap.size (w.heap.size+1+1) rfl HNU.o lg dls.length lcp xs HN0.o hl200 rfl (Co HRW.o hs1) HCE.o hsU ?_;intro g5 cp5 w5 hown5 hgrow5;have HR5:Hd (w5.heap[w.heap.size+1]?=some (.cells #[.int .i64 0,.string ⟨#[]⟩,.slice none 0 0] 32 (0,0))):=Fh HNU.o hgrow5 (by decide) HR3.o;obtain⟨⟨y0,y1,y2,y3⟩,⟨y4,y5,y6,y7⟩,yf⟩:=bk8 (Fh HNU.o hgrow5 (by decide) HBL.o);have y8:w5.cell? ⟨mg,k*6+4,none⟩=some (.slice (some ⟨lg,0,none⟩) dls.length lcp):=HMG.o w5 hgrow5;have HB5:Hd (Below w.heap.size w w5):=HBU.o.grown hgrow5 hsU (fun k hk=>by simp at hk;omega);have HRG5:Hd (Ar w5 w.heap.size (.slice (some ⟨g5,0,none⟩) dls.length cp5) dls):=⟨xs,hown5,HFL.o⟩;refine hK.out _ _ (fun _=>⟨y2,y4,y5,y6,y8⟩) (fun hS5=>?_);replace hS5:=hS5 (by decide);clear hK K hown5 hgrow5 y0 y1 y2 y3 y4 y5 y6 y7 yf y8;simp only[gX];refine Lt.sp (i:=16) (fun K hK=>?_);refine Nm (f:=21) rfl rfl (.agg #[.int .i64 dc,.string dt,.slice none 0 0]) rfl (Sy dc dt _) (fun W=>by simp[go_sem]) ?_;rintro v w6 ⟨hb6,g6,hv6⟩;rw[hv6];have HR6:Hd (w6.heap[w.heap.size+1]?=some (.cells #[.int .i64 0,.string ⟨#[]⟩,.slice none 0 0] 32 (0,0))):=Ag hb6 HR5.o;have HB6:Hd (Below w.heap.size w w6):=Bo HB5.o hb6;have HRG6:Hd (Ar w6 w.heap.size (.slice (some ⟨g5,0,none⟩) dls.length cp5) dls):=HRG5.o.bl hb6;refine hK.out _ _ (fun _=>⟨Ab hb6 hS5.1,Ab hb6 hS5.2.1,Ab hb6 hS5.2.2.1,Ab hb6 hS5.2.2.2.1,Ab hb6 hS5.2.2.2.2⟩) (fun hS6=>?_);replace hS6:=hS6 (by decide);clear hK K hS5 hv6;simp only[gX];refine Lt.ti (i:=17) (v:=?_) hS6 ?_ ?_;rotate_left 1
      ·intro w hSw;(try dsimp only at hSw);go_simp;first|done|with_reducible rfl
      simp only[gX];obtain⟨r0,r1,r2,rf⟩:=Gi HR6.o;clear hb6;refine Lt.sp (i:=18) (fun K hK=>?_);go_simp;refine hK.out _ _ (fun h=>absurd rfl h) (fun _=>?_);clear hK K hS6;refine Lt.done (by kernel_rfl) ?_ _;go_wp2_with fail;have hb:=Bc HB6.o (b:=w.heap.size+1) (by omega) (.int .i64 dc) (.string dt) (.slice (some ⟨g6,0,none⟩) 0 0);have hlk6:Ar _ w.heap.size (.slice (some ⟨g5,0,none⟩) dls.length cp5) dls:=HRG6.o.keptB (fun b' q=>Ju (w:=w6) (b:=w.heap.size+1) (fun e=>by obtain⟨ys,k1,_⟩:=HRG6.o;subst e;exact Ad k1 (by decide) HR6.o q) (.int .i64 dc) (.string dt) (.slice (some ⟨g6,0,none⟩) 0 0));have hrg:=(Sa hlk6).2;obtain⟨v0,v1,v2,_⟩:=Gi (Cz HR6.o (.int .i64 dc) (.string dt) (.slice (some ⟨g6,0,none⟩) 0 0));exact bR (v:=.tuple #[.slice (some ⟨g5,0,none⟩) (dls:List G3).length cp5,.agg #[.int .i64 dc,.string dt,.slice (some ⟨g6,0,none⟩) 0 0]]) (by simp[results,Tryz.results7,go_sem,v0,v1,v2]) rfl ⟨hb,dls,dc,dt,[],some ⟨g6,0,none⟩,0,_,_,rfl,HTP.o,Kj _ _,hrg⟩
   ·obtain⟨⟨x0,x1,x2,x3⟩,⟨x4,x5,x6,x7⟩,xf⟩:=bk8 hblk
    obtain⟨ch,HTP,HCV⟩:∃ ch,Hd (Dh ss ts nm [] c t ch)/\((ch=[]/\chv=.slice none 0 0)\/(0<ch.length/\ch.length<=60/\∃ base g cp,chv=.slice (some ⟨g,0,none⟩) ch.length cp/\w2.ownsRow base 9 1 chv ch.length (Bf ch))):=by
     cases a with
     | ok d=>exact absurd k id
     | circle l=>
      obtain⟨rfl,rfl,base,hown⟩:=k;obtain⟨l0,l6⟩:=hdo.circle_len (by simp) l rfl;refine⟨l,Or.inr ⟨HCC.o.1,HCC.o.2,_,_,hdo,rfl,rfl,rfl,rfl⟩,Or.inr ⟨l0,l6,base,?_⟩⟩
      rcases hown.2 with ⟨_,h0⟩|⟨g,cap,cur,e,_⟩
      ·omega
      ·exact⟨g,cap,e,hown⟩
     | deep x=>
      obtain⟨rfl,rfl,rfl⟩:=k;exact⟨[],Or.inr ⟨HCC.o.1,HCC.o.2,_,_,hdo,rfl,rfl,rfl,rfl⟩,Or.inl ⟨rfl,rfl⟩⟩
    clear k hdo hblk
    rcases HCV with ⟨rfl,rfl⟩|⟨l0,l6,base,g,cp,rfl,hown⟩
    ·go_wp2_with fail;refine(Sj c t w2).mono ?_;rintro e w3 ⟨hb3,g',rfl⟩;have HR3:Hd (w3.heap[w.heap.size+1]?=some (.cells #[.int .i64 0,.string ⟨#[]⟩,.slice none 0 0] 32 (0,0))):=Ag hb3 HR2.o;have HB3:Hd (Below w.heap.size w w3):=HB2.o.trans (hb3.mono hs2);obtain⟨z0,z1,z2,zf⟩:=Gi HR3.o;clear hb3 x0 x1 x2 x3 x4 x5 x6 x7 xf;dsimp only;go_wp2_with fail;have hb:=Bc HB3.o (b:=w.heap.size+1) (by omega) (.int .i64 c) (.string t) (.slice (some ⟨g',0,none⟩) 0 0);obtain⟨v0,v1,v2,_⟩:=Gi (Cz HR3.o (.int .i64 c) (.string t) (.slice (some ⟨g',0,none⟩) 0 0));exact bR (v:=.tuple #[.slice (some ⟨w.heap.size+1+1,0,none⟩) 0 0,.agg #[.int .i64 c,.string t,.slice (some ⟨g',0,none⟩) 0 0]]) (by simp[results,Tryz.results7,go_sem,v0,v1,v2]) rfl ⟨hb,[],c,t,[],some ⟨g',0,none⟩,0,_,0,rfl,HTP.o,Kj _ _,Kl _ _⟩
    ·have HOW:Hd _:=hown;clear hown;go_wp2_with fail;refine(l3Copy_row c t ch base g cp w2 l0 l6 HOW.o).mono ?_;rintro e w3 ⟨hb3,g',cp',rfl,hown3⟩;have HR3:Hd (w3.heap[w.heap.size+1]?=some (.cells #[.int .i64 0,.string ⟨#[]⟩,.slice none 0 0] 32 (0,0))):=Ag hb3 HR2.o;have HB3:Hd (Below w.heap.size w w3):=HB2.o.trans (hb3.mono hs2);have HO3:Hd (w3.ownsRow w2.heap.size 9 1 (.slice (some ⟨g',0,none⟩) ch.length cp') ch.length (Bf ch)):=hown3;obtain⟨z0,z1,z2,zf⟩:=Gi HR3.o;clear hb3 x0 x1 x2 x3 x4 x5 x6 x7 xf hown3;dsimp only;go_wp2_with fail;have hb:=Bc HB3.o (b:=w.heap.size+1) (by omega) (.int .i64 c) (.string t) (.slice (some ⟨g',0,none⟩) ch.length cp');have ho:=Cn HO3.o (fun b' q=>Ju (w:=w3) (b:=w.heap.size+1) (fun e=>by subst e;exact Ad HO3.o (by decide) HR3.o q) (.int .i64 c) (.string t) (.slice (some ⟨g',0,none⟩) ch.length cp'));obtain⟨v0,v1,v2,_⟩:=Gi (Cz HR3.o (.int .i64 c) (.string t) (.slice (some ⟨g',0,none⟩) ch.length cp'));exact bR (v:=.tuple #[.slice (some ⟨w.heap.size+1+1,0,none⟩) 0 0,.agg #[.int .i64 c,.string t,.slice (some ⟨g',0,none⟩) ch.length cp']]) (by simp[results,Tryz.results7,go_sem,v0,v1,v2]) rfl ⟨hb,[],c,t,ch,some ⟨g',0,none⟩,cp',_,0,rfl,HTP.o,Xg ho,Kl _ _⟩
  ·have hnf:Cu nm=false:=by simpa using hnb
   have HCP:Hd (Dh ss ts nm [] 9 ⟨#[]⟩ []):=Or.inl ⟨fun q=>hnb q.2,rfl,rfl,rfl,rfl⟩;rw[hc];clear hnb hc
   go_wp2_with (first|(go_at_call 19;refine(Db nm _ hn).mono ?_;rintro e w9 ⟨rfl,rfl⟩;rw[hnf]))
   have hb:=Bc HB1.o (b:=w.heap.size+1) (by omega) (.int .i64 9) (.string ⟨#[]⟩) (.slice none 0 0);obtain⟨v0,v1,v2,_⟩:=Gi (Cz HR1.o (.int .i64 9) (.string ⟨#[]⟩) (.slice none 0 0));exact bR (v:=.tuple #[.slice (some ⟨w.heap.size+1+1,0,none⟩) 0 0,.agg #[.int .i64 9,.string ⟨#[]⟩,.slice none 0 0]]) (by simp[results,Tryz.results7,go_sem,v0,v1,v2]) rfl ⟨hb,[],9,⟨#[]⟩,[],none,0,_,0,rfl,HCP.o,Kj _ _,Kl _ _⟩
 ·have HCP:Hd (Dh ss ts nm [] 9 ⟨#[]⟩ []):=Or.inl ⟨fun q=>hc q.1,rfl,rfl,rfl,rfl⟩;generalize Iw ss ts=z at hc;go_wp2_with fail;have hb:=Bc HB1.o (b:=w.heap.size+1) (by omega) (.int .i64 9) (.string ⟨#[]⟩) (.slice none 0 0);obtain⟨v0,v1,v2,_⟩:=Gi (Cz HR1.o (.int .i64 9) (.string ⟨#[]⟩) (.slice none 0 0));exact bR (v:=.tuple #[.slice (some ⟨w.heap.size+1+1,0,none⟩) 0 0,.agg #[.int .i64 9,.string ⟨#[]⟩,.slice none 0 0]]) (by simp[results,Tryz.results7,go_sem,v0,v1,v2]) rfl ⟨hb,[],9,⟨#[]⟩,[],none,0,_,0,rfl,HCP.o,Kj _ _,Kl _ _⟩
end
end Go.Proofs.YtjlnkepkkdefdaaGreatDoor
