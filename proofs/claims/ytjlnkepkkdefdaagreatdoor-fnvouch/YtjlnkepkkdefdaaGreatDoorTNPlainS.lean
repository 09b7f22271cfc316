import Derived.Test.YtjlnkepkkdefdaaGreatDoorTForm
import Derived.Test.YtjlnkepkkdefdaaGreatDoorTNSmall
import Derived.Carry
import Derived.Deep.DeepCutAuto
import Derived.Deep.RegionHeld3
import Derived.Deep.RegionLaw
import Derived.Deep.AppendLies
import Derived.Test.YtjlnkepkkdefdaaGreatDoorTVoG
import Derived.Test.YtjlnkepkkdefdaaGreatDoorTVoA
namespace Go.Proofs.YtjlnkepkkdefdaaGreatDoor
open Go.RowKit
set_option linter.unusedVariables false
set_option maxHeartbeats 8000000
set_option maxRecDepth 100000
set_option linter.unusedSimpArgs false
section
open Go.Deep
theorem Fq {w:World} {b:Nat} {u0 u1 u2 u3 u4 u5:Value} {T:TypeId} (h:w.heap[b]?=some (.cells #[u0,u1,u2,u3,u4,u5] T (0,0))) (v0 v1 v2 v3 v4 v5:Value):((((((w.setCell ⟨b,0,none⟩ v0).setCell ⟨b,1,none⟩ v1).setCell ⟨b,2,none⟩ v2).setCell ⟨b,3,none⟩ v3).setCell ⟨b,4,none⟩ v4).setCell ⟨b,5,none⟩ v5).heap[b]?=some (.cells #[v0,v1,v2,v3,v4,v5] T (0,0)):=by
 rw[jB (jB (jB (jB (jB (jB h v0) v1) v2) v3) v4) v5]
 rfl
theorem Nu {w:World} {b:Nat} {v0 v1 v2 v3 v4 v5:Value} {T:TypeId} (h:w.heap[b]?=some (.cells #[v0,v1,v2,v3,v4,v5] T (0,0))):(w.cell? ⟨b,0,none⟩=some v0/\w.cell? ⟨b,1,none⟩=some v1/\w.cell? ⟨b,2,none⟩=some v2/\w.cell? ⟨b,3,none⟩=some v3/\w.cell? ⟨b,4,none⟩=some v4/\w.cell? ⟨b,5,none⟩=some v5)/\∀ j,w.frozen? ⟨b,j,none⟩=false:=by
 refine⟨⟨?_,?_,?_,?_,?_,?_⟩,fun j=>fH h j⟩<;>rw[cH h]<;>rfl
theorem Gx.set6 {B h mb k:Nat} {sv tv fv:Value} {w:World} {ms:Ms} {st al:List ByteArray} {av kv:Value} {vs:ByteArray->Value} (s:Gx B h mb k sv tv fv w ms st al av kv vs) {b:Nat} {cs:Array Value} (hb:w.heap[b]?=some (.cells cs 59 (0,0))) (hne:b≠h) (v0 v1 v2 v3 v4 v5:Value):Gx B h mb k sv tv fv ((((((w.setCell ⟨b,0,none⟩ v0).setCell ⟨b,1,none⟩ v1).setCell ⟨b,2,none⟩ v2).setCell ⟨b,3,none⟩ v3).setCell ⟨b,4,none⟩ v4).setCell ⟨b,5,none⟩ v5) ms st al av kv vs:=s.kept fun b' q=>Dl (s.far hb (by decide) (by decide) hne b' q) _ _ _ _ _ _
theorem KP.set6 {B h mb b:Nat} {av kv:Value} {w w':World} (k:KP B h mb av kv w w') (hB:B<=b) (hn:w.heap.size<=b) (v0 v1 v2 v3 v4 v5:Value):KP B h mb av kv w ((((((w'.setCell ⟨b,0,none⟩ v0).setCell ⟨b,1,none⟩ v1).setCell ⟨b,2,none⟩ v2).setCell ⟨b,3,none⟩ v3).setCell ⟨b,4,none⟩ v4).setCell ⟨b,5,none⟩ v5):=(((((k.setN hB hn).setN hB hn).setN hB hn).setN hB hn).setN hB hn).setN hB hn
def mkW (sv tv:Value) (w:World):World:=((w.alloc (.cells #[sv,tv] 26)).alloc (.map #[] 0)).alloc (.cells #[sv,tv,.map (some (w.heap.size+1)),.slice none 0 0,.slice none 0 0,.nilFunc] 140)
theorem Vy (sa ta:Option Addr) (n1 n2 c1 c2:Nat) (w:World) :
  Calls Tryz.prog 72 #[.agg #[.slice sa n1 c1,.slice ta n2 c2]] w fun e w'=>e=.returned (.pointer (some ⟨w.heap.size+1+1,0,none⟩))/\w'=mkW (.slice sa n1 c1) (.slice ta n2 c2) w:=by
 have hmm:∀ w:World,(Instr.makeMap 138 none).run Tryz.prog w=.ok (.map (some w.heap.size)) (w.alloc (.map #[] 0)):=fun w=>by kernel_rfl
 go_enter Tryz.func72,Tryz.ntmps72
 go_wp2
 go_ret
 exact⟨rfl,rfl⟩
theorem mkW_blk (sv tv:Value) (w:World):(mkW sv tv w).heap[w.heap.size+1+1]?=some (.cells #[sv,tv,.map (some (w.heap.size+1)),.slice none 0 0,.slice none 0 0,.nilFunc] 140 (0,0)):=by
 unfold mkW
 have h:=Aj ((w.alloc (.cells #[sv,tv] 26)).alloc (.map #[] 0)) (.cells #[sv,tv,.map (some (w.heap.size+1)),.slice none 0 0,.slice none 0 0,.nilFunc] 140)
 rw[show ((w.alloc (.cells #[sv,tv] 26)).alloc (.map #[] 0)).heap.size=w.heap.size+1+1 from by simp] at h
 exact h
theorem mkW_map (sv tv:Value) (w:World):Jp (mkW sv tv w) (w.heap.size+1) 0 (fun _=>none):=by
 have h:=Jp.made (w.alloc (.cells #[sv,tv] 26))
 rw[show (w.alloc (.cells #[sv,tv] 26)).heap.size=w.heap.size+1 from by simp] at h
 unfold mkW
 exact h.same (Lib.alloc_old _ _ _ (by simp))
theorem mkW_below (sv tv:Value) (w:World):Below w.heap.size w (mkW sv tv w):=by
 unfold mkW
 exact((aN _ _).alloc (by simp) _).alloc (by simp;omega) _
theorem Ta (sa ta:Option Addr) (n1 n2 c1 c2:Nat) (w:World) :
  Calls Tryz.prog 41 #[.agg #[.slice sa n1 c1,.slice ta n2 c2]] w fun e w'=>∃ h mb,e=.returned (.pointer (some ⟨h,0,none⟩))/\Below w.heap.size w w'/\Ml w.heap.size h mb (.slice sa n1 c1) (.slice ta n2 c2) (.func (.func 73) #[.pointer (some ⟨h,0,none⟩)] #[]) w' [] [] (.slice none 0 0) (.slice none 0 0) (fun _=>.slice none 0 0):=by
 have hmf:∀(fn:Fn) (first cap:Array Value) (w:World),(Instr.makeFunc fn first cap).run Tryz.prog w=.ok (.func fn first cap) w:=fun _ _ _ _=>rfl
 have hst:∀(a:Addr) (fn:Fn) (x y:Array Value) (m:Mode) (w:World),(store a (.func fn x y) m).run Tryz.prog w=stored Tryz.prog w a (.func fn x y) m:=fun a fn x y m w=>run_store Tryz.prog w a _ m rfl
 obtain⟨W,eW⟩:∃ W,w.alloc (.cells #[.slice sa n1 c1,.slice ta n2 c2] 26)=W:=⟨_,rfl⟩
 have hbW:Below w.heap.size w W:=by rw[<- eW];exact aN _ _
 have hWs:w.heap.size<=W.heap.size:=hbW.size
 have q0:W.cell? ⟨w.heap.size,0,none⟩=some (.slice sa n1 c1):=by rw[<- eW];simp[go_sem]
 have q1:W.cell? ⟨w.heap.size,1,none⟩=some (.slice ta n2 c2):=by rw[<- eW];simp[go_sem]
 obtain⟨V,eV⟩:∃ V,mkW (.slice sa n1 c1) (.slice ta n2 c2) W=V:=⟨_,rfl⟩
 have hblk:=mkW_blk (.slice sa n1 c1) (.slice ta n2 c2) W
 have hmap:=mkW_map (.slice sa n1 c1) (.slice ta n2 c2) W
 have hbl:=mkW_below (.slice sa n1 c1) (.slice ta n2 c2) W
 rw[eV] at hblk hmap hbl
 obtain⟨⟨x0,x1,x2,x3,x4,x5⟩,xf⟩:=Nu hblk
 have HB:Hd _:=hblk
 have HM:Hd (Jp V (W.heap.size+1) 0 (fun _=>none)):=hmap
 have HL:Hd (Below w.heap.size w V):=hbW.trans (hbl.mono hWs)
 clear hblk hmap hbl hbW
 go_enter Tryz.func41,Tryz.ntmps41
 go_wp2_with (go_at_call 72;refine(Vy sa ta n1 n2 c1 c2 W).mono ?_;rintro e w2 ⟨rfl,rfl⟩;rw[eV])
 go_ret
 refine⟨_,W.heap.size+1,rfl,HL.o.setCell (p:=⟨W.heap.size+1+1,5,none⟩) (by simp;omega) _,⟨by omega,by omega,by rw[jB HB.o];rfl,⟨0,by simp,(HM.o.same (hC V ⟨W.heap.size+1+1,5,none⟩ _ (W.heap.size+1) (by simp))).congr fun k=>rfl⟩,⟨rfl,Or.inl ⟨rfl,rfl⟩⟩,⟨rfl,Or.inl ⟨rfl,rfl⟩⟩,fun b q=>by simp[Value.ownBlock] at q,fun nm d e=>by simp[lk] at e⟩⟩
theorem Jj {w:World} {B:Nat} {v:Value} {ls:List G3} (h:Ar w B v ls):∃ a n c,v=.slice a n c:=by
 obtain⟨xs,h1,_⟩:=h
 rcases h1.2 with ⟨e,_⟩|⟨g,cap,cur,e,_⟩
 ·exact⟨_,_,_,e⟩
 ·exact⟨_,_,_,e⟩
theorem blk_keep' {w w':World} {b:Nat} {cs:Array Value} {T:TypeId} (hb:Below w.heap.size w w') (h:w.heap[b]?=some (.cells cs T (0,0))):w'.heap[b]?=some (.cells cs T (0,0)):=by
 rw[hb.block _ (Af h)];exact h
theorem strV_get' (l:List ByteArray) (i:Nat) (h:i<l.length):(Bf l)[i]?=some (.string (l.getD i ByteArray.empty)):=by
 unfold Bf
 rw[List.getElem?_map,gQ h,gG,gQ h]
 rfl
theorem own_base' {w:World} {B B' e sz n:Nat} {v:Value} {xs:List Value} (h:w.ownsRow B e sz v n xs) (hB:B'<=B):w.ownsRow B' e sz v n xs:=by
 refine⟨h.1,?_⟩
 rcases h.2 with k|⟨g,cap,cur,e,hg,r⟩
 ·exact Or.inl k
 ·exact Or.inr ⟨g,cap,cur,e,by omega,r⟩
theorem Ak (V:World) (o:Obj):Below V.heap.size V (V.alloc o):=aN _ _
theorem Qo (B h mb:Nat) (sv tv fv:Value) (ss:List S2) (ts:List T2) (ms:Ms) (st:List ByteArray) (av kv:Value) (vs:ByteArray->Value) (nm:ByteArray) (d:Md) (w:World) (s:Ml B h mb sv tv fv w ms st av kv vs) (hB:B<=w.heap.size) (hn:nm.size<=60) (hk:lk ms nm=some (some d)) :
  Calls Tryz.prog 75 #[.pointer (some ⟨h,0,none⟩),.string nm] w fun e w'=>Ql B h mb sv tv fv ss ts ms st av kv vs nm w e w':=by
 obtain⟨W,eW⟩:∃ W,w.alloc (.cells #[.bool false,.int .i64 0,.string ⟨#[]⟩,.slice none 0 0,.string ⟨#[]⟩,.slice none 0 0] 59)=W:=⟨_,rfl⟩
 have hbW:Below w.heap.size w W:=by rw[<- eW];exact Ak _ _
 have hWs:w.heap.size<W.heap.size:=by rw[<- eW];simp
 have hhw:h<w.heap.size:=Af s.blk
 have s1:=s.bl hbW
 have HR:Hd (W.heap[w.heap.size]?=some (.cells #[.bool false,.int .i64 0,.string ⟨#[]⟩,.slice none 0 0,.string ⟨#[]⟩,.slice none 0 0] 59 (0,0))):=by
  show _=_;rw[<- eW];exact Aj _ _
 obtain⟨n,hn1,hmap⟩:=s1.map
 have hlook:=hmap.look (k:=nm) (by unfold maxLen;omega)
 have hmo:Fz ms vs nm=some (Ik d (vs nm)):=by unfold Fz;rw[hk]
 rw[hmo] at hlook
 obtain⟨la,ln,lc,hlv⟩:=Jj (s.lks nm d hk)
 unfold Ik at hlook
 rw[hlv] at hlook
 simp only[Option.getD_some,Option.isSome_some] at hlook
 obtain⟨_,_,c2,_⟩:=s1.cells
 have HD:Hd (Av ss ts ms st (.make nm) ms (.ok d)):=.known hk
 have HS:Hd (Ml B h mb sv tv fv W ms st av kv vs):=s1
 have HLV:Hd (vs nm=.slice la ln lc):=hlv
 have HK:Hd (KP B h mb av kv w W):=KP.old hbW hB
 obtain⟨⟨z0,z1,z2,z3,z4,z5⟩,zf⟩:=Nu HR.o
 obtain⟨dc,dt,dls⟩:=d
 have HKB:Hd (lk ms nm=some (some ⟨dc,dt,dls⟩)):=hk
 obtain⟨fo,efo⟩:∃ fo,Bn dc dt=fo:=⟨_,rfl⟩
 simp only[efo] at hlook
 have EF:Hd (Bn dc dt=fo):=efo
 clear efo
 clear hk hmo hmap s1 s hbW
 go_enter Tryz.func75,Tryz.ntmps75
 go_wp2_with fail
 have hne:w.heap.size≠h:=by omega
 have e6:=Fq HR.o (.bool true) (.int .i64 dc) (.string dt) (.slice none 0 0) (.string fo) (.slice la ln lc)
 have hk6:=HK.o.set6 hB (Nat.le_refl _) (.bool true) (.int .i64 dc) (.string dt) (.slice none 0 0) (.string fo) (.slice la ln lc)
 have hs6:=HS.o.set6 HR.o hne (.bool true) (.int .i64 dc) (.string dt) (.slice none 0 0) (.string fo) (.slice la ln lc)
 have e7:=blk_keep' (Ak _ (.cells #[.bool true,.int .i64 dc,.string dt,.slice none 0 0,.string fo,.slice la ln lc] 59)) e6
 obtain⟨⟨y0,y1,y2,y3,y4,y5⟩,_⟩:=Nu e7
 exact bR (v:=Ik ⟨dc,dt,dls⟩ (vs nm)) (by simp[results,Tryz.results75,go_sem,Ik,HLV.o,EF.o,y0,y1,y2,y3,y4,y5]) rfl ⟨hk6.after (Ak _ _) (Nat.le_trans hB hk6.bl.size),ms,_,HD.o,Or.inl ⟨_,av,kv,vs,rfl,rfl,hs6.bl (Ak _ _),Cc.refl _ _,Cc.refl _ _,Mz.refl _ _ _⟩⟩
theorem Oa (B h mb:Nat) (sv tv fv:Value) (ss:List S2) (ts:List T2) (ms:Ms) (st:List ByteArray) (av kv:Value) (vs:ByteArray->Value) (nm:ByteArray) (i:Nat) (w:World) (s:Ml B h mb sv tv fv w ms st av kv vs) (hB:B<=w.heap.size) (hn:nm.size<=60) (hl:st.length<=60) (hk:lk ms nm=some none) (hi:i<st.length) (hin:nx st i=nm) (hif:∀ j,j<i->nx st j≠nm) :
  Calls Tryz.prog 75 #[.pointer (some ⟨h,0,none⟩),.string nm] w fun e w'=>Ql B h mb sv tv fv ss ts ms st av kv vs nm w e w':=by
 obtain⟨W,eW⟩:∃ W,(w.alloc (.cells #[.bool false,.int .i64 0,.string ⟨#[]⟩,.slice none 0 0,.string ⟨#[]⟩,.slice none 0 0] 59))=W:=⟨_,rfl⟩
 have hbW:Below w.heap.size w W:=by rw[<- eW];exact Ak _ _
 have s1:=s.bl hbW
 obtain⟨n,hn1,hmap⟩:=s1.map
 have hlook:=hmap.look (k:=nm) (by unfold maxLen;omega)
 have hmo:Fz ms vs nm=some Ih:=by unfold Fz;rw[hk]
 rw[hmo] at hlook
 unfold Ih at hlook
 simp only[Option.getD_some,Option.isSome_some] at hlook
 obtain⟨V,eV⟩:∃ V,W.alloc (.cells #[.bool false,.int .i64 0,.string ⟨#[]⟩,.slice none 0 0,.string ⟨#[]⟩,.slice none 0 0] 59)=V:=⟨_,rfl⟩
 have hbV:Below w.heap.size w V:=by rw[<- eV];exact Bo hbW (Ak _ _)
 have s2:=s.bl hbV
 obtain⟨a,cap,rfl⟩:∃ a cap,kv=.slice a st.length cap:=by
  rcases s2.stk.2 with ⟨e,h0⟩|⟨g,cap,cur,e,_⟩
  ·exact⟨none,0,by rw[e,h0]⟩
  ·exact⟨_,_,e⟩
 obtain⟨g,rfl⟩:∃ g,a=some ⟨g,0,none⟩:=by
  rcases s2.stk.2 with ⟨e,h0⟩|⟨g,cap,cur,e,_⟩
  ·omega
  ·simp only[Value.slice.injEq] at e;exact⟨g,e.1⟩
 have hcell:∀ j,j<st.length->V.cell? ⟨g,0+j,none⟩=some (.string (st.getD j ByteArray.empty)):=fun j hj=>by
  rw[Nat.zero_add,s2.stk.cellAt j (by omega),strV_get' st j hj]
 have HIX:Hd (Calls Tryz.prog 104 #[.slice (some ⟨g,0,none⟩) st.length cap,.string nm] V fun e w'=>e=.returned (.int .i64 (i:Nat))/\w'=V):=by
  have q:=Tryz.slices_Index_string g 0 st.length cap st nm V (Nat.le_refl _) (by omega) hcell;rw[Lib.idxOfS_hit st st.length i nm hi (Nat.le_refl _) hin hif] at q;exact q
 have HCL:Hd (Calls Tryz.prog 79 #[.slice (some ⟨g,i,none⟩) (st.length-i) (cap-i)] V fun e w'=>∃ v',e=.returned v'/\w'.ownsRow V.heap.size 9 1 v' (st.length-i) (((st.drop i).take (st.length-i)).map (Value.string))/\v'≠.slice none 0 0/\Below V.heap.size V w'):=by
  refine Tryz.slices_Clone_string g i (st.length-i) (cap-i) (st.drop i) V (by rw[List.length_drop];exact Nat.le_refl _) (by omega) (fun j hj=>?_);rw[List.length_drop] at hj;have:=hcell (i+j) (by omega);rw[Nat.zero_add] at this;rw[this];congr 2;rw[gG,gG,List.getElem?_drop]
 obtain⟨_,_,c2,_,_,_,_⟩:=s1.cells
 obtain⟨_,_,_,_,d4,_,_⟩:=s2.cells
 have t0:V.cell? ⟨W.heap.size,0,none⟩=some (.bool false):=by rw[<- eV];simp[go_sem]
 have hcp:st.length<=cap:=by
  rcases s2.stk.2 with ⟨e,h0⟩|⟨g',cap',cur,e,r⟩
  ·simp at e
  ·simp only[Value.slice.injEq] at e;have:=r.2.2.1;omega
 have HD:Hd (Av ss ts ms st (.make nm) ms (.circle (st.drop i))):=.circle hk hi hin hif
 have HB:Hd (Below w.heap.size w V):=hbV
 clear hk hmo hmap s1 s s2 hbW hcell hbV hin hif
 have EV:Hd (W.alloc (.cells #[.bool false,.int .i64 0,.string ⟨#[]⟩,.slice none 0 0,.string ⟨#[]⟩,.slice none 0 0] 59)=V):=eV
 clear eV
 go_enter Tryz.func75,Tryz.ntmps75
 go_upto_region 2 with fail
 rw[EV.o]
 clear EV eW
 go_wp2_with (first|(go_at_call 104;refine HIX.o.mono ?_;rintro e w2 ⟨rfl,rfl⟩))
 refine HCL.o.mono ?_
 rintro e w3 ⟨v',rfl,hown,hnn,hb3⟩
 obtain⟨g3,cp3,rfl⟩:∃ g cp,v'=.slice (some ⟨g,0,none⟩) (st.length-i) cp:=by
  rcases hown.2 with ⟨e,_⟩|⟨g,cp,cur,e,_⟩
  ·exact absurd e hnn
  ·exact⟨g,cp,e⟩
 have HO:Hd (w3.ownsRow w2.heap.size 9 1 (.slice (some ⟨g3,0,none⟩) (st.length-i) cp3) (st.length-i) (Bf (st.drop i))):=by
  rw[List.take_of_length_le (by rw[List.length_drop];exact Nat.le_refl _)] at hown;exact hown
 have HB3:Hd (Below w2.heap.size w2 w3):=hb3
 clear hown hb3 hnn HIX HCL
 go_wp2_with fail
 have hs2:=HB.o.size
 refine⟨rfl,KP.old (Bo HB.o HB3.o) hB,ms,_,HD.o,Or.inr ⟨_,rfl,_,_,_,rfl,?_⟩⟩
 have:=own_base' HO.o (B':=B) (by omega)
 rw[List.length_drop]
 exact this
end
theorem Lz (sa ta:Option Addr) (n2 c1 c2:Nat) (ts:List S2) (s:ByteArray) (w:World) (hc:Iz w sa ts) (hl:ts.length<=1048576) :
  Calls Tryz.prog 77 #[.agg #[.slice sa ts.length c1,.slice ta n2 c2],.string s] w fun e w'=>Below w.heap.size w w'/\((∃ i:Nat,e=.returned (.int .i64 i)/\i<ts.length/\(sx ts i).name=s)\/(e=.returned (.int .i64 (-1))/\¬ Fi (Ai ts) s)):=by
 have hb0:Below w.heap.size w (w.alloc (.cells #[.slice sa ts.length c1,.slice ta n2 c2] 26)):=aN _ _
 have k1:(w.alloc (.cells #[.slice sa ts.length c1,.slice ta n2 c2] 26)).cell? ⟨w.heap.size,0,none⟩=some (.slice sa ts.length c1):=by simp[go_sem]
 have HC:Hd (Iz (w.alloc (.cells #[.slice sa ts.length c1,.slice ta n2 c2] 26)) sa ts):=hc.bl hb0
 clear hc
 go_enter Tryz.func77,Tryz.ntmps77
 go_wp2
 go_loopw [5] (fun i wr=>∃ k:Nat,k<=ts.length/\i=.int .i64 k/\Hd (∀ j,j<k->(sx ts j).name≠s)/\(w.alloc (.cells #[.slice sa ts.length c1,.slice ta n2 c2] 26))=wr) (fun i _=>ts.length-(intOf i).toNat)
 case atStart=>exact⟨0,Nat.zero_le _,rfl,(fun j hj=>by omega:∀ j,j<0->(sx ts j).name≠s),rfl⟩
 case round=>
  obtain⟨k,hk,rfl,HA,rfl⟩:=hrel
  by_cases hlt:k<ts.length
  ·obtain⟨b,off,rfl,c1',c2'⟩:=HC.o k hlt;have hkI:(k:Int)<(ts.length:Int):=by omega
   obtain⟨nm,en⟩:∃ nm,(sx ts k).name=nm:=⟨_,rfl⟩;have EN:Hd ((sx ts k).name=nm):=en;rw[en] at c1';clear en c2'
   by_cases he:nm=s
   ·have heq:=Eh he;have HE:Hd (nm=s):=he;clear he;go_wp2;go_ret;exact⟨hb0,Or.inl ⟨k,rfl,hlt,by rw[EN.o];exact HE.o⟩⟩
   ·have heq:=Es he;have HE:Hd (nm≠s):=he;clear he;go_wp2;go_roundw
    case rel=>exact⟨k+1,by omega,by go_num,Dc HA.o (by rw[EN.o];exact HE.o),trivial⟩
    case measure=>simp[intOf];omega
  ·go_wp2;go_ret;exact⟨hb0,Or.inr ⟨rfl,fun ⟨j,hj,e⟩=>by rw[Ca] at hj;rw[Eb] at e;exact HA.o j (by omega) e⟩⟩
theorem Ly (sa ta:Option Addr) (n1 c1 c2:Nat) (ts:List T2) (s:ByteArray) (w:World) (hc:Iy w ta ts) (hl:ts.length<=1048576) :
  Calls Tryz.prog 43 #[.agg #[.slice sa n1 c1,.slice ta ts.length c2],.string s] w fun e w'=>Below w.heap.size w w'/\((∃ i:Nat,e=.returned (.int .i64 i)/\i<ts.length/\(tx ts i).name=s)\/(e=.returned (.int .i64 (-1))/\¬ Fi (Ae ts) s)):=by
 have hb0:Below w.heap.size w (w.alloc (.cells #[.slice sa n1 c1,.slice ta ts.length c2] 26)):=aN _ _
 have k1:(w.alloc (.cells #[.slice sa n1 c1,.slice ta ts.length c2] 26)).cell? ⟨w.heap.size,1,none⟩=some (.slice ta ts.length c2):=by simp[go_sem]
 have HC:Hd (Iy (w.alloc (.cells #[.slice sa n1 c1,.slice ta ts.length c2] 26)) ta ts):=hc.bl hb0
 clear hc
 go_enter Tryz.func43,Tryz.ntmps43
 go_wp2
 go_loopw [5] (fun i wr=>∃ k:Nat,k<=ts.length/\i=.int .i64 k/\Hd (∀ j,j<k->(tx ts j).name≠s)/\(w.alloc (.cells #[.slice sa n1 c1,.slice ta ts.length c2] 26))=wr) (fun i _=>ts.length-(intOf i).toNat)
 case atStart=>exact⟨0,Nat.zero_le _,rfl,(fun j hj=>by omega:∀ j,j<0->(tx ts j).name≠s),rfl⟩
 case round=>
  obtain⟨k,hk,rfl,HA,rfl⟩:=hrel
  by_cases hlt:k<ts.length
  ·obtain⟨b,off,rfl,c1',x,p,c2',c3'⟩:=HC.o k hlt;have hkI:(k:Int)<(ts.length:Int):=by omega
   obtain⟨nm,en⟩:∃ nm,(tx ts k).name=nm:=⟨_,rfl⟩;have EN:Hd ((tx ts k).name=nm):=en;rw[en] at c1';clear en c2' c3'
   by_cases he:nm=s
   ·have heq:=Eh he;have HE:Hd (nm=s):=he;clear he;go_wp2;go_ret;exact⟨hb0,Or.inl ⟨k,rfl,hlt,by rw[EN.o];exact HE.o⟩⟩
   ·have heq:=Es he;have HE:Hd (nm≠s):=he;clear he;go_wp2;go_roundw
    case rel=>exact⟨k+1,by omega,by go_num,Dc HA.o (by rw[EN.o];exact HE.o),trivial⟩
    case measure=>simp[intOf];omega
  ·go_wp2;go_ret;exact⟨hb0,Or.inr ⟨rfl,fun ⟨j,hj,e⟩=>by rw[Bj] at hj;rw[Df] at e;exact HA.o j (by omega) e⟩⟩
theorem Qp {ss:List S2} {ts:List T2} {nm:ByteArray} (h:Lm ss ts nm):Cb ss ts nm=true:=by simp[Cb,h]
theorem Vo {ss:List S2} {ts:List T2} {nm:ByteArray} (h:¬ Lm ss ts nm):Cb ss ts nm=false:=by simp[Cb,h]
theorem has_any (h:Nat) (sa ta:Option Addr) (c1 c2:Nat) (ss:List S2) (ts:List T2) (nm:ByteArray) (w:World) (k0:w.cell? ⟨h,0,none⟩=some (.slice sa ss.length c1)) (k1:w.cell? ⟨h,1,none⟩=some (.slice ta ts.length c2)) (rs:Iz w sa ss) (rt:Iy w ta ts) (hl:ss.length<=1048576) (hl2:ts.length<=1048576) :
  Calls Tryz.prog 107 #[.pointer (some ⟨h,0,none⟩),.string nm] w fun e w'=>Below w.heap.size w w'/\e=.returned (.bool (Cb ss ts nm)):=by
 have HS:Hd (Iz w sa ss):=rs
 have HT:Hd (Iy w ta ts):=rt
 clear rs rt
 go_enter Tryz.func107,Tryz.ntmps107
 go_wp2_with fail
 refine(Lz sa ta ts.length c1 c2 ss nm _ HS.o hl).mono ?_
 rintro e w1 ⟨hb1,hr⟩
 have j0:=Ab hb1 k0
 have j1:=Ab hb1 k1
 rcases hr with ⟨i,rfl,hi,e1⟩|⟨rfl,hn⟩
 ·have HO:Hd (Cb ss ts nm=true):=Qp (Or.inl (e1▸Dm hi));have d0:decide ((0:Int)<=(i:Int))=true:=by simp
  clear hi e1 k0 k1;go_wp2_with fail;go_ret;exact⟨hb1,by rw[HO.o];rfl⟩
 ·have HN:Hd (¬ Fi (Ai ss) nm):=hn;clear hn k0 k1;go_wp2_with fail;refine(Ly sa ta ss.length c1 c2 ts nm _ (HT.o.bl hb1) hl2).mono ?_;rintro e w2 ⟨hb2,hr⟩;have hB2:=bt hb1 hb2
  rcases hr with ⟨i,rfl,hi,e1⟩|⟨rfl,hn⟩
  ·have HO:Hd (Cb ss ts nm=true):=Qp (Or.inr (e1▸Dv hi));have d0:decide ((0:Int)<=(i:Int))=true:=by simp
   clear hi e1;go_wp2_with fail;go_ret;exact⟨hB2,by rw[HO.o];rfl⟩
  ·have HO:Hd (Cb ss ts nm=false):=Vo (fun h=>h.elim HN.o hn);clear hn;go_wp2_with fail;go_ret;exact⟨hB2,by rw[HO.o];rfl⟩
section
theorem Zu (x:ByteArray):x.extract 0 x.size=x:=by
 apply WideShapes.bytes_inj
 simp
theorem Wm (x:ByteArray):x.extract x.size x.size=⟨#[]⟩:=by
 apply WideShapes.bytes_inj
 simp
def Lo (w:World) (e:Ending) (outs:List ByteArray):Prop:=∃ g cap:Nat,e=.returned (.slice (some ⟨g,0,none⟩) outs.length cap)/\∀ j,j<outs.length->w.cell? ⟨g,j,none⟩=some (.string (outs.getD j ByteArray.empty))
theorem Yh (w:World) (x:ByteArray) (ty:TypeId):Lo (w.alloc (.cells #[.string x] ty)) (.returned (.slice (some ⟨w.heap.size,0,none⟩) 1 1)) [x]:=
 ⟨_,_,rfl,fun j hj=>by obtain rfl:j=0:=(by simp at hj;omega);simp[go_sem]⟩
theorem out2 (w:World) (x y:ByteArray) (ty:TypeId):Lo (w.alloc (.cells #[.string x,.string y] ty)) (.returned (.slice (some ⟨w.heap.size,0,none⟩) 2 2)) [x,y]:=
 ⟨_,_,rfl,fun j hj=>by
  rcases (show j=0\/j=1 by simp at hj;omega) with rfl|rfl
  ·simp[go_sem]
  ·simp[go_sem]⟩
variable (t:ByteArray) (n:Nat) (a b:ByteArray) (w:World)
theorem plain_1 (ha:a.size<=2000) (hb:b.size<=2000) (hn:n<=2000) :
  Calls Tryz.prog 145 #[.agg #[.int .i64 1,.string t,.int .i64 n],.string a,.string b] w fun e w'=>Below w.heap.size w w'/\Lo w' e (Cl 1 t n a b):=by
 go_enter Tryz.func145,Tryz.ntmps145
 go_wp2
 go_ret
 exact⟨(aN _ _).alloc (by simp) _,by have h:=Yh (w.alloc (.cells #[.int .i64 1,.string t,.int .i64 n] 106)) (t) 9;simpa [Cl] using h⟩
theorem plain_2 (ha:a.size<=2000) (hb:b.size<=2000) (hn:n<=2000) :
  Calls Tryz.prog 145 #[.agg #[.int .i64 2,.string t,.int .i64 n],.string a,.string b] w fun e w'=>Below w.heap.size w w'/\Lo w' e (Cl 2 t n a b):=by
 have hc:(b++a).size=b.size+a.size:=ByteArray.size_append
 go_enter Tryz.func145,Tryz.ntmps145
 go_wp2
 go_ret
 exact⟨(aN _ _).alloc (by simp) _,by have h:=Yh (w.alloc (.cells #[.int .i64 2,.string t,.int .i64 n] 106)) (b++a) 9;simpa [Cl] using h⟩
theorem plain_3 (ha:a.size<=2000) (hb:b.size<=2000) (hn:n<=2000) :
  Calls Tryz.prog 145 #[.agg #[.int .i64 3,.string t,.int .i64 n],.string a,.string b] w fun e w'=>Below w.heap.size w w'/\Lo w' e (Cl 3 t n a b):=by
 by_cases h:n<a.size
 ·have hI:(n:Int)<(a.size:Int):=by omega
  have e:min n a.size=n:=by omega
  have hout:Cl 3 t n a b=[a.extract 0 n]:=by simp only[Cl,e]
  rw[hout];clear e hout;go_enter Tryz.func145,Tryz.ntmps145;go_wp2;go_ret;exact⟨(aN _ _).alloc (by simp) _,by have h:=Yh (w.alloc (.cells #[.int .i64 3,.string t,.int .i64 n] 106)) (a.extract 0 n) 9;simpa using h⟩
 ·have hI:¬ (n:Int)<(a.size:Int):=by omega
  have e:min n a.size=a.size:=by omega
  have hout:Cl 3 t n a b=[a]:=by simp only[Cl,e,Zu]
  rw[hout];clear e hout;go_enter Tryz.func145,Tryz.ntmps145;go_wp2;go_ret;exact⟨(aN _ _).alloc (by simp) _,by have h:=Yh (w.alloc (.cells #[.int .i64 3,.string t,.int .i64 n] 106)) (a) 9;simpa using h⟩
theorem plain_4 (ha:a.size<=2000) (hb:b.size<=2000) (hn:n<=2000) :
  Calls Tryz.prog 145 #[.agg #[.int .i64 4,.string t,.int .i64 n],.string a,.string b] w fun e w'=>Below w.heap.size w w'/\Lo w' e (Cl 4 t n a b):=by
 by_cases h:n<a.size
 ·have hI:(n:Int)<(a.size:Int):=by omega
  have e:min n a.size=n:=by omega
  have hout:Cl 4 t n a b=[a.extract n a.size]:=by simp only[Cl,e]
  rw[hout];clear e hout;go_enter Tryz.func145,Tryz.ntmps145;go_wp2;go_ret;exact⟨(aN _ _).alloc (by simp) _,by have h:=Yh (w.alloc (.cells #[.int .i64 4,.string t,.int .i64 n] 106)) (a.extract n a.size) 9;simpa using h⟩
 ·have hI:¬ (n:Int)<(a.size:Int):=by omega
  have e:min n a.size=a.size:=by omega
  have hout:Cl 4 t n a b=[⟨#[]⟩]:=by simp only[Cl,e,Wm]
  rw[hout];clear e hout;go_enter Tryz.func145,Tryz.ntmps145;go_wp2;go_ret;exact⟨(aN _ _).alloc (by simp) _,by have h:=Yh (w.alloc (.cells #[.int .i64 4,.string t,.int .i64 n] 106)) (⟨#[]⟩) 9;simpa using h⟩
theorem plain_5 (ha:a.size<=2000) (hb:b.size<=2000) (hn:n<=2000) :
  Calls Tryz.prog 145 #[.agg #[.int .i64 5,.string t,.int .i64 n],.string a,.string b] w fun e w'=>Below w.heap.size w w'/\Lo w' e (Cl 5 t n a b):=by
 go_enter Tryz.func145,Tryz.ntmps145
 go_wp2_with (go_at_call 149;refine(Yz a n _ ha hn).mono ?_;rintro e w9 ⟨rfl,rfl⟩)
 go_ret
 exact⟨(aN _ _).alloc (by simp) _,by have h:=Yh (w.alloc (.cells #[.int .i64 5,.string t,.int .i64 n] 106)) (Kd a n) 9;simpa [Cl] using h⟩
theorem plain_6 (ha:a.size<=2000) (hb:b.size<=2000) (hn:n<=2000) :
  Calls Tryz.prog 145 #[.agg #[.int .i64 6,.string t,.int .i64 n],.string a,.string b] w fun e w'=>Below w.heap.size w w'/\Lo w' e (Cl 6 t n a b):=by
 have hsym:(a.toList == b.toList)=(b.toList == a.toList):=BEq.comm
 obtain⟨f,ef⟩:∃ f,Cw (a.toList == b.toList)=f:=⟨_,rfl⟩
 have EF:Hd (Cw (a.toList == b.toList)=f):=ef
 have hout:Cl 6 t n a b=[f]:=by simp only[Cl,<- hsym,ef]
 rw[hout]
 clear hsym hout ef
 go_enter Tryz.func145,Tryz.ntmps145
 go_wp2_with (go_at_call 108;refine(Sk _ _).mono ?_;rintro e w9 ⟨rfl,rfl⟩;rw[EF.o])
 go_ret
 exact⟨(aN _ _).alloc (by simp) _,by have h:=Yh (w.alloc (.cells #[.int .i64 6,.string t,.int .i64 n] 106)) f 9;simpa using h⟩
theorem plain_7 (ha:a.size<=2000) (hb:b.size<=2000) (hn:n<=2000) :
  Calls Tryz.prog 145 #[.agg #[.int .i64 7,.string t,.int .i64 n],.string a,.string b] w fun e w'=>Below w.heap.size w w'/\Lo w' e (Cl 7 t n a b):=by
 go_enter Tryz.func145,Tryz.ntmps145
 go_wp2
 go_ret
 exact⟨(aN _ _).alloc (by simp) _,by have h:=out2 (w.alloc (.cells #[.int .i64 7,.string t,.int .i64 n] 106)) a a 9;simpa [Cl] using h⟩
theorem plain_8 (ha:a.size<=2000) (hb:b.size<=2000) (hn:n<=2000) :
  Calls Tryz.prog 145 #[.agg #[.int .i64 8,.string t,.int .i64 n],.string a,.string b] w fun e w'=>Below w.heap.size w w'/\Lo w' e (Cl 8 t n a b):=by
 go_enter Tryz.func145,Tryz.ntmps145
 go_wp2
 go_ret
 exact⟨(aN _ _).alloc (by simp) _,by have h:=out2 (w.alloc (.cells #[.int .i64 8,.string t,.int .i64 n] 106)) a b 9;simpa [Cl] using h⟩
theorem plain_any (o:Nat) (ha:a.size<=2000) (hb:b.size<=2000) (hn:n<=2000) (h1:1<=o) (h2:o<=8) :
  Calls Tryz.prog 145 #[.agg #[.int .i64 (o:Int),.string t,.int .i64 n],.string a,.string b] w fun e w'=>Below w.heap.size w w'/\Lo w' e (Cl o t n a b):=by
 rcases (show o=1\/o=2\/o=3\/o=4\/o=5\/o=6\/o=7\/o=8 by omega) with rfl|rfl|rfl|rfl|rfl|rfl|rfl|rfl
 ·exact plain_1 t n a b w ha hb hn
 ·exact plain_2 t n a b w ha hb hn
 ·exact plain_3 t n a b w ha hb hn
 ·exact plain_4 t n a b w ha hb hn
 ·exact plain_5 t n a b w ha hb hn
 ·exact plain_6 t n a b w ha hb hn
 ·exact plain_7 t n a b w ha hb hn
 ·exact plain_8 t n a b w ha hb hn
end
end Go.Proofs.YtjlnkepkkdefdaaGreatDoor
