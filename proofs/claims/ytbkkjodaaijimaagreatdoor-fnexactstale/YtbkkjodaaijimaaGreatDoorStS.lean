import Derived.Test.YtbkkjodaaijimaaGreatDoorBsY
import Derived.Test.YtbkkjodaaijimaaGreatDoorBtB
namespace Go.Proofs.YtbkkjodaaijimaaGreatDoor
open _root_.Go.Proofs.Tryz Go.Shelf Go.RowKit Go.Sort Go.Deep
open Value renaming slice->J,string->S,tuple->Y
open Option renaming some->M,none->N
open Go renaming World->E
open Ending renaming returned->H
open _root_ renaming List->L,Nat->X
set_option linter.unusedVariables false
set_option linter.unusedSimpArgs false
set_option maxHeartbeats 8000000
set_option maxRecDepth 100000
variable {AL AD:L By} {x:By} {k g cp m off:X} {w wr:E}
def leS(a b:By):Prop:=Ap b a=false
theorem Lm(a b:By):leS a b↔a.data.toList≤b.data.toList:=by
 unfold leS Ap;rw[bytesLess_eq,ByteArray.toList_eq,ByteArray.toList_eq];simp
theorem leS_trans{a b c:By}(h:leS a b)(k:leS b c):leS a c:=(Lm a c).2 (List.le_trans ((Lm a b).1 h) ((Lm b c).1 k))
theorem leS_anti{a b:By}(h:leS a b)(k:leS b a):a=b:=by
 have:=List.le_antisymm ((Lm a b).1 h) ((Lm b a).1 k);exact ByteArray.ext (Array.toList_inj.1 this)
def Nx(AL:L By):L By:=((AL.map λx=>x.data.toList).mergeSort λx y=>decide (x≤y)).map λl=>⟨l.toArray⟩
theorem Qah(AL:L By):(Nx AL).length=AL.length:=by unfold Nx;simp
theorem srtB_perm(AL:L By):(Nx AL).Perm AL:=by
 unfold Nx;have h:=(List.mergeSort_perm (AL.map λx=>x.data.toList) (λx y=>decide (x≤y))).map (λl=>(⟨l.toArray⟩:By));rw[List.map_map]at h;have e:((λl=>(⟨l.toArray⟩:By))∘λx:By=>x.data.toList)=id:=by funext x;simp
 rw[e,List.map_id]at h;exact h
theorem srtB_pair(AL:L By):(Nx AL).Pairwise leS:=by
 unfold Nx;have tr:∀a b c:L UInt8,decide (a≤b)=true→decide (b≤c)=true→decide (a≤c)=true:=λa b c h1 h2=>by simp only[decide_eq_true_eq]at *;exact List.le_trans h1 h2
 have tt:∀a b:L UInt8,(decide (a≤b)||decide (b≤a))=true:=λa b=>by simp only[Bool.or_eq_true,decide_eq_true_eq];exact List.le_total a b
 have h:=List.pairwise_mergeSort tr tt (AL.map λx=>x.data.toList);rw[List.pairwise_map];refine h.imp fun {a b} q=>?_;rw[Lm];simpa using q
theorem srtB_eq(hp:AD.Perm AL)(hs:AD.Pairwise leS):AD=Nx AL:=
 List.Perm.eq_of_pairwise (le:=leS) (λa b _ _ h k=>leS_anti h k) hs (srtB_pair AL) (hp.trans (srtB_perm AL).symm)
theorem ins_pair(hs:AD.Pairwise leS)(hk:k≤AD.length)(h1:∀j,j<k→Ap (nx AD j) x=true)(h2:k<AD.length→Ap (nx AD k) x=false):(AD.take k++x::AD.drop k).Pairwise leS:=by
 have e0:AD.take k++AD.drop k=AD:=List.take_append_drop k AD;have yb:=hs;rw[←e0,List.pairwise_append]at yb;obtain⟨p1,p2,p3⟩:=yb
 have a1:∀a∈AD.take k,leS a x:=λa ha=>by
  obtain⟨i,hi,e⟩:=List.getElem_of_mem ha;rw[List.length_take]at hi;(have hn:nx AD i=a:=by unfold nx;rw[gG,Ix qb];rw[List.getElem_take]at e;exact e);have:=h1 i qb;rw[hn]at this;rw[Lm];unfold Ap at this;rw[bytesLess_eq,ByteArray.toList_eq,ByteArray.toList_eq]at this;exact List.le_of_lt (by simpa using this)
 have a2:∀b∈AD.drop k,leS x b:=λb hb=>by
  have oa:k<AD.length:=by
   rcases Nat.lt_or_ge k AD.length with q|q
   ·exact q
   ·rw[List.drop_eq_nil_of_le q]at hb;cases hb
  have hx:leS x (nx AD k):=h2 oa;rw[List.drop_eq_getElem_cons oa]at hb p2;have hn:nx AD k=AD[k]:=by unfold nx;rw[gG,Ix oa];rfl
  rcases List.mem_cons.mp hb with q|q
  ·rw[q,←hn];exact hx
  ·rw[List.pairwise_cons]at p2
   exact leS_trans hx (by rw[hn];exact p2.1 b q)
 rw[List.pairwise_append];refine⟨p1,List.pairwise_cons.2 ⟨a2,p2⟩,λa ha b hb=>?_⟩
 rcases List.mem_cons.mp hb with q|q
 ·rw[q];exact a1 a ha
 ·exact p3 a ha b q
theorem ins_perm(AD:L By)(x:By)(k:X):(AD.take k++x::AD.drop k).Perm (x::AD):=by
 have h:=List.perm_middle (a:=x) (l₁:=AD.take k) (l₂:=AD.drop k)
 rwa [List.take_append_drop]at h
def Tryz.lays190_ren:Go.Shelf.Ren:=⟨fun|190=>28|125=>49|258=>48|128=>76|129=>77|302=>67|303=>68|304=>69|305=>70|306=>71|307=>72|308=>73|309=>74|310=>75|333=>96|329=>97|330=>98|334=>99|335=>100|336=>101|344=>130|n=>n,fun|31=>22|9=>9|3=>3|46=>104|0=>0|51=>137|53=>139|4=>4|183=>129|182=>128|131=>134|5=>5|218=>172|222=>176|228=>215|229=>216|n=>n,fun|n=>n⟩
theorem Tryz.lays190:Go.Proofs.Lays.n190 prog Tryz.lays190_ren:={
 mixed:=qi
 f125:=func49.trans (congrArg M qi)
 f128:=func76.trans (congrArg M qi)
 f129:=func77.trans (congrArg M qi)
 f190:=func28.trans (congrArg M qi)
 f258:=func48.trans (congrArg M qi)
 f302:=func67.trans (congrArg M qi)
 f303:=func68.trans (congrArg M qi)
 f304:=func69.trans (congrArg M qi)
 f305:=func70.trans (congrArg M qi)
 f306:=func71.trans (congrArg M qi)
 f307:=func72.trans (congrArg M qi)
 f308:=func73.trans (congrArg M qi)
 f309:=func74.trans (congrArg M qi)
 f310:=func75.trans (congrArg M qi)
 f329:=func97.trans (congrArg M qi)
 f330:=func98.trans (congrArg M qi)
 f333:=func96.trans (congrArg M qi)
 f334:=func99.trans (congrArg M qi)
 f335:=func100.trans (congrArg M qi)
 f336:=func101.trans (congrArg M qi)
 f344:=func130.trans (congrArg M qi)
 t0:=underlying0
 a0:=Tryz.isAgg0
 z0:=Tryz.sizeOf0
 v0:=Tryz.zeroValue0
 t3:=underlying3
 a3:=Tryz.isAgg3
 z3:=Tryz.sizeOf3
 v3:=Tryz.zeroValue3
 t4:=underlying4
 a4:=Tryz.isAgg4
 z4:=Tryz.sizeOf4
 v4:=Tryz.zeroValue4
 t5:=underlying5
 a5:=Tryz.isAgg5
 z5:=Tryz.sizeOf5
 v5:=Tryz.zeroValue5
 t9:=underlying9
 a9:=Tryz.isAgg9
 z9:=Tryz.sizeOf9
 v9:=Tryz.zeroValue9
 t31:=underlying22
 a31:=Tryz.isAgg22
 z31:=Tryz.sizeOf22
 v31:=Tryz.zeroValue22
 t46:=underlying104
 a46:=Tryz.isAgg104
 z46:=Tryz.sizeOf104
 v46:=Tryz.zeroValue104
 t51:=underlying137
 a51:=Tryz.isAgg137
 z51:=Tryz.sizeOf137
 v51:=Tryz.zeroValue137
 t53:=underlying139
 a53:=Tryz.isAgg139
 z53:=Tryz.sizeOf139
 v53:=Tryz.zeroValue139
 t131:=underlying134
 a131:=Tryz.isAgg134
 z131:=Tryz.sizeOf134
 v131:=Tryz.zeroValue134
 t182:=underlying128
 a182:=Tryz.isAgg128
 z182:=Tryz.sizeOf128
 v182:=Tryz.zeroValue128
 t183:=underlying129
 a183:=Tryz.isAgg129
 z183:=Tryz.sizeOf129
 v183:=Tryz.zeroValue129
 t218:=underlying172
 a218:=Tryz.isAgg172
 z218:=Tryz.sizeOf172
 v218:=Tryz.zeroValue172
 t222:=underlying176
 a222:=Tryz.isAgg176
 z222:=Tryz.sizeOf176
 v222:=Tryz.zeroValue176
 t228:=underlying215
 a228:=Tryz.isAgg215
 z228:=Tryz.sizeOf215
 v228:=Tryz.zeroValue215
 t229:=underlying216
 a229:=Tryz.isAgg216
 z229:=Tryz.sizeOf216
 v229:=Tryz.zeroValue216 }
theorem Tryz.slices_Sort_string(blk off cap:X)(ss:L (L UInt8))(w:E)(hH:Holds encStr w blk off ss.toArray)(aw:blk<w.heap.size)(cz:ss.length<4611686018427387904):Calls prog 28 #[J (M ⟨blk,off,N⟩) ss.length cap] w λe w'=>
 e=H (Y #[])∧∃n os,w'=grow (putRow encStr (Sort.ahead w n) blk off (ss.mergeSort λx y=>decide (x≤y)).toArray) os:=Any.slices_Sort_string Tryz.lays190 blk off cap ss w hH aw cz
theorem Tryz.slices_Sort_string_none(p:Option Addr)(cap:X)(w:E):Calls prog 28 #[J p 0 cap] w λe w'=>e=H (Y #[])∧w'=w:=Any.slices_Sort_string_none Tryz.lays190 p cap w
theorem sort_own{B:X}{v:Value}(h:w.ownsRow B 9 1 v AL.length (Aq AL))(hn:AL.length≤1048576):Calls prog 28 #[v] w λe w'=>e=H (Y #[])∧w'.ownsRow B 9 1 v AL.length (Aq (Nx AL))∧w.grownBy w' v.ownBlock:=by
 rcases h.2 with⟨rfl,h0⟩|⟨g,cap,cur,rfl,X2,hb,h1,h2,h3,h4⟩
 ·obtain rfl:AL=[]:=List.eq_nil_of_length_eq_zero h0
  refine(Tryz.slices_Sort_string_none N 0 w).mono ?_;rintro e w' ⟨rfl,rfl⟩;have e0:Nx []=[]:=List.eq_nil_of_length_eq_zero (by rw[Qah];rfl);exact⟨rfl,by rw[e0];exact h,⟨rfl,rfl,rfl,Nat.le_refl _,λ_ _ _=>rfl⟩⟩
 ·obtain⟨ss,ess⟩:=Aj (AL.map (λx=>x.data.toList))
  (have hl:ss.length=AL.length:=by rw[←ess];simp);(have he:ss.map encStr=Aq AL:=by rw[←ess];unfold Aq;rw[List.map_map];congr 1);have hc:=Tryz.slices_Sort_string g 0 cap ss w (holds_of_block hb (by rw[hl,he];simpa using h4)) (Array.getElem?_eq_some_iff.1 hb).1 qb;rw[hl]at hc;refine hc.mono ?_;rintro e w' ⟨rfl,n,os,rfl⟩;have ho:=ownsRow_sorted (w:=w) (n:=n) (os:=os) (ss:=ss) (ts:=ss.mergeSort λx y=>decide (x≤y)) qg X2 hb (by rw[hl];exact h1) h2 h3;(have hm:(ss.mergeSort λx y=>decide (x≤y)).map encStr=Aq (Nx AL):=by unfold Nx Aq;rw[ess,List.map_map];congr 1);rw[hl,hm]at ho;exact⟨rfl,ho,grownBy_sorted _⟩
structure SsI (w wr:E) (AL:L By) (g cp m:X) (AD:L By):Prop where
 len:AD.length=m
 own:wr.ownsRow w.heap.size 9 1 (J (p_ g) m cp) m (Aq AD)
 pr:AD.Perm (AL.take m)
 so:AD.Pairwise leS
 bel:Bw w wr
theorem SsI.bl{w3:E}(h:SsI w wr AL g cp m AD)(hb:Bw wr w3):SsI w w3 AL g cp m AD:=⟨h.len,Ab h.own hb,h.pr,h.so,bt h.bel hb⟩
theorem SsI.at{i:X}(h:SsI w wr AL g cp m AD)(hi:i<m):wr.cell? ⟨g,i,N⟩=M (S (nx AD i)):=by
 obtain⟨b,q,c⟩:=Cy h.own (Sw (i:=i) (by rw[h.len];exact hi));cases q;exact c
theorem SsI.strs(h:SsI w wr AL g cp m AD):Cc wr (p_ g) AD:=Fa (by rw[h.len];exact h.own)
theorem SsI.cap(h:SsI w wr AL g cp m AD):m≤cp∧cp≤maxLen:=by
 rcases h.own.2 with⟨q,_⟩|⟨g',c',cur,hv,_,_,h1,h2,_⟩
 ·cases q
 ·cases hv;exact⟨h1,h2⟩
theorem strsT{b:X}(h:Cc w (M ⟨b,off,N⟩) AL)(k:X):Cc w (M ⟨b,off,N⟩) (AL.take k):=λi hi=>by
 rw[List.length_take]at hi;obtain⟨b',bp,e,c⟩:=h i qb;cases e;refine⟨b,off,rfl,?_⟩;rw[c];congr 2;rw[gG,gG,List.getElem?_take_of_lt qb]
theorem strsD{b:X}(h:Cc w (M ⟨b,off,N⟩) AL)(k:X):Cc w (M ⟨b,off+k,N⟩) (AL.drop k):=λi hi=>by
 rw[List.length_drop]at hi;obtain⟨b',bp,e,c⟩:=h (k+i) qb;cases e;refine⟨b,off+k,rfl,?_⟩;rw[Nat.add_assoc,c];congr 2;rw[gG,gG,List.getElem?_drop]
theorem le_step(h:∀j,j<k→Ap (nx AD j) x=true)(hk:Ap (nx AD k) x=true)(j:X)(hj:j<k+1):Ap (nx AD j) x=true:=by
 rcases Nat.lt_or_ge j k with q|q
 ·exact h j q
 ·obtain rfl:j=k:=qb
  exact hk
theorem SsI.ins{w5:E}{g' l8:X}(h:SsI w wr AL g cp m AD)(hm:m<AL.length)(hx:nx AL m=x)(hk:k≤m)(h1:∀j,j<k→Ap (nx AD j) x=true)(h2:k<m→Ap (nx AD k) x=false)(ho:w5.ownsRow wr.heap.size 9 1 (J (p_ g') (m+1) l8) (m+1) (Aq (AD.take k++x::AD.drop k)))(hb:Bw wr w5):SsI w w5 AL g' l8 (m+1) (AD.take k++x::AD.drop k):=by
 have hl:=h.len;refine⟨by rw[List.length_append,List.length_cons,List.length_take,List.length_drop];omega,Ah ho h.bel.size,?_,ins_pair h.so qb h1 (λq=>h2 qb),bt h.bel hb⟩;refine(ins_perm AD x k).trans ?_
 have e:AL.take (m+1)=AL.take m++[x]:=by
  rw[List.take_add_one,Ix hm];(have:AL[m]=x:=by rw[←hx];unfold nx;rw[gG,Ix hm];rfl);rw[this];rfl
 rw[e];exact((List.Perm.cons x h.pr).trans (List.perm_append_singleton x _).symm)
theorem Yy(AL:List ByteArray)(xa:Option Addr)(c:Nat)(w:World)(hL:AL.length≤1048576)(hs:Cc w xa AL):Calls Tryz.prog 21 #[.slice xa AL.length c] w λe w'=>Below w.heap.size w w'∧∃g cp,e=.returned (.slice (some ⟨g,0,none⟩) AL.length cp)∧w'.ownsRow w.heap.size 9 1 (.slice (some ⟨g,0,none⟩) AL.length cp) AL.length (Aq (Nx AL)):=by
 obtain⟨V,eV⟩:∃V,w.alloc (.cells #[] 9)=V:=⟨_,rfl⟩
 have yp:Hd (SsI w V AL w.heap.size 0 0 []):=⟨rfl,⟨rfl,Or.inr ⟨w.heap.size,0,#[],rfl,Nat.le_refl _,by rw[←eV];exact Ch _ _,Nat.le_refl _,Nat.zero_le _,rfl,rfl⟩⟩,by simp,List.Pairwise.nil,eV▸aN _ _⟩
 have fh:=Ac hs
 clear hs
 obtain⟨i9,Q3,T0,To,S9⟩:=info_parts Tryz.info9b
 go_enter Tryz.func21,Tryz.ntmps21
 go_wp2_with fail
 clear eV
 go_loopw [3,4] (λo i wr=>∃(iN g cp:Nat)(AD:List ByteArray),iN≤AL.length∧o=.slice (some ⟨g,0,none⟩) iN cp∧i=.int .i64 iN∧Hd (SsI w wr AL g cp iN AD)) (λ_ i _=>AL.length-(intOf i).toNat)
 case atStart=>exact⟨0,w.heap.size,0,[],Nat.zero_le _,rfl,rfl,yp⟩
 case round=>
  clear yp;obtain⟨iN,g,cp,AD,hiN,rfl,rfl,HO⟩:=hrel
  by_cases aj:iN<AL.length
  ·have hltI:(iN:Int)<(AL.length:Int):=by omega
   (have ye:(0:Int)≤(iN:Int):=by omega);obtain⟨b1,o1,rfl,cA⟩:=fh.o iN aj;replace cA:w.cell? ⟨b1,o1+iN,none⟩=some (.string (nx AL iN)):=cA;obtain⟨x,ex⟩:∃y,nx AL iN=y:=⟨_,rfl⟩;rw[ex]at cA;have HEX:=Ac ex;have HCA:=Ac cA;clear cA ex;go_wp2_with fail
   go_loopw [5] (λk wr=>∃kN:Nat,kN≤iN∧k=.int .i64 kN∧Hd (∀j,j<kN→Ap (nx AD j) x=true)∧Hd (SsI w wr AL g cp iN AD)) (λk _=>iN-(intOf k).toNat)
   case atStart=>exact⟨0,Nat.zero_le _,rfl,λj hj=>absurd hj (Nat.not_lt_zero _),HO⟩
   case round=>
    clear HO;obtain⟨kN,hkN,rfl,HLE,HO⟩:=hrel
    by_cases hk:kN<iN
    ·have io:(kN:Int)<(iN:Int):=by omega
     (have iy:(0:Int)≤(kN:Int):=by omega);(have e1:decide ((kN:Int)<(iN:Int))=true:=by simp;omega);obtain⟨v,hv⟩:∃v,Ap (nx AD kN) x=v:=⟨_,rfl⟩;have HV:=Ac hv;unfold Ap at hv;cases v
     ·go_wp2_with fail
      refine Lt.begin 99 (λw'=>w'.cell? ⟨g,kN,none⟩=some (.string (nx AD kN))∧w'.cell? ⟨b1,o1+iN,none⟩=some (.string x)) (by kernel_rfl) ?_;obtain⟨wD,eD⟩:∃y,wr.drew=y:=⟨_,rfl⟩;rw[eD];(have ct:Below wr.heap.size wr wD:=by rw[←eD];exact(Below.refl _ _).drew);clear eD;replace HO:=Ac (HO.o.bl ct);clear ct;have gp:wD.cell? ⟨g,kN,none⟩=some (.string (nx AD kN))∧wD.cell? ⟨b1,o1+iN,none⟩=some (.string x):=⟨HO.o.at hk,Aa HO.o.bel HCA.o⟩;change K 0 _
      iterate 15
       refine Lt.ti (v:=?_) gp ?_ ?_;rotate_left 1
       ·rintro w ⟨sA,sB⟩
        go_simp
        first|done|with_reducible rfl
       simp only[gX]
      refine Lt.done (by kernel_rfl) ?_ _;clear gp;have im:Hd (kN<iN→Ap (nx AD kN) x=false):=λ_=>HV.o;clear HV hk io e1;have zw:=HO.o.cap;(have hkc:(kN:Int)≤(cp:Int):=by omega);(have hki:(kN:Int)≤(iN:Int):=by omega);(have hic:(iN:Int)≤(cp:Int):=by omega);obtain⟨V,eV⟩:∃V,wD.alloc (.cells #[] 9)=V:=⟨_,rfl⟩;have ll:Below wD.heap.size wD V:=eV▸aN _ _;have yr:Hd (V.ownsRow wD.heap.size 9 1 (.slice (some ⟨wD.heap.size,0,none⟩) 0 0) 0 []):=⟨rfl,Or.inr ⟨wD.heap.size,0,#[],rfl,Nat.le_refl _,by rw[←eV];exact Ch _ _,Nat.le_refl _,Nat.zero_le _,rfl,rfl⟩⟩;(have HLn:Hd ((Aq (AD.take kN)).length=kN*1):=by show _=_;unfold Aq;simp[HO.o.len];try omega);have HNW:=Ac (Ky (strsT (HO.o.strs.bl ll) kN));have ui:=Ac ll;clear ll zw
      go_wp2_with (first|(at_builtin;refine wpList_append_own _ rfl (.tmp 31) (.tmp 34) 22 rfl wD.heap.size 9 i9 (.string ⟨#[]⟩) 1 16 Tryz.underlying22 Q3 T0 To S9 rfl (by decide) (.slice (some ⟨wD.heap.size,0,none⟩) 0 0) 0 [] rfl yr.o ⟨g,0,none⟩ kN cp (Aq (AD.take kN)) rfl HLn.o HNW.o (Kf _) (by unfold maxLen;omega) (by omega) ui.o.size ?_;intro v' w5 au ae cu;have vk:=Ac au;have cj:Below wD.heap.size wD w5:=ui.o.grown ae ui.o.size (λj hj=>by cases hj;exact Nat.le_refl _);have jm:=Ac cj;have HNI:=Ac cu;clear au ae cu cj))
      clear yr ui HNW eV
      obtain⟨ga,ca,rfl⟩:∃g c,v'=.slice (some ⟨g,0,none⟩) kN c:=by
       rcases vk.o.2 with⟨q,_⟩|⟨g,c,_,q,_⟩
       ·exact absurd (HNI.o.1 q).1 (by simp)
       ·rw[Nat.zero_add]at q;exact⟨g,c,q⟩
      clear HNI;replace vk:Hd (w5.ownsRow wD.heap.size 9 1 (.slice (some ⟨ga,0,none⟩) kN ca) kN (Aq (AD.take kN))):=by have:=vk.o;rw[Nat.zero_add,List.nil_append]at this;exact this
      by_cases hcj:cp=kN
      ·have hik:iN=kN:=by have:=HO.o.cap;omega
       subst hik;subst hcj;refine Lt.begin 99 (λw'=>w'.cell? ⟨b1,o1+cp,none⟩=some (.string x)) (by kernel_rfl) ?_;obtain⟨wE,eE⟩:∃y,w5.drew=y:=⟨_,rfl⟩;rw[eE];(have hbE:Below w5.heap.size w5 wE:=by rw[←eE];exact(Below.refl _ _).drew);clear eE;have G0:=jm.o.trans (hbE.mono jm.o.size);replace vk:=Ac (Ab vk.o hbE);have hcw:wE.cell? ⟨b1,o1+cp,none⟩=some (.string x):=Aa (bt HO.o.bel G0) HCA.o;clear hbE;change K 0 _
       iterate 5
        refine Lt.ti (v:=?_) hcw ?_ ?_;rotate_left 1
        ·rintro w sA
         go_simp
         first|done|with_reducible rfl
        simp only[gX]
       change K 7 _
       iterate 3
        refine Lt.ti (v:=?_) hcw ?_ ?_;rotate_left 1
        ·rintro w sA
         go_simp
         first|done|with_reducible rfl
        simp only[gX]
       (have HLm:Hd ((Aq (AD.drop cp)).length=(cp-cp)*1):=by show _=_;unfold Aq;simp[HO.o.len]);refine Lt.sp (i:=5) (λK hK=>?_);go_simp;refine Dn (Q:=λx=>K _ x) ?_;intro wL fb O6
       try dsimp only
       obtain⟨dL,edL⟩:∃d,wE.heap.size=d:=⟨_,rfl⟩;rw[edL]at O6 ⊢;have xh:=G0.trans (fb.mono G0.size);replace vk:=Ac (Ab vk.o fb);have F9:wL.cell? ⟨b1,o1+cp,none⟩=some (.string x):=Aa fb hcw;refine hK.out _ _ (λ_=>F9) (λ_=>?_);clear hK K edL
       try simp only[gX]
       try simp only[gX]
       refine Lt.sp (i:=6) (λK hK=>?_);refine Du rfl (.tmp 36) (.tmp 41) 22 (by rfl) wD.heap.size 9 i9 (.string ⟨#[]⟩) 1 16 Tryz.underlying22 Q3 T0 To S9 rfl (by decide) ga cp ca (Aq (AD.take cp)) (by rfl) vk.o ⟨dL,0,none⟩ 1 1 [.string x] (by rfl) rfl (World.news_of_block (cs:=#[.string x]) (t:=9) (fr:=(0,0)) O6.o) (by intro u hu;simp at hu;rw[hu];rfl) (by unfold maxLen;omega) (by omega) xh.size ?_;intro gb cb wA jq jh;have hga:wD.heap.size≤ga:=(vk.o.lt ga rfl).1;have bu:Below wD.heap.size wD wA:=xh.grown jh xh.size (λj hj=>by cases hj;exact hga);have G8:=Ac jq;have o8:wD.heap.size≤gb:=(jq.lt gb rfl).1;have D2:Hd (Cc wA (some ⟨g,0,none⟩) AD):=HO.o.strs.bl bu;have hc2:wA.cell? ⟨b1,o1+cp,none⟩=some (.string x):=Aa (bt HO.o.bel bu) HCA.o;refine hK.out _ _ (λ_=>hc2) (λ_=>?_);clear hK K jq jh O6 xh fb vk F9 hcw
       try simp only[gX]
       refine Lt.sp (i:=10) (λK hK=>?_);refine Du rfl (.tmp 42) (.tmp 45) 22 (by rfl) wD.heap.size 9 i9 (.string ⟨#[]⟩) 1 16 Tryz.underlying22 Q3 T0 To S9 rfl (by decide) gb (cp+1) cb (Aq (AD.take cp)++[.string x]) (by rfl) G8.o ⟨g,0,none⟩ 0 0 [] (by rfl) rfl (λj u h=>by simp at h) (λu h=>by simp at h) (by unfold maxLen;omega) (by omega) bu.size ?_;intro gc cc wB M3 hgy;have gh:Below wD.heap.size wD wB:=bu.grown hgy bu.size (λj hj=>by cases hj;exact o8)
       have HSN:Hd (SsI w wB AL gc cc (cp+1) (AD.take cp++x::AD.drop cp)):=by
        refine HO.o.ins aj HEX.o (by omega) HLE.o im.o ?_ gh;(have e1:Aq (AD.take cp++x::AD.drop cp)=Aq (AD.take cp)++[.string x]++[]:=by unfold Aq;simp;exact Nat.le_of_eq HO.o.len);rw[e1];(have e2:cp+1+0=cp+1:=by omega);rw[e2]at M3;exact M3
       (have e2:cp+1+0=cp+1:=by omega);rw[e2];have hc3:wB.cell? ⟨b1,o1+cp,none⟩=some (.string x):=Aa (bt HO.o.bel gh) HCA.o;refine hK.out _ _ (λ_=>hc3) (λ_=>?_);clear hK K M3 hgy G8 D2 bu gh hc2 e2 HO
       try simp only[gX]
       refine Lt.ti (i:=11) (v:=?_) hc3 ?_ ?_;rotate_left 1
       ·rintro w sA
        go_simp
        first|done|with_reducible rfl
       simp only[gX];refine Lt.done (by kernel_rfl) ?_ _;clear hc3;go_wp2;exact⟨⟨cp+1,gc,cc,_,by omega,rfl,by go_num,HSN⟩,by simp[intOf];omega⟩
      ·skip
       refine Lt.begin 99 (λw'=>w'.cell? ⟨b1,o1+iN,none⟩=some (.string x)) (by kernel_rfl) ?_;obtain⟨wE,eE⟩:∃y,w5.drew=y:=⟨_,rfl⟩;rw[eE];(have hbE:Below w5.heap.size w5 wE:=by rw[←eE];exact(Below.refl _ _).drew);clear eE;have G0:=jm.o.trans (hbE.mono jm.o.size);replace vk:=Ac (Ab vk.o hbE);have hcw:wE.cell? ⟨b1,o1+iN,none⟩=some (.string x):=Aa (bt HO.o.bel G0) HCA.o;clear hbE;change K 0 _
       iterate 5
        refine Lt.ti (v:=?_) hcw ?_ ?_;rotate_left 1
        ·rintro w sA
         go_simp
         first|done|with_reducible rfl
        simp only[gX]
       change K 7 _
       iterate 3
        refine Lt.ti (v:=?_) hcw ?_ ?_;rotate_left 1
        ·rintro w sA
         go_simp
         first|done|with_reducible rfl
        simp only[gX]
       (have HLm:Hd ((Aq (AD.drop kN)).length=(iN-kN)*1):=by show _=_;unfold Aq;simp[HO.o.len]);refine Lt.sp (i:=5) (λK hK=>?_);go_simp;refine Dn (Q:=λx=>K _ x) ?_;intro wL fb O6
       try dsimp only
       obtain⟨dL,edL⟩:∃d,wE.heap.size=d:=⟨_,rfl⟩;rw[edL]at O6 ⊢;have xh:=G0.trans (fb.mono G0.size);replace vk:=Ac (Ab vk.o fb);have F9:wL.cell? ⟨b1,o1+iN,none⟩=some (.string x):=Aa fb hcw;refine hK.out _ _ (λ_=>F9) (λ_=>?_);clear hK K edL
       try simp only[gX]
       try simp only[gX]
       refine Lt.sp (i:=6) (λK hK=>?_);refine Du rfl (.tmp 36) (.tmp 41) 22 (by rfl) wD.heap.size 9 i9 (.string ⟨#[]⟩) 1 16 Tryz.underlying22 Q3 T0 To S9 rfl (by decide) ga kN ca (Aq (AD.take kN)) (by rfl) vk.o ⟨dL,0,none⟩ 1 1 [.string x] (by rfl) rfl (World.news_of_block (cs:=#[.string x]) (t:=9) (fr:=(0,0)) O6.o) (by intro u hu;simp at hu;rw[hu];rfl) (by unfold maxLen;omega) (by omega) xh.size ?_;intro gb cb wA jq jh;have hga:wD.heap.size≤ga:=(vk.o.lt ga rfl).1;have bu:Below wD.heap.size wD wA:=xh.grown jh xh.size (λj hj=>by cases hj;exact hga);have G8:=Ac jq;have o8:wD.heap.size≤gb:=(jq.lt gb rfl).1;have D2:Hd (Cc wA (some ⟨g,0,none⟩) AD):=HO.o.strs.bl bu;have hc2:wA.cell? ⟨b1,o1+iN,none⟩=some (.string x):=Aa (bt HO.o.bel bu) HCA.o;refine hK.out _ _ (λ_=>hc2) (λ_=>?_);clear hK K jq jh O6 xh fb vk F9 hcw
       try simp only[gX]
       refine Lt.sp (i:=10) (λK hK=>?_);refine Du rfl (.tmp 42) (.tmp 45) 22 (by rfl) wD.heap.size 9 i9 (.string ⟨#[]⟩) 1 16 Tryz.underlying22 Q3 T0 To S9 rfl (by decide) gb (kN+1) cb (Aq (AD.take kN)++[.string x]) (by rfl) G8.o ⟨g,kN,none⟩ (iN-kN) (cp-kN) (Aq (AD.drop kN)) (by rfl) HLm.o (Ky (by have:=strsD D2.o kN;rw[Nat.zero_add]at this;exact this)) (Kf _) (by unfold maxLen;omega) (by omega) bu.size ?_;intro gc cc wB M3 hgy;have gh:Below wD.heap.size wD wB:=bu.grown hgy bu.size (λj hj=>by cases hj;exact o8)
       have HSN:Hd (SsI w wB AL gc cc (iN+1) (AD.take kN++x::AD.drop kN)):=by
        refine HO.o.ins aj HEX.o (by omega) HLE.o im.o ?_ gh;(have e1:Aq (AD.take kN++x::AD.drop kN)=Aq (AD.take kN)++[.string x]++Aq (AD.drop kN):=by unfold Aq;simp);rw[e1];(have e2:kN+1+(iN-kN)=iN+1:=by omega);rw[e2]at M3;exact M3
       (have e2:kN+1+(iN-kN)=iN+1:=by omega);rw[e2];have hc3:wB.cell? ⟨b1,o1+iN,none⟩=some (.string x):=Aa (bt HO.o.bel gh) HCA.o;refine hK.out _ _ (λ_=>hc3) (λ_=>?_);clear hK K M3 hgy G8 D2 bu gh hc2 e2 HO
       try simp only[gX]
       refine Lt.ti (i:=11) (v:=?_) hc3 ?_ ?_;rotate_left 1
       ·rintro w sA
        go_simp
        first|done|with_reducible rfl
       simp only[gX];refine Lt.done (by kernel_rfl) ?_ _;clear hc3;go_wp2;exact⟨⟨iN+1,gc,cc,_,by omega,rfl,by go_num,HSN⟩,by simp[intOf];omega⟩
     ·go_wp2_with fail
      refine Lt.begin 99 (λw'=>w'.cell? ⟨g,kN,none⟩=some (.string (nx AD kN))∧w'.cell? ⟨b1,o1+iN,none⟩=some (.string x)) (by kernel_rfl) ?_;obtain⟨wD,eD⟩:∃y,wr.drew=y:=⟨_,rfl⟩;rw[eD];(have ct:Below wr.heap.size wr wD:=by rw[←eD];exact(Below.refl _ _).drew);clear eD;replace HO:=Ac (HO.o.bl ct);clear ct;have gp:wD.cell? ⟨g,kN,none⟩=some (.string (nx AD kN))∧wD.cell? ⟨b1,o1+iN,none⟩=some (.string x):=⟨HO.o.at hk,Aa HO.o.bel HCA.o⟩;change K 0 _
      iterate 15
       refine Lt.ti (v:=?_) gp ?_ ?_;rotate_left 1
       ·rintro w ⟨sA,sB⟩
        go_simp
        first|done|with_reducible rfl
       simp only[gX]
      refine Lt.done (by kernel_rfl) ?_ _;clear gp;go_wp2;go_roundw
      case rel=>exact⟨kN+1,by omega,by go_num,Ac (λj hj=>le_step HLE.o HV.o j hj),HO⟩
      case measure=>simp[intOf];omega
    ·have e1:decide (kN<iN)=false:=by simp;omega
     (have iy:(0:Int)≤(kN:Int):=by omega);go_wp2_with fail
     go_quiet (fail)
     obtain⟨wD,ewx⟩:∃y,wr.drewN nq=y:=⟨_,rfl⟩;have wz:Below wr.heap.size wr wD:=ewx▸below_drewN (Below.refl _ _) _;rw[ewx];replace HO:=Ac (HO.o.bl wz);have im:Hd (kN<iN→Ap (nx AD kN) x=false):=λq=>absurd q hk;clear wz ewx hk e1;have zw:=HO.o.cap;(have hkc:(kN:Int)≤(cp:Int):=by omega);(have hki:(kN:Int)≤(iN:Int):=by omega);(have hic:(iN:Int)≤(cp:Int):=by omega);obtain⟨V,eV⟩:∃V,wD.alloc (.cells #[] 9)=V:=⟨_,rfl⟩;have ll:Below wD.heap.size wD V:=eV▸aN _ _;have yr:Hd (V.ownsRow wD.heap.size 9 1 (.slice (some ⟨wD.heap.size,0,none⟩) 0 0) 0 []):=⟨rfl,Or.inr ⟨wD.heap.size,0,#[],rfl,Nat.le_refl _,by rw[←eV];exact Ch _ _,Nat.le_refl _,Nat.zero_le _,rfl,rfl⟩⟩;(have HLn:Hd ((Aq (AD.take kN)).length=kN*1):=by show _=_;unfold Aq;simp[HO.o.len];try omega);have HNW:=Ac (Ky (strsT (HO.o.strs.bl ll) kN));have ui:=Ac ll;clear ll zw
     go_wp2_with (first|(at_builtin;refine wpList_append_own _ rfl (.tmp 31) (.tmp 34) 22 rfl wD.heap.size 9 i9 (.string ⟨#[]⟩) 1 16 Tryz.underlying22 Q3 T0 To S9 rfl (by decide) (.slice (some ⟨wD.heap.size,0,none⟩) 0 0) 0 [] rfl yr.o ⟨g,0,none⟩ kN cp (Aq (AD.take kN)) rfl HLn.o HNW.o (Kf _) (by unfold maxLen;omega) (by omega) ui.o.size ?_;intro v' w5 au ae cu;have vk:=Ac au;have cj:Below wD.heap.size wD w5:=ui.o.grown ae ui.o.size (λj hj=>by cases hj;exact Nat.le_refl _);have jm:=Ac cj;have HNI:=Ac cu;clear au ae cu cj))
     clear yr ui HNW eV
     obtain⟨ga,ca,rfl⟩:∃g c,v'=.slice (some ⟨g,0,none⟩) kN c:=by
      rcases vk.o.2 with⟨q,_⟩|⟨g,c,_,q,_⟩
      ·exact absurd (HNI.o.1 q).1 (by simp)
      ·rw[Nat.zero_add]at q;exact⟨g,c,q⟩
     clear HNI;replace vk:Hd (w5.ownsRow wD.heap.size 9 1 (.slice (some ⟨ga,0,none⟩) kN ca) kN (Aq (AD.take kN))):=by have:=vk.o;rw[Nat.zero_add,List.nil_append]at this;exact this
     by_cases hcj:cp=kN
     ·have hik:iN=kN:=by have:=HO.o.cap;omega
      subst hik;subst hcj;refine Lt.begin 99 (λw'=>w'.cell? ⟨b1,o1+cp,none⟩=some (.string x)) (by kernel_rfl) ?_;obtain⟨wE,eE⟩:∃y,w5.drew=y:=⟨_,rfl⟩;rw[eE];(have hbE:Below w5.heap.size w5 wE:=by rw[←eE];exact(Below.refl _ _).drew);clear eE;have G0:=jm.o.trans (hbE.mono jm.o.size);replace vk:=Ac (Ab vk.o hbE);have hcw:wE.cell? ⟨b1,o1+cp,none⟩=some (.string x):=Aa (bt HO.o.bel G0) HCA.o;clear hbE;change K 0 _
      iterate 5
       refine Lt.ti (v:=?_) hcw ?_ ?_;rotate_left 1
       ·rintro w sA
        go_simp
        first|done|with_reducible rfl
       simp only[gX]
      change K 7 _
      iterate 3
       refine Lt.ti (v:=?_) hcw ?_ ?_;rotate_left 1
       ·rintro w sA
        go_simp
        first|done|with_reducible rfl
       simp only[gX]
      (have HLm:Hd ((Aq (AD.drop cp)).length=(cp-cp)*1):=by show _=_;unfold Aq;simp[HO.o.len]);refine Lt.sp (i:=5) (λK hK=>?_);go_simp;refine Dn (Q:=λx=>K _ x) ?_;intro wL fb O6
      try dsimp only
      obtain⟨dL,edL⟩:∃d,wE.heap.size=d:=⟨_,rfl⟩;rw[edL]at O6 ⊢;have xh:=G0.trans (fb.mono G0.size);replace vk:=Ac (Ab vk.o fb);have F9:wL.cell? ⟨b1,o1+cp,none⟩=some (.string x):=Aa fb hcw;refine hK.out _ _ (λ_=>F9) (λ_=>?_);clear hK K edL
      try simp only[gX]
      try simp only[gX]
      refine Lt.sp (i:=6) (λK hK=>?_);refine Du rfl (.tmp 36) (.tmp 41) 22 (by rfl) wD.heap.size 9 i9 (.string ⟨#[]⟩) 1 16 Tryz.underlying22 Q3 T0 To S9 rfl (by decide) ga cp ca (Aq (AD.take cp)) (by rfl) vk.o ⟨dL,0,none⟩ 1 1 [.string x] (by rfl) rfl (World.news_of_block (cs:=#[.string x]) (t:=9) (fr:=(0,0)) O6.o) (by intro u hu;simp at hu;rw[hu];rfl) (by unfold maxLen;omega) (by omega) xh.size ?_;intro gb cb wA jq jh;have hga:wD.heap.size≤ga:=(vk.o.lt ga rfl).1;have bu:Below wD.heap.size wD wA:=xh.grown jh xh.size (λj hj=>by cases hj;exact hga);have G8:=Ac jq;have o8:wD.heap.size≤gb:=(jq.lt gb rfl).1;have D2:Hd (Cc wA (some ⟨g,0,none⟩) AD):=HO.o.strs.bl bu;have hc2:wA.cell? ⟨b1,o1+cp,none⟩=some (.string x):=Aa (bt HO.o.bel bu) HCA.o;refine hK.out _ _ (λ_=>hc2) (λ_=>?_);clear hK K jq jh O6 xh fb vk F9 hcw
      try simp only[gX]
      refine Lt.sp (i:=10) (λK hK=>?_);refine Du rfl (.tmp 42) (.tmp 45) 22 (by rfl) wD.heap.size 9 i9 (.string ⟨#[]⟩) 1 16 Tryz.underlying22 Q3 T0 To S9 rfl (by decide) gb (cp+1) cb (Aq (AD.take cp)++[.string x]) (by rfl) G8.o ⟨g,0,none⟩ 0 0 [] (by rfl) rfl (λj u h=>by simp at h) (λu h=>by simp at h) (by unfold maxLen;omega) (by omega) bu.size ?_;intro gc cc wB M3 hgy;have gh:Below wD.heap.size wD wB:=bu.grown hgy bu.size (λj hj=>by cases hj;exact o8)
      have HSN:Hd (SsI w wB AL gc cc (cp+1) (AD.take cp++x::AD.drop cp)):=by
       refine HO.o.ins aj HEX.o (by omega) HLE.o im.o ?_ gh;(have e1:Aq (AD.take cp++x::AD.drop cp)=Aq (AD.take cp)++[.string x]++[]:=by unfold Aq;simp;exact Nat.le_of_eq HO.o.len);rw[e1];(have e2:cp+1+0=cp+1:=by omega);rw[e2]at M3;exact M3
      (have e2:cp+1+0=cp+1:=by omega);rw[e2];have hc3:wB.cell? ⟨b1,o1+cp,none⟩=some (.string x):=Aa (bt HO.o.bel gh) HCA.o;refine hK.out _ _ (λ_=>hc3) (λ_=>?_);clear hK K M3 hgy G8 D2 bu gh hc2 e2 HO
      try simp only[gX]
      refine Lt.ti (i:=11) (v:=?_) hc3 ?_ ?_;rotate_left 1
      ·rintro w sA
       go_simp
       first|done|with_reducible rfl
      simp only[gX];refine Lt.done (by kernel_rfl) ?_ _;clear hc3;go_wp2;exact⟨⟨cp+1,gc,cc,_,by omega,rfl,by go_num,HSN⟩,by simp[intOf];omega⟩
     ·skip
      refine Lt.begin 99 (λw'=>w'.cell? ⟨b1,o1+iN,none⟩=some (.string x)) (by kernel_rfl) ?_;obtain⟨wE,eE⟩:∃y,w5.drew=y:=⟨_,rfl⟩;rw[eE];(have hbE:Below w5.heap.size w5 wE:=by rw[←eE];exact(Below.refl _ _).drew);clear eE;have G0:=jm.o.trans (hbE.mono jm.o.size);replace vk:=Ac (Ab vk.o hbE);have hcw:wE.cell? ⟨b1,o1+iN,none⟩=some (.string x):=Aa (bt HO.o.bel G0) HCA.o;clear hbE;change K 0 _
      iterate 5
       refine Lt.ti (v:=?_) hcw ?_ ?_;rotate_left 1
       ·rintro w sA
        go_simp
        first|done|with_reducible rfl
       simp only[gX]
      change K 7 _
      iterate 3
       refine Lt.ti (v:=?_) hcw ?_ ?_;rotate_left 1
       ·rintro w sA
        go_simp
        first|done|with_reducible rfl
       simp only[gX]
      (have HLm:Hd ((Aq (AD.drop kN)).length=(iN-kN)*1):=by show _=_;unfold Aq;simp[HO.o.len]);refine Lt.sp (i:=5) (λK hK=>?_);go_simp;refine Dn (Q:=λx=>K _ x) ?_;intro wL fb O6
      try dsimp only
      obtain⟨dL,edL⟩:∃d,wE.heap.size=d:=⟨_,rfl⟩;rw[edL]at O6 ⊢;have xh:=G0.trans (fb.mono G0.size);replace vk:=Ac (Ab vk.o fb);have F9:wL.cell? ⟨b1,o1+iN,none⟩=some (.string x):=Aa fb hcw;refine hK.out _ _ (λ_=>F9) (λ_=>?_);clear hK K edL
      try simp only[gX]
      try simp only[gX]
      refine Lt.sp (i:=6) (λK hK=>?_);refine Du rfl (.tmp 36) (.tmp 41) 22 (by rfl) wD.heap.size 9 i9 (.string ⟨#[]⟩) 1 16 Tryz.underlying22 Q3 T0 To S9 rfl (by decide) ga kN ca (Aq (AD.take kN)) (by rfl) vk.o ⟨dL,0,none⟩ 1 1 [.string x] (by rfl) rfl (World.news_of_block (cs:=#[.string x]) (t:=9) (fr:=(0,0)) O6.o) (by intro u hu;simp at hu;rw[hu];rfl) (by unfold maxLen;omega) (by omega) xh.size ?_;intro gb cb wA jq jh;have hga:wD.heap.size≤ga:=(vk.o.lt ga rfl).1;have bu:Below wD.heap.size wD wA:=xh.grown jh xh.size (λj hj=>by cases hj;exact hga);have G8:=Ac jq;have o8:wD.heap.size≤gb:=(jq.lt gb rfl).1;have D2:Hd (Cc wA (some ⟨g,0,none⟩) AD):=HO.o.strs.bl bu;have hc2:wA.cell? ⟨b1,o1+iN,none⟩=some (.string x):=Aa (bt HO.o.bel bu) HCA.o;refine hK.out _ _ (λ_=>hc2) (λ_=>?_);clear hK K jq jh O6 xh fb vk F9 hcw
      try simp only[gX]
      refine Lt.sp (i:=10) (λK hK=>?_);refine Du rfl (.tmp 42) (.tmp 45) 22 (by rfl) wD.heap.size 9 i9 (.string ⟨#[]⟩) 1 16 Tryz.underlying22 Q3 T0 To S9 rfl (by decide) gb (kN+1) cb (Aq (AD.take kN)++[.string x]) (by rfl) G8.o ⟨g,kN,none⟩ (iN-kN) (cp-kN) (Aq (AD.drop kN)) (by rfl) HLm.o (Ky (by have:=strsD D2.o kN;rw[Nat.zero_add]at this;exact this)) (Kf _) (by unfold maxLen;omega) (by omega) bu.size ?_;intro gc cc wB M3 hgy;have gh:Below wD.heap.size wD wB:=bu.grown hgy bu.size (λj hj=>by cases hj;exact o8)
      have HSN:Hd (SsI w wB AL gc cc (iN+1) (AD.take kN++x::AD.drop kN)):=by
       refine HO.o.ins aj HEX.o (by omega) HLE.o im.o ?_ gh;(have e1:Aq (AD.take kN++x::AD.drop kN)=Aq (AD.take kN)++[.string x]++Aq (AD.drop kN):=by unfold Aq;simp);rw[e1];(have e2:kN+1+(iN-kN)=iN+1:=by omega);rw[e2]at M3;exact M3
      (have e2:kN+1+(iN-kN)=iN+1:=by omega);rw[e2];have hc3:wB.cell? ⟨b1,o1+iN,none⟩=some (.string x):=Aa (bt HO.o.bel gh) HCA.o;refine hK.out _ _ (λ_=>hc3) (λ_=>?_);clear hK K M3 hgy G8 D2 bu gh hc2 e2 HO
      try simp only[gX]
      refine Lt.ti (i:=11) (v:=?_) hc3 ?_ ?_;rotate_left 1
      ·rintro w sA
       go_simp
       first|done|with_reducible rfl
      simp only[gX];refine Lt.done (by kernel_rfl) ?_ _;clear hc3;go_wp2;exact⟨⟨iN+1,gc,cc,_,by omega,rfl,by go_num,HSN⟩,by simp[intOf];omega⟩
  ·have hltI:¬ (iN:Int)<(AL.length:Int):=by omega
   have eN:iN=AL.length:=by omega
   have HEND:Hd (wr.ownsRow w.heap.size 9 1 (.slice (some ⟨g,0,none⟩) AL.length cp) AL.length (Aq (Nx AL))):=by
    have hp:=HO.o.pr;rw[eN,List.take_length]at hp;rw[←srtB_eq hp HO.o.so,←eN];exact HO.o.own
   have HBE:=Ac HO.o.bel;subst eN;clear HO;go_wp2;go_ret;exact⟨HBE.o,g,cp,rfl,HEND.o⟩
end Go.Proofs.YtbkkjodaaijimaaGreatDoor
