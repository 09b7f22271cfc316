import Derived.Test.YtoakjccojifagaaGreatDoorBaA
namespace Go.Proofs.YtoakjccojifagaaGreatDoor
open _root_.Go.Proofs.Tryz Go.RowKit Go.Deep
open Value renaming slice->J
open _root_ renaming List->L,Nat->X
set_option linter.unusedVariables false
set_option linter.unusedSimpArgs false
set_option maxHeartbeats 8000000
set_option maxRecDepth 100000
theorem BW.base{w:World}{lo lo':X}{d:BD}{cv tx qv nv ev:Value}{zs:L Value}{kv lv:X→Value}(h:BW w lo d cv tx qv nv ev zs kv lv)(hl:lo'≤lo):BW w lo' d cv tx qv nv ev zs kv lv:=
 ⟨Ah h.ch hl,Ah h.txs hl,⟨Ah h.rq.row hl,h.rq.fil,λi hi=>by obtain⟨ys,a,b⟩:=h.rq.code i hi;exact⟨ys,Ah a hl,b⟩,λi hi=>by obtain⟨ys,a,b⟩:=h.rq.look i hi;exact⟨ys,Ah a hl,b⟩,h.rq.apc,h.rq.apl⟩,Ah h.ran hl,Ah h.held hl⟩
theorem mostT_le(k:Int):Ko k≤2000:=by unfold Ko;repeat' split<;>decide
theorem prog_text{is:L I3}(h:Ao is=true)(j:X):(ix is j).text.size≤maxLen:=by
 by_cases hj:j<is.length
 ·unfold Ao at h
  simp only[Bool.and_eq_true,decide_eq_true_eq]at h;have h1:=h.2 j hj;unfold Gd at h1;simp only[Bool.and_eq_true,decide_eq_true_eq]at h1;have h2:=mostT_le (Eo (ix is j).op);unfold maxLen;omega
 ·have:ix is j=i0:=by simp[ix,gG,List.getElem?_eq_none (Nat.le_of_not_lt hj)]
  rw[this];unfold i0 maxLen;decide
theorem Hx.qs{n:X}{T:L By}{R:L T3}(h:Hx n T R)(hn:n≤8):QsOk R∧En R∧∀i,(nx T i).size≤maxLen:=by
 have hq:∀i,¬ i<R.length→qx R i=⟨[],[],ByteArray.empty⟩:=λi hi=>by simp[qx,gG,List.getElem?_eq_none (Nat.le_of_not_lt hi)];rfl
 have hg:∀(gs:L G3)(j:X),¬ j<gs.length→gx gs j=g00:=λgs j hj=>by simp[gx,gG,List.getElem?_eq_none (Nat.le_of_not_lt hj)]
 have e0:ByteArray.empty.size≤maxLen:=by unfold maxLen;decide
 refine⟨⟨by have:=h.2.1;unfold maxLen;omega,λi=>?_,λi=>?_,λi j=>?_,λi j=>?_,λi j=>?_,λi=>?_⟩,⟨by have:=h.2.1;omega,λi hi=>?_⟩,λi=>?_⟩
 ·by_cases hi:i<R.length
  ·have:=(Gx (h.2.2 i hi).1).2;unfold maxLen;omega
  ·rw[hq i hi];exact Nat.zero_le _
 ·by_cases hi:i<R.length
  ·have:=(h.2.2 i hi).2.2.1;unfold maxLen;omega
  ·rw[hq i hi];exact Nat.zero_le _
 ·by_cases hi:i<R.length
  ·exact prog_text (h.2.2 i hi).1 j
  ·rw[hq i hi];show(ix [] j).text.size≤_;simp[ix,i0]
 ·by_cases hi:i<R.length
  ·by_cases hj:j<(qx R i).looks.length
   ·have:=((h.2.2 i hi).2.2.2 j hj).1.2;unfold maxLen;omega
   ·rw[hg _ _ hj];exact e0
  ·rw[hq i hi];show(gx [] j).name.size≤_;rw[hg _ _ qg];exact e0
 ·by_cases hi:i<R.length
  ·by_cases hj:j<(qx R i).looks.length
   ·have:=((h.2.2 i hi).2.2.2 j hj).2;unfold maxLen;omega
   ·rw[hg _ _ hj];exact e0
  ·rw[hq i hi];show(gx [] j).sum.size≤_;rw[hg _ _ qg];exact e0
 ·by_cases hi:i<R.length
  ·have:=(h.2.2 i hi).2.1;unfold maxLen;omega
  ·rw[hq i hi];exact e0
 ·have h1:=(Gx (h.2.2 i hi).1).2
  have h2:=(h.2.2 i hi).2.2.1;omega
 ·by_cases hi:i<T.length
  ·have:=h.1.2.1 i hi;unfold maxLen;omega
  ·have:nx T i=ByteArray.empty:=by simp[nx,gG,List.getElem?_eq_none (Nat.le_of_not_lt hi)]
   rw[this];exact e0
theorem Ue(n:Int)(tb tc:X)(qa sa ta:Option Addr)(qc c1 c2:X)(T:L By)(R:L T3)(ss:L S2)(ts:L T2)(nm:By)(w:World)(cw:Mc w (p_ tb) T qa R)(yj:Rl w qa R)(hr:R.length≤1048576)(km:∀i,i<R.length→(qx R i).code.length≤1048576∧(qx R i).looks.length≤1048576)(wb:Lm w sa ss ta ts)(ly:Ew ss ts)(de:nm.size<=9223372036854775807):Calls prog 27 #[.agg #[I n,J (p_ tb) T.length tc,J qa R.length qc],.agg #[J sa ss.length c1,J ta ts.length c2],.string nm] w λe w'=>Bw w w'∧∃d cv tx qv nv ev zs kv lv,e=.returned (.agg (bV d cv tx qv nv ev))∧SaysB n ss ts T R nm d∧BW w' w.heap.size d cv tx qv nv ev zs kv lv∧∃g p,tx=J (p_ g) d.T.length p:=by
 by_cases hv:Il n T R∧Gu ss ts=0∧Ar nm
 ·obtain⟨m,rfl⟩:=Int.eq_ofNat_of_zero_le (show 0<=n by have:=hv.1.1;omega)
  refine(We m tb qa sa ta tc qc c1 c2 T R ss ts nm w hv.1 hv.2.1 hv.2.2 cw yj wb ly).mono ?_;rintro e w' ⟨hb,ms',s',a,bu,⟨d,tx,qv,nv,ev,rfl,rfl,hs,h3,h4⟩|⟨b,x,y,cv,tx,qv,A,B',rfl,h1,rfl,hs⟩⟩
  ·obtain⟨zs,kv,lv,r⟩:=hs.rcs
   exact⟨hb,⟨d.c,d.t,[],m,s'.T,s'.R,s'.ran,s'.held,⟨#[]⟩,⟨#[]⟩⟩,_,_,_,_,_,zs,kv,lv,rfl,Or.inr ⟨hv,ms',s',_,bu,Or.inl ⟨d,rfl,rfl⟩⟩,⟨Fq _ _,hs.txt,r,h3,h4⟩,hs.txa⟩
  ·obtain⟨rfl,rfl,ho,rfl,rfl⟩:=h1.says
   obtain⟨zs,kv,lv,r⟩:=hs.rcs;exact⟨hb,⟨Ja b,txF b,chF b,m,T,R,[],[],clA b,clB b⟩,_,_,_,_,_,zs,kv,lv,rfl,Or.inr ⟨hv,ms',s',_,bu,Or.inr ⟨b,rfl,rfl⟩⟩,⟨ho,hs.txt,r,Fq _ _,Fq _ _⟩,hs.txa⟩
 ·refine(Yy n tb 0 tc qa sa ta qc c1 c2 T R ss ts nm w cw yj hr km wb ly de hv).mono ?_
  rintro e w' ⟨hb,v,rfl,tx,qv,rfl,hs⟩;obtain⟨zs,kv,lv,r⟩:=hs.rcs;exact⟨hb,⟨9,⟨#[]⟩,[],n,T,R,[],[],⟨#[]⟩,⟨#[]⟩⟩,_,_,_,_,_,zs,kv,lv,rfl,Or.inl ⟨hv,rfl⟩,⟨Fq _ _,hs.txt,r,Fq _ _,Fq _ _⟩,hs.txa⟩
end Go.Proofs.YtoakjccojifagaaGreatDoor
