import Derived.Test.YtfgoholldpeabaaGreatDoorTOrd
namespace Go.Proofs.YtfgoholldpeabaaGreatDoor
open _root_.Go.Proofs.Tryz Go.RowKit
set_option linter.unusedVariables false
set_option linter.unusedSimpArgs false
variable {is:List I3} {k B g n cap j T e sz lo hi:Nat} {xs:List Value} {w w':World} {v:Value} {ob:Option Nat}
theorem Qbx (h:Cl is k xs) (hx:k*3+2<xs.length) :
    Cl is (k+1) (((xs.set (k*3) (I (ix is k).op)).set (k*3+1) (.string (ix is k).text)).set (k*3+2) (I (ix is k).n)):=by
  exact qib
theorem row3_own (hn:n=is.length) (h:w.ownsRow B 128 3 (.slice (p_ g) n cap) n xs) (hf:Cl is n xs):Cj w (p_ g) is:=by
  exact qir
theorem Tryz.info128:(prog.info? 128).map (fun i=>(i.zero,i.size,i.bytes))=some (some (.agg #[I 0,.string ByteArray.empty,I 0]),3,32):=qi
theorem Jr (h:w.ownsRow B 128 3 (.slice (some ⟨g,0,none⟩) n cap) n xs) (hj:j<n*3):∃ v,w.cell? ⟨g,j,none⟩=some v:=by
  have hl:=h.1;exact⟨xs[j]'(by omega),by rw[h.cellAt j hj];exact Iu _⟩
theorem Nv {w1:World} {b:Nat} (h:Bw w w1) (hb:w.heap.size ≤ b) (v:Value):Bw w (w1.setCell ⟨b,j,none⟩ v):=h.setCell hb v
def Ox (ss:List By):Nat:=(ss.map ByteArray.size).sum
theorem Rr (ss:List By) (k:Nat) (h:k<ss.length):Ox (ss.take (k+1))=Ox (ss.take k)+(ss.getD k ByteArray.empty).size:=by
  have e:=List.take_succ_eq_append_getElem h;unfold Ox;rw[e,List.map_append,List.sum_append,gG,Iu h];simp
theorem getD_le {ss:List By} (h:∀ s∈ss,s.size ≤ maxLen) (k:Nat):(ss.getD k ByteArray.empty).size ≤ maxLen:=by
  rw[gG]
  cases hk:ss[k]? with
  | none=>simp[maxLen]
  | some s=>exact h s (List.mem_of_getElem? hk)
theorem Tryz.info9:(prog.info? 9).map (fun i=>(i.zero,i.size,i.bytes))=some (some (.string ByteArray.empty),1,16):=qi
def Ee (ss:List By) (k n:Nat):List Value:=(ss.take k).map Value.string++List.replicate (n-k) (Value.string ByteArray.empty)
theorem Ia (ss:List By) (k:Nat) (h:k ≤ ss.length):(Ee ss k ss.length).length=ss.length:=by
  simp[Ee];omega
theorem Uf (ss:List By) (k:Nat) (h:k<ss.length):(Ee ss k ss.length).set k (.string (ss.getD k ByteArray.empty))=Ee ss (k+1) ss.length:=by
  unfold Ee;have e:=List.take_succ_eq_append_getElem h
  have hr:List.replicate (ss.length-k) (Value.string ByteArray.empty)=Value.string ByteArray.empty :: List.replicate (ss.length-(k+1)) (Value.string ByteArray.empty):=by
    rw[show ss.length-k=(ss.length-(k+1))+1 from qb,List.replicate_succ]
  rw[e,hr,List.set_append_right _ _ qh];have hk:k-((ss.take k).map Value.string).length=0:=qh;rw[hk,gG,Iu h,List.map_append,List.append_assoc];rfl
theorem filled_get (ss:List By) (i:Nat) (h:i<ss.length):(Ee ss ss.length ss.length)[i]?=some (.string (ss.getD i ByteArray.empty)):=by
  simp[Ee,gG,Iu h]
theorem Pm (n:Nat):(madeCells (Value.string ByteArray.empty).cells (n*1)).toList=List.replicate n (.string ByteArray.empty):=by
  exact qmg
theorem Qbv {is:List G3} (h:Bo is k xs) (hx:k*3+2<xs.length) :
    Bo is (k+1) (((xs.set (k*3) (.string (gx is k).name)).set (k*3+1) (.bool (gx is k).ask)).set (k*3+2) (.string (gx is k).sum)):=by
  exact qib
theorem Qar {is:List G3} (hn:n=is.length) (h:w.ownsRow B T 3 (.slice (p_ g) n cap) n xs) (hf:Bo is n xs):Hr w (p_ g) is:=by
  exact qir
theorem Bl (h:w.ownsRow B T 3 (.slice (some ⟨g,0,none⟩) n cap) n xs) (hj:j<n*3):∃ v,w.cell? ⟨g,j,none⟩=some v:=by
  have hl:=h.1;exact⟨xs[j]'(by omega),by rw[h.cellAt j hj];exact Iu _⟩
theorem Tryz.info125:(prog.info? 125).map (fun i=>(i.zero,i.size,i.bytes))=some (some (.agg #[.string ByteArray.empty,.bool false,.string ByteArray.empty]),3,40):=qi
structure Xk (w:World) (a:Option Addr) (is:List I3) (la:Option Addr) (gs:List G3) (out:By):Prop where
  rc:Cj w a is
  rg:Hr w la gs
  lc:is.length ≤ maxLen
  lg:gs.length ≤ maxLen
  xc:∀ i,(ix is i).text.size ≤ maxLen
  ng:∀ i,(gx gs i).name.size ≤ maxLen
  sg:∀ i,(gx gs i).sum.size ≤ maxLen
  so:out.size ≤ maxLen
structure T3 where
  code:List I3
  looks:List G3
  out:By
def q00:T3:=⟨[],[],ByteArray.empty⟩
def qx (is:List T3) (i:Nat):T3:=is.getD i q00
def Lx (w:World) (a:Option Addr) (is:List T3):Prop:=
  ∀ i,i<is.length→∃ b off,a=some ⟨b,off,none⟩∧∃ ca cc la lc,w.cell? ⟨b,off+i*3,none⟩=some (.slice ca (qx is i).code.length cc)∧w.cell? ⟨b,off+i*3+1,none⟩=some (.slice la (qx is i).looks.length lc)∧w.cell? ⟨b,off+i*3+2,none⟩=some (.string (qx is i).out)∧Cj w ca (qx is i).code∧Hr w la (qx is i).looks
theorem Lx.bl {a:Option Addr} {is:List T3} (h:Lx w a is) (hb:Bw w w'):Lx w' a is:=by
  intro i hi;obtain⟨b,off,ha,ca,cc,la,lc,h1,h2,h3,h4,h5⟩:=h i hi;exact⟨b,off,ha,ca,cc,la,lc,Aa hb h1,Aa hb h2,Aa hb h3,h4.bl hb,h5.bl hb⟩
structure QsOk (rs:List T3):Prop where
  lr:rs.length ≤ maxLen
  lc:∀ i,(qx rs i).code.length ≤ maxLen
  lg:∀ i,(qx rs i).looks.length ≤ maxLen
  xc:∀ i j,(ix (qx rs i).code j).text.size ≤ maxLen
  ng:∀ i j,(gx (qx rs i).looks j).name.size ≤ maxLen
  sg:∀ i j,(gx (qx rs i).looks j).sum.size ≤ maxLen
  so:∀ i,(qx rs i).out.size ≤ maxLen
def Ga (rs:List T3):Prop:=rs.length ≤ 1048576∧∀ i,i<rs.length→(qx rs i).code.length ≤ 1048576∧(qx rs i).looks.length ≤ 1048576
theorem Tryz.info97:(prog.info? 97).map (fun i=>(i.zero,i.size,i.bytes))=some (some (.agg #[nS,nS,.string ByteArray.empty]),3,64):=qi

section
variable {P:Program} {ops:Array Oper} {Q:Exit→Act→World→Prop} {S:World→Prop} {z:Nat}
end

def Df (ob:Option Nat) (w w':World):Prop:=∀ b,b<w.heap.size→some b≠ob→w'.heap[b]?=w.heap[b]?
theorem own_keep (h:w.ownsRow B e sz v n xs) (hk:Df ob w w') (hne:∀ b,v.ownBlock=some b→some b≠ob):w'.ownsRow B e sz v n xs:=by
  refine⟨h.1,?_⟩
  rcases h.2 with h2|⟨g,cap,cur,hv,hg,hh,r⟩
  · exact Or.inl h2
  · refine Or.inr ⟨g,cap,cur,hv,hg,?_,r⟩
    subst hv;rw[hk g (h.lt g rfl).2 (hne g rfl)];exact hh
theorem Cs (h:w.ownsRow B e sz v n xs):(v=nS∧n=0)∨∃ g cap,v=.slice (p_ g) n cap:=by
  rcases h.2 with h|⟨g,cap,cur,hv,hg,r⟩
  · exact Or.inl h
  · exact Or.inr ⟨g,cap,hv⟩
theorem Dj.trans {a b c:World} (h:Dj lo hi a b) (hs:a.heap.size ≤ b.heap.size) (k:Dj lo hi b c):Dj lo hi a c:=fun i hi hr=>(k i qb hr).trans (h i hi hr)
theorem Dj.of_below (h:Bw w w'):Dj lo hi w w':=fun b hb _=>h.block b hb
theorem Df.keepR (h:Df ob w w') (mw:∀ b,ob=some b→lo ≤ b∧b<hi):Dj lo hi w w':=fun b hb hr=>h b hb (fun e=>by have:=mw b e.symm;omega)
theorem Bg.bl (h:Bg w lo hi e sz v n xs) (hb:Bw w w'):Bg w' lo hi e sz v n xs:=h.same fun b e=>hb.block b (h.own.lt b e).2
theorem Bg.new (h:w.ownsRow lo e sz v n xs):Bg w lo w.heap.size e sz v n xs:=⟨h,fun b e=>(h.lt b e).2⟩
theorem Ch {ys:List Value} (h:Bg w lo hi e sz v n ys):∃ va vc,v=.slice va n vc:=by
  rcases Cs h.own with ⟨hv,rfl⟩|⟨g',c',hv⟩
  · exact⟨_,_,hv⟩
  · exact⟨_,_,hv⟩
end Go.Proofs.YtfgoholldpeabaaGreatDoor
