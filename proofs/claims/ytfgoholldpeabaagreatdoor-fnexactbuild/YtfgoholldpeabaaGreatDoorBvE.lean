import Derived.Test.YtfgoholldpeabaaGreatDoorBvD
namespace Go.Proofs.YtfgoholldpeabaaGreatDoor
open _root_.Go.Proofs.Tryz Go.RowKit Go.Deep
set_option linter.unusedVariables false
set_option linter.unusedSimpArgs false
set_option maxHeartbeats 8000000
set_option maxRecDepth 100000
theorem Yj (n:Int) (tb tf tc:Nat) (qa sa ta:Option Addr) (qc c1 c2:Nat) (T:List By) (R:List T3) (ss:List S2) (ts:List T2) (nm:By) (w:World) (cz:Oq w (some ⟨tb,tf,none⟩) T qa R) (A4:Wh w qa R) (hr:R.length ≤ 1048576) (kj:∀ i,i<R.length→(qx R i).code.length ≤ 1048576∧(qx R i).looks.length ≤ 1048576) (zc:Ll w sa ss ta ts) (mr:Fb ss ts) (cr:nm.size<=9223372036854775807) (gk:¬ (Kx n T R/\Hn ss ts=0/\Am nm)) :
    Calls prog 6 #[.agg #[I n,.slice (some ⟨tb,tf,none⟩) T.length tc,.slice qa R.length qc],.agg #[.slice sa ss.length c1,.slice ta ts.length c2],.string nm] w fun e w'=>Bw w w'/\∃ v,e=.returned v/\Zr w.heap.size n T R v w':=by
  obtain⟨W,eW⟩:=Ai (((w.alloc (.cells #[I n,.slice (some ⟨tb,tf,none⟩) T.length tc,.slice qa R.length qc] 34)).alloc (.cells #[.slice sa ss.length c1,.slice ta ts.length c2] 42)).alloc (.cells z10 36));have bn:Bw w W:=qck;have HQ:Hd (W.heap[w.heap.size]?=some (.cells #[I n,.slice (some ⟨tb,tf,none⟩) T.length tc,.slice qa R.length qc] 34 (0,0))):=qcn
  have HP:Hd (W.heap[w.heap.size+1]?=some (.cells #[.slice sa ss.length c1,.slice ta ts.length c2] 42 (0,0))):=by
    exact qci
  have HZ:Hd (W.heap[w.heap.size+1+1]?=some (.cells z10 36 (0,0))):=by
    exact qch
  have up:=Af HZ.o;have vk:=hid bn;obtain⟨q0,q1,q2,qf⟩:=Ea HQ.o;obtain⟨x0,x1⟩:=Fr HP.o;have HVS:=hid (Jh n _ _ tc qc T R W (cz.bl bn));have HCK:=hid (fun (V:World) (hV:Bw w V)=>Nu sa ta c1 c2 ss ts V (zc.bl hV) mr);have O6:=hid (fun (V:World) (hV:Bw w V)=>Oj n tb tf tc qa qc T R V (cz.st.bl hV) (A4.bl hV) cz.lt hr kj);have jo:=hid gk;clear cz A4 hr kj zc mr bn gk;go_enter func6,ntmps6;go_wp2_with fail;clear eW q0 q1 q2 qf x0 x1;refine HVS.o.mono ?_;clear HVS;rintro e w1 ⟨af,b,rfl,hbi⟩;replace HQ:=hid (Ab af HQ.o);replace HP:=hid (Ab af HP.o);replace HZ:=hid (Ab af HZ.o);have fw:=hid (bt vk.o af);have eg:=af.size;clear af vk;cases b
  · clear hbi HCK jo
    obtain⟨x0,x1,x2,xf⟩:=Ea HQ.o;go_wp2_with fail;clear x0 x1 x2 xf;refine(O6.o w1 fw.o).mono ?_;rintro e w9 ⟨N4,g1,p1,v2,rfl,o1,o2⟩;obtain⟨a2,p2,rfl,_⟩:=o2.sl;have HZ9:=hid (Ab N4 HZ.o);have HB9:=hid (bt fw.o N4);have D8:=hid (show Fs w9 w.heap.size (.slice (p_ g1) T.length p1) (.slice a2 R.length p2) T R from ⟨Ah o1.own (zo fw.o.size),⟨g1,p1,rfl⟩,o2.recO.base (zo fw.o.size)⟩);have hs9:=N4.size;clear N4 o1 o2 HQ HP HZ O6 fw;obtain⟨L6,L5,L4,L2,L1,L0,Le,K9,K8,K7⟩:=Fc HZ9.o;have zcf:=fZ HZ9.o;obtain⟨l,el⟩:∃ l:List (Nat × Nat × Value),l=[((w.heap.size+1+1),0,I 9),((w.heap.size+1+1),1,ze),((w.heap.size+1+1),2,nS),((w.heap.size+1+1),3,I n),((w.heap.size+1+1),4,.slice (p_ g1) T.length p1),((w.heap.size+1+1),5,.slice a2 R.length p2),((w.heap.size+1+1),6,nS),((w.heap.size+1+1),7,nS),((w.heap.size+1+1),8,ze),((w.heap.size+1+1),9,ze)]:=⟨_,rfl⟩;have dr:∀ x∈l,x.1=(w.heap.size+1+1):=qab;have cm:=Ds l w9 _ dr HZ9.o;have hS:=D8.o.setU dr HZ9.o;have fc:Bw w (Cf w9 l):=Br l w9 HB9.o (fun x hx=>qag);obtain⟨V,eV⟩:=Ai (Cf w9 l);rw[eV] at cm fc hS;rw[el] at cm eV;simp only[Cf,List.foldl] at eV;simp only[List.foldl,List.setIfInBounds_toArray,List.set_cons_zero,List.set_cons_succ] at cm;have HV:=hid cm;have mn:=hid fc;have ji:=hid hS;clear cm fc el dr hS;go_wp2_with fail
    try rw[eV]
    obtain⟨y0,y1,y2,y3,y4,y5,y6,y7,y8,y9⟩:=Fc HV.o;exact bR (v:=.agg #[I 9,ze,nS,I n,.slice (p_ g1) T.length p1,.slice a2 R.length p2,nS,nS,ze,ze]) qfu rfl ⟨mn.o,_,rfl,_,_,rfl,ji.o⟩
  have HWD:=hid (hbi.1 rfl);clear hbi;obtain⟨x0,x1⟩:=Fr HP.o;have HC:=hid (HCK.o w1 fw.o);have U0:Hd (¬ (Hn ss ts=0/\Am nm)):=fun h=>jo.o ⟨HWD.o,h⟩;clear HCK jo HWD;generalize Hn ss ts=ck at *;go_wp2_with fail;clear x0 x1;refine HC.o.mono ?_;clear HC;rintro e w2 ⟨ag,rfl⟩;replace HQ:=hid (Ab ag HQ.o);replace HP:=hid (Ab ag HP.o);replace HZ:=hid (Ab ag HZ.o);have gi:=hid (bt fw.o ag);have gp:=ag.size;clear ag fw
  by_cases hc:ck=0
  rotate_left 1
  · have hcI:(ck == 0)=false:=by simpa using hc
    (have hcN:(ck != 0)=true:=by simpa using hc);clear U0;exact qgz
  subst hc;have Z0:¬ Am nm:=fun h=>U0.o ⟨rfl,h⟩;have HNB:=hid (Ck Z0);clear U0 Z0;go_wp2_with fail;refine(Bx nm w2 cr).mono ?_;rintro e w3 ⟨rfl,rfl⟩;rw[HNB.o];exact qgz
end Go.Proofs.YtfgoholldpeabaaGreatDoor
