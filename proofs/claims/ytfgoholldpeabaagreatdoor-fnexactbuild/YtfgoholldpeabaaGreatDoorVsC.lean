import Derived.Test.YtfgoholldpeabaaGreatDoorEdD
import Derived.Test.YtfgoholldpeabaaGreatDoorVsA
import Derived.Test.YtfgoholldpeabaaGreatDoorVsH
namespace Go.Proofs.YtfgoholldpeabaaGreatDoor
set_option maxHeartbeats 4000000
set_option maxRecDepth 100000
open _root_.Go.Proofs.Tryz Go.RowKit Go.Deep
set_option linter.unusedVariables false
set_option linter.unusedSimpArgs false
variable {b B n e lo hi lo' hi' j k T off:Nat} {w w':World} {a:Option Addr} {rs is:List T3} {ss ts:List By} {v:Value} {xs ys:List Value} {cv lv:Nat→Value}



def Ap (n:Nat) (s:By):By:=⟨(Hm (Cx s.data.toList) n).toArray⟩
def Na (n:Nat) (g:G3):Prop:=Am g.name∧g.sum.size=n
def Il (n:Nat) (r:T3):Prop:=Au r.code=true∧r.out.size=n∧r.looks.length ≤ 200∧∀ i,i<r.looks.length→Na n (gx r.looks i)
def Uo (n:Nat) (ts:List By):Prop:=ts.length ≤ 5000∧(∀ i,i<ts.length→(nx ts i).size ≤ 2002)∧Gf (ts.map (Ap n))
def Js (n:Nat) (ts:List By) (rs:List T3):Prop:=Uo n ts∧rs.length ≤ 2000∧∀ i,i<rs.length→Il n (qx rs i)
theorem Gp (n:Nat) (ts:List By) (i:Nat) (h:i<ts.length):nx (ts.map (Ap n)) i=Ap n (nx ts i):=by
  unfold nx;exact qln
theorem Un {b:Bool} {P:Prop} (h:b=true↔P):(P∧b=true)∨(¬ P∧b=false):=by
  cases b
  · exact Or.inr ⟨fun p=>absurd (h.2 p) qg,rfl⟩
  · exact Or.inl ⟨h.1 rfl,rfl⟩
structure RcIn (w:World) (a:Option Addr) (is:List I3) (la:Option Addr) (gs:List G3):Prop where
  rc:Cj w a is
  rg:Hr w la gs
  lc:is.length ≤ 1048576
  lg:gs.length ≤ 1048576
  xc:∀ i,(ix is i).text.size ≤ maxLen
  ng:∀ i,(gx gs i).name.size ≤ maxLen
  sg:∀ i,(gx gs i).sum.size ≤ maxLen
theorem Rq (a la:Option Addr) (cap lc:Nat) (is:List I3) (gs:List G3) (out:By) (n:Nat) (w:World) (hT:Lr w) (h8:n ≤ 8) (h:RcIn w a is la gs) (ho:out.size ≤ maxLen) :
    Calls prog 138 #[.agg #[.slice a is.length cap,.slice la gs.length lc,.string out],I n] w fun e w'=>Bw w w'∧∃ b,e=.returned (.bool b)∧(b=true↔Il n ⟨is,gs,out⟩):=by
  have ak:Bw w (w.alloc (.cells #[.slice a is.length cap,.slice la gs.length lc,.string out] 97)):=aN _ _;have k1:(w.alloc (.cells #[.slice a is.length cap,.slice la gs.length lc,.string out] 97)).cell? ⟨w.heap.size,1,none⟩=some (.slice la gs.length lc):=qk;have k2:(w.alloc (.cells #[.slice a is.length cap,.slice la gs.length lc,.string out] 97)).cell? ⟨w.heap.size,2,none⟩=some (.string out):=qk;unfold maxLen at ho;have hlg:=h.lg;have HRG:=hid h.rg;have HNG:=hid h.ng;have wa:=hid h.sg;obtain⟨v,ev⟩:=Ai (Au is);have EV:=hid ev;go_enter func138,ntmps138;go_wp2_with fail;refine(Kg a cap is _ (hT.bl ak) (h.rc.bl ak) h.lc h.xc).mono ?_;rintro e w1 ⟨af,rfl⟩;rw[ev];have bg:=bt ak af;have P7:=Aa af k1;have P5:=Aa af k2;clear ak af k1 k2 h ev;cases v
  · exact qls
  · by_cases h2:out.size=n
    · have d2:((out.size:Int) != (n:Int))=false:=qh
      have H2:=hid h2;clear h2
      by_cases h3:200<gs.length
      · exact qjm
      · have d3:decide ((200:Int)<(gs.length:Int))=false:=qh
        go_wp2
        go_loopw [27] (fun i wr=>∃ k:Nat,k ≤ gs.length∧i=I k∧Hd (∀ i,i<k→Na n (gx gs i))∧Bw w wr) (fun i _=>gs.length-(intOf i).toNat)
        case atStart=>exact⟨0,Nat.zero_le _,rfl,(fun i hi=>by omega:∀ i,i<0→Na n (gx gs i)),bg⟩
        case round=>
          obtain⟨k,hk,rfl,HK,bc⟩:=hrel
          by_cases aj:k<gs.length
          · obtain⟨b,off,rfl,c1,c2,c3⟩:=(HRG.o.bl bc) k aj
            have R5:=HNG.o k;have fx:=wa.o k;have HG1:Hd (Na n (gx gs k)→∀ i,i<k+1→Na n (gx gs i)):=fun hg=>Cp HK.o hg;have U6:Hd (¬ Na n (gx gs k)→¬ Il n ⟨is,gs,out⟩):=fun hg h=>hg (h.2.2.2 k aj);generalize gx gs k=g at *;unfold maxLen at R5 fx;clear P7 P5
            by_cases g1:Am g.name
            · have e1:=Cu g1
              by_cases g2:g.sum.size=n
              · have d4:((g.sum.size:Int) != (n:Int))=false:=qh
                have HO:Hd (∀ i,i<k+1→Na n (gx gs i)):=HG1.o ⟨g1,g2⟩;clear g2
                go_wp2_with (first|(go_at_call 106;refine(Dg g.name _ R5).mono ?_;rintro e w9 ⟨rfl,rfl⟩;rw[e1]))
                go_roundw
                case rel=>exact⟨k+1,qb,qj,HO.o,bc.alloc bc.size _⟩
                case measure=>simp[intOf];omega
              · have d4:((g.sum.size:Int) != (n:Int))=true:=qh
                have HO:Hd (¬ Il n ⟨is,gs,out⟩):=U6.o (fun h=>g2 h.2);clear g2;exact qjk
            · have e1:=Ck g1
              have HO:Hd (¬ Il n ⟨is,gs,out⟩):=U6.o (fun h=>g1 h.1);exact qjk
          · have HO:Hd (Il n ⟨is,gs,out⟩):=⟨EV.o,H2.o,by show gs.length ≤ 200;omega,fun i hi=>HK.o i (by simp only at hi;omega)⟩
            go_wp2;exact qfs
    · exact qko
structure QsIn (w:World) (a:Option Addr) (rs:List T3):Prop where
  rq:Lx w a rs
  ok:QsOk rs
  sm:Ga rs
theorem QsIn.bl (h:QsIn w a rs) (hb:Bw w w'):QsIn w' a rs:=⟨h.rq.bl hb,h.ok,h.sm⟩
theorem Qa (a:Option Addr) (cap:Nat) (rs:List T3) (n:Nat) (w:World) (hT:Lr w) (h8:n ≤ 8) (h:QsIn w a rs) :
    Calls prog 121 #[.slice a rs.length cap,I n] w fun e w'=>Bw w w'∧∃ b,e=.returned (.bool b)∧(b=true↔rs.length ≤ 2000∧∀ i,i<rs.length→Il n (qx rs i)):=by
  have hl:=h.sm.1;have HQ:=hid h;have HT:=hid hT;clear h hT
  by_cases h1:2000<rs.length
  · have d1:decide ((2000:Int)<(rs.length:Int))=true:=qh
    go_enter func121,ntmps121;go_wp2;go_ret;exact⟨Below.refl _ _,false,rfl,Dy (fun h=>qb)⟩
  · have d1:decide ((2000:Int)<(rs.length:Int))=false:=qh
    go_enter func121,ntmps121;go_wp2
    go_loopw [12] (fun i wr=>∃ k:Nat,k ≤ rs.length∧i=I k∧Hd (∀ i,i<k→Il n (qx rs i))∧Bw w wr) (fun i _=>rs.length-(intOf i).toNat)
    case atStart=>exact⟨0,Nat.zero_le _,rfl,(fun i hi=>by omega:∀ i,i<0→Il n (qx rs i)),Below.refl _ _⟩
    case round=>
      obtain⟨k,hk,rfl,HK,bc⟩:=hrel
      by_cases aj:k<rs.length
      · have hq:=HQ.o.bl bc
        obtain⟨b,off,rfl,ca,cc,la,lc,c1,c2,c3,c4,c5⟩:=hq.rq k aj;have mw:RcIn wr ca (qx rs k).code la (qx rs k).looks:=⟨c4,c5,(hq.sm.2 k aj).1,(hq.sm.2 k aj).2,hq.ok.xc k,hq.ok.ng k,hq.ok.sg k⟩;have hou:=hq.ok.so k;have HG1:Hd (Il n (qx rs k)→∀ i,i<k+1→Il n (qx rs i)):=fun hg=>Cp HK.o hg;have U6:Hd (¬ Il n (qx rs k)→¬ (rs.length ≤ 2000∧∀ i,i<rs.length→Il n (qx rs i))):=fun hg h=>hg (h.2 k aj);clear hq c4 c5;generalize qx rs k=x at *;obtain⟨xc,xl,xo⟩:=x;simp only at *;have rj:=hid mw;clear mw;have ak:Bw wr (wr.alloc (.cells #[.slice ca xc.length cc,.slice la xl.length lc,.string xo] 97)):=aN _ _;have hin2:RcIn (wr.alloc (.cells #[.slice ca xc.length cc,.slice la xl.length lc,.string xo] 97)) ca xc la xl:=⟨rj.o.rc.bl ak,rj.o.rg.bl ak,rj.o.lc,rj.o.lg,rj.o.xc,rj.o.ng,rj.o.sg⟩;have G0:=hid hin2;clear hin2;go_wp2_with fail;refine(Rq ca la cc lc xc xl xo n _ ((HT.o.bl bc).bl ak) h8 G0.o hou).mono ?_;rintro e w2 ⟨ag,b,rfl,hb⟩;have be:=bt bc (bt ak ag)
        rcases Un hb with ⟨hg,rfl⟩|⟨hg,rfl⟩
        · have HO:=hid (HG1.o hg)
          clear hb hg ak ag;go_wp2;go_roundw
          case rel=>exact⟨k+1,qb,qj,HO.o,be⟩
          case measure=>simp[intOf];omega
        · have HO:=hid (U6.o hg)
          clear hb hg ak ag;go_wp2;go_ret;exact⟨be,false,rfl,Dy HO.o⟩
      · go_wp2
        go_ret;exact⟨bc,true,rfl,Fy ⟨qb,fun i hi=>HK.o i qb⟩⟩
theorem Mh {cap:Nat} (hn:n=ss.length) (h:w.ownsRow B 9 1 (.slice a n cap) n (ss.map .string)):Cv w a ss:=by
  subst hn;intro i hi
  rcases h.2 with ⟨hv,h0⟩|⟨g,ai,cur,hv,_⟩
  · omega
  · simp only[Value.slice.injEq] at hv
    obtain⟨rfl,_,_⟩:=hv;refine⟨g,0,rfl,?_⟩;rw[Nat.zero_add,h.cellAt i qb,List.getElem?_map,Iu hi,gG,Iu hi];rfl
theorem sumsOf_any (a:Option Addr) (cap:Nat) (ts:List By) (n:Nat) (w:World) (h1:1 ≤ n) (h8:n ≤ 8) (hc:Cv w a ts) (hl:ts.length ≤ 1048576) (hs:∀ i,i<ts.length→(nx ts i).size ≤ 2002) :
    Calls prog 122 #[.slice a ts.length cap,I n] w fun e w'=>Bw w w'∧∃ g:Nat,e=.returned (.slice (p_ g) ts.length ts.length)∧w.heap.size ≤ g∧w'.ownsRow w.heap.size 9 1 (.slice (p_ g) ts.length ts.length) ts.length ((ts.map (Ap n)).map .string):=by
  have HC:Hd (Cv w a ts):=hc;have HS:Hd (∀ i,i<ts.length→(nx ts i).size ≤ 2002):=hs;clear hc hs;obtain⟨i0,hi,bp,bh,bv⟩:=info_parts Tryz.info9;obtain⟨ss,ess⟩:∃ ss,ts.map (Ap n)=ss:=⟨_,rfl⟩;have pp:Hd (ss.length=ts.length):=by show ss.length=ts.length;rw[← ess,List.length_map]
  have ph:Hd (∀ i,i<ts.length→nx ss i=Ap n (nx ts i)):=fun i h=>by rw[← ess];exact Gp n ts i h
  rw[ess];clear ess;go_enter func122,ntmps122
  go_wp2_with (first|(at_make;refine wpList_make_full _ rfl (.tmp 9) (.tmp 9) 22 rfl w.heap.size 9 i0 (.string ByteArray.empty) 1 underlying22 hi bp bh .i64 .i64 _ _ ts.length rfl rfl rfl rfl qam qm (Nat.le_refl _) ?_;intro w1 ah ae))
  rw[Pm] at ah;have fq:Bw w w1:=(Below.refl _ _).grown ae (Nat.le_refl _) qg;clear ae
  go_loopw [13] (fun i wr=>∃ k:Nat,k ≤ ts.length∧i=I k∧Hd (wr.ownsRow w.heap.size 9 1 (.slice (p_ w.heap.size) ts.length ts.length) ts.length (Ee ss k ss.length))∧Bw w wr) (fun i _=>ts.length-(intOf i).toNat)
  case atStart=>exact⟨0,Nat.zero_le _,rfl,by show World.ownsRow _ _ _ _ _ _ _;rw[pp.o];simpa [Ee] using ah,fq⟩
  case round=>
    obtain⟨k,hk,rfl,HO,bc⟩:=hrel
    by_cases aj:k<ts.length
    · obtain⟨b,off,rfl,c1⟩:=(HC.o.bl bc) k aj
      replace c1:wr.cell? ⟨b,off+k,none⟩=some (.string (nx ts k)):=c1;have fx:=HS.o k aj;have HX:Hd (nx ss k=Ap n (nx ts k)):=ph.o k aj;generalize nx ts k=x at *;have hx0:x.size ≤ 1048576:=qb;go_wp2_with fail;refine(Ie x n _ hx0 h1 h8).mono ?_;rintro e w2 ⟨rfl,ag⟩;obtain⟨q,eq⟩:∃ q,(⟨(Hm (Cx x.data.toList) n).toArray⟩:By)=q:=⟨_,rfl⟩;rw[eq];(have HQ:Hd (ss.getD k ByteArray.empty=q):=by show ss.getD k ByteArray.empty=q;have:=HX.o;unfold nx at this;rw[this,← eq];rfl);have ah:=Ac HO.o ag;have be:=bt bc ag;(have hks:k<ss.length:=by have:=pp.o;omega);have cz:=ah.stored k (.string (ss.getD k ByteArray.empty));rw[Uf ss k hks,HQ.o] at cz;have bz:=ah.frozenAt k
      have hce:w2.cell? ⟨w.heap.size,k,none⟩=some ((Ee ss k ss.length)[k]'(by rw[Ia ss k qb];exact hks)):=by
        rw[ah.cellAt k qb];exact Iu _
      generalize (Ee ss k ss.length)[k]'(by rw[Ia ss k qb];exact hks)=old at hce;have hbel2:Bw w (w2.setCell ⟨w.heap.size,k,none⟩ (.string q)):=be.setCell (Nat.le_refl _) _;have fj:Hd ((w2.setCell ⟨w.heap.size,k,none⟩ (.string q)).ownsRow w.heap.size 9 1 (.slice (p_ w.heap.size) ts.length ts.length) ts.length (Ee ss (k+1) ss.length)):=cz.1;clear ah bc ag cz c1 eq;go_wp2;go_roundw
      case rel=>exact⟨k+1,qb,qj,fj.o,hbel2⟩
      case measure=>simp[intOf];omega
    · obtain rfl:k=ts.length:=qb
      have J4:Hd (wr.ownsRow w.heap.size 9 1 (.slice (p_ w.heap.size) ts.length ts.length) ts.length (ss.map .string)):=by
        have:=HO.o;(have e:Ee ss ts.length ss.length=ss.map .string:=by rw[← pp.o];simp[Ee]);rw[e] at this;exact this
      go_wp2_with fail;go_ret;exact⟨bc,_,rfl,Nat.le_refl _,J4.o⟩
theorem Th (a:Option Addr) (cap:Nat) (ts:List By) (w:World) (hc:Cv w a ts) (hl:ts.length ≤ 1048576) (hs:∀ i,(nx ts i).size ≤ maxLen) :
    Calls prog 120 #[.slice a ts.length cap] w fun e w'=>Bw w w'∧∃ b,e=.returned (.bool b)∧(b=true↔ts.length ≤ 5000∧∀ i,i<ts.length→(nx ts i).size ≤ 2002):=by
  have HC:Hd (Cv w a ts):=hc;have HS:Hd (∀ i,(nx ts i).size ≤ maxLen):=hs;clear hc hs
  by_cases h2:5000<ts.length
  · have d1:decide ((5000:Int)<(ts.length:Int))=true:=qh
    go_enter func120,ntmps120;go_wp2;go_ret;exact⟨Below.refl _ _,false,rfl,Dy (fun h=>by have:=h.1;omega)⟩
  · have d1:decide ((5000:Int)<(ts.length:Int))=false:=qh
    go_enter func120,ntmps120;go_wp2
    go_loopw [10] (fun i wr=>∃(k:Nat),k ≤ ts.length∧i=I k∧Hd (∀ i,i<k→(nx ts i).size ≤ 2002)∧Bw w wr) (fun i _=>ts.length-(intOf i).toNat)
    case atStart=>exact⟨0,Nat.zero_le _,rfl,(fun i hi=>by omega:∀ i,i<0→(nx ts i).size ≤ 2002),Below.refl _ _⟩
    case round=>
      obtain⟨k,hk,rfl,HK,bc⟩:=hrel
      by_cases aj:k<ts.length
      · obtain⟨b,off,rfl,c1⟩:=(HC.o.bl bc) k aj
        replace c1:wr.cell? ⟨b,off+k,none⟩=some (.string (nx ts k)):=c1;have fx:=HS.o k
        by_cases h3:2002<(nx ts k).size
        · have HN:Hd (¬ (ts.length ≤ 5000∧∀ i,i<ts.length→(nx ts i).size ≤ 2002)):=fun h=>by have:=h.2 k aj;omega
          exact qjh
        · have d6:Hd (∀ i,i<k+1→(nx ts i).size ≤ 2002):=Cp HK.o qb
          generalize nx ts k=x at *;have d3:decide ((2002:Int)<(x.size:Int))=false:=qh;unfold maxLen at fx;go_wp2_with fail;go_roundw
          case rel=>exact⟨k+1,qb,qj,d6.o,bc⟩
          case measure=>simp[intOf];omega
      · have T9:Hd (ts.length ≤ 5000∧∀ i,i<ts.length→(nx ts i).size ≤ 2002):=⟨qb,fun i hi=>HK.o i qb⟩
        go_wp2_with fail;go_ret;exact⟨bc,true,rfl,Fy T9.o⟩
structure Oq (w:World) (ta:Option Addr) (ts:List By) (ra:Option Addr) (rs:List T3):Prop where
  st:Cv w ta ts
  lt:ts.length ≤ 1048576
  xt:∀ i,(nx ts i).size ≤ maxLen
  qs:QsIn w ra rs
theorem Oq.bl {ta ra:Option Addr} (h:Oq w ta ts ra rs) (hb:Bw w w'):Oq w' ta ts ra rs:=⟨h.st.bl hb,h.lt,h.xt,h.qs.bl hb⟩
def Kx (n:Int) (ts:List By) (rs:List T3):Prop:=1 ≤ n∧n ≤ 8∧Js n.toNat ts rs
theorem own_low {base base' size:Nat} (h:w.ownsRow base e size v n xs) (hb:base' ≤ base):w.ownsRow base' e size v n xs:=by
  refine⟨h.1,?_⟩
  rcases h.2 with h2|⟨g,cap,cur,hv,hg,r⟩
  · exact Or.inl h2
  · exact Or.inr ⟨g,cap,cur,hv,Nat.le_trans hb hg,r⟩
theorem Qbp (w:World) (o:Obj):(w.alloc o).heap[w.heap.size]?=some o:=qei
theorem alB (w:World) (o:Obj):Bw w (w.alloc o):=aN _ _
def Iz (w:World) (g:Nat) (n:Int) (ta ra:Option Addr) (tl tc rl rc:Nat) (sv:Value):Prop:=w.heap[g]?=some (.cells #[I n,.slice ta tl tc,.slice ra rl rc,sv] 149 (0,0))
theorem Vo (n:Int) (ta ra:Option Addr) (tc rc:Nat) (ts:List By) (rs:List T3) (w:World) (hT:Lr w) (h:Oq w ta ts ra rs) :
    Calls prog 96 #[.agg #[I n,.slice ta ts.length tc,.slice ra rs.length rc]] w fun e w'=>Bw w w'∧((¬ Kx n ts rs∧∃ v,e=.returned (.tuple #[v,.bool false]))∨(Kx n ts rs∧∃ g sg,e=.returned (.tuple #[.pointer (p_ g),.bool true])∧Iz w' g n ta ra ts.length tc rs.length rc (.slice (p_ sg) ts.length ts.length)∧Cv w' (p_ sg) (ts.map (Ap n.toNat))∧w.heap.size ≤ g∧w'.ownsRow w.heap.size 9 1 (.slice (p_ sg) ts.length ts.length) ts.length ((ts.map (Ap n.toNat)).map .string))):=by
  have ak:Bw w (w.alloc (.cells #[I n,.slice ta ts.length tc,.slice ra rs.length rc] 34)):=aN _ _;have k0:(w.alloc (.cells #[I n,.slice ta ts.length tc,.slice ra rs.length rc] 34)).cell? ⟨w.heap.size,0,none⟩=some (I n):=qk;have k1:(w.alloc (.cells #[I n,.slice ta ts.length tc,.slice ra rs.length rc] 34)).cell? ⟨w.heap.size,1,none⟩=some (.slice ta ts.length tc):=qk;have k2:(w.alloc (.cells #[I n,.slice ta ts.length tc,.slice ra rs.length rc] 34)).cell? ⟨w.heap.size,2,none⟩=some (.slice ra rs.length rc):=qk;have HI:=hid h;have HT:=hid hT;clear h hT
  by_cases hn:1 ≤ n∧n ≤ 8
  · obtain⟨m,rfl⟩:=Int.eq_ofNat_of_zero_le (show 0 ≤ n from qb)
    have h1:1 ≤ m:=qb;have h8:m ≤ 8:=qb;have HN:=hid hn;clear hn;go_enter func96,ntmps96
    go_wp2_with (first|(go_at_call 119;refine(Je _ _ qb qb).mono ?_;rintro e w9 ⟨rfl,rfl⟩))
    refine(Th ta tc ts _ (HI.o.st.bl ak) HI.o.lt HI.o.xt).mono ?_;rintro e w1 ⟨af,b,rfl,hb⟩;have bg:=bt ak af;have Y0:=Aa af k0;have P7:=Aa af k1;have P5:=Aa af k2
    rcases Un hb with ⟨hg,rfl⟩|⟨hg,rfl⟩
    · have HG:=hid hg
      clear hb hg ak af k0 k1 k2;go_wp2_with fail;refine(Qa ra rc rs m _ (HT.o.bl bg) h8 (HI.o.qs.bl bg)).mono ?_;rintro e w2 ⟨ag,b,rfl,hb⟩;have be:=bt bg ag;have k20:=Aa ag Y0;have k21:=Aa ag P7;have k22:=Aa ag P5
      rcases Un hb with ⟨hg,rfl⟩|⟨hg,rfl⟩
      · have HR:=hid hg
        have dw:Hd (∀ W:World,Bw w W→Calls prog 122 #[.slice ta ts.length tc,I m] W fun e w'=>Bw W w'∧∃ g:Nat,e=.returned (.slice (p_ g) ts.length ts.length)∧W.heap.size ≤ g∧w'.ownsRow W.heap.size 9 1 (.slice (p_ g) ts.length ts.length) ts.length ((ts.map (Ap m)).map .string)):=fun W hW=>sumsOf_any ta tc ts m W h1 h8 (HI.o.st.bl hW) HI.o.lt HG.o.2;clear hb hg ag bg Y0 P7 P5;go_wp2_with fail;have I6:Bw w2 w2.drew:=(Below.refl _ _).drew
        go_region_held3 (fun w'=>w'.cell? ⟨w.heap.size,0,none⟩=some (I m)∧w'.cell? ⟨w.heap.size,1,none⟩=some (.slice ta ts.length tc)∧w'.cell? ⟨w.heap.size,2,none⟩=some (.slice ra rs.length rc))
          (first|exact⟨k20,k21,k22⟩|(with_reducible exact⟨s0,s1,s2⟩)|exact⟨Aa (alB _ _) s0,Aa (alB _ _) s1,Aa (alB _ _) s2⟩)
          (first|(go_at_call 122;refine(dw.o _ be.drew).mono ?_;rintro e w3 ⟨aw,sg,rfl,hsg,how⟩;have s0:=Aa (bt I6 aw) k20;have s1:=Aa (bt I6 aw) k21;have s2:=Aa (bt I6 aw) k22))
        go_wp2_with fail;obtain⟨w4,e4⟩:=Ai (w3.alloc (.cells #[I m,.slice ta ts.length tc,.slice ra rs.length rc,.slice (p_ sg) ts.length ts.length] 149));(have cj:Bw w3 w4:=by rw[← e4];exact alB _ _);(have N8:Hd (Iz w4 w3.heap.size m ta ra ts.length tc rs.length rc (.slice (p_ sg) ts.length ts.length)):=by show Iz _ _ _ _ _ _ _ _ _ _;rw[← e4];unfold Iz;exact Qbp _ _);have fj:Hd (Cv w4 (p_ sg) (ts.map (Ap m))):=(Mh (by rw[List.length_map]) how).bl cj;have ij:=bt (bt (bt be I6) aw) cj
        have jk:Hd (∀ W:World,Cv W (p_ sg) (ts.map (Ap m))→Calls prog 100 #[.slice (p_ sg) ts.length ts.length] W fun e w'=>Bw W w'∧∃ b,e=.returned (.bool b)∧(b=true↔Gf (ts.map (Ap m)))):=fun W hW=>by
          have:=Oc (p_ sg) ts.length (ts.map (Ap m)) W hW (by rw[List.length_map];exact HI.o.lt);rw[List.length_map] at this;exact this
        have HOW4:=hid (Ac (own_low how (bt be I6).size) cj);have HG3:=hid ((bt (bt be I6) aw).size);rw[e4];clear e4 cj how aw I6 hsg;refine(jk.o _ fj.o).mono ?_;rintro e w5 ⟨cu,b,rfl,hb⟩;have zk:=bt ij cu
        have HSH5:Hd (Iz w5 w3.heap.size m ta ra ts.length tc rs.length rc (.slice (p_ sg) ts.length ts.length)):=by
          have h4:=N8.o;unfold Iz at h4;show _=_;rw[cu.block _ (by rcases Nat.lt_or_ge w3.heap.size w4.heap.size with h'|h';(focus exact h');rw[Array.getElem?_eq_none h'] at h4;cases h4)];exact h4
        rcases Un hb with ⟨hg,rfl⟩|⟨hg,rfl⟩
        · have HW:Hd (Kx m ts rs):=⟨HN.o.1,HN.o.2,⟨HG.o.1,HG.o.2,hg⟩,HR.o⟩
          clear hb hg;go_wp2_with fail;exact bR (results_tmp2 rfl _ _ _) rfl ⟨zk,Or.inr ⟨HW.o,_,sg,rfl,HSH5.o,fj.o.bl cu,HG3.o,Ac HOW4.o cu⟩⟩
        · have X1:Hd (¬ Kx m ts rs):=fun h=>hg h.2.2.1.2.2
          clear hb hg;go_wp2_with fail;exact bR (results_tmp2 rfl _ _ _) rfl ⟨zk,Or.inl ⟨X1.o,_,rfl⟩⟩
      · have X1:Hd (¬ Kx m ts rs):=fun h=>hg h.2.2.2
        clear hb hg;go_wp2_with fail;exact bR (results_tmp2 rfl _ _ _) rfl ⟨be,Or.inl ⟨X1.o,_,rfl⟩⟩
    · have X1:Hd (¬ Kx m ts rs):=fun h=>hg ⟨h.2.2.1.1,h.2.2.1.2.1⟩
      clear hb hg;go_wp2_with fail;exact bR (results_tmp2 rfl _ _ _) rfl ⟨bg,Or.inl ⟨X1.o,_,rfl⟩⟩
  · have hn':n<1∨8<n:=qb
    have HN:Hd (¬ Kx n ts rs):=fun h=>hn ⟨h.1,h.2.1⟩;clear hn;go_enter func96,ntmps96
    go_wp2_with (first|(go_at_call 119;refine(Va _ _ hn').mono ?_;rintro e w9 ⟨rfl,rfl⟩))
    exact bR (results_tmp2 rfl _ _ _) rfl ⟨ak,Or.inl ⟨HN.o,_,rfl⟩⟩
theorem Wu {sz:Nat} (h:w.ownsRow B e sz v n xs) (h1:1 ≤ n):∃ g cp,v=.slice (p_ g) n cp:=by
  rcases Cs h with ⟨_,h0⟩|h
  · omega
  · exact h
theorem clone_any (a:Option Addr) (cap:Nat) (is:List I3) (w:World) (hc:Cj w a is) (h1:1 ≤ is.length) (hl:is.length ≤ 1048576) :
    Calls prog 143 #[.slice a is.length cap] w fun e w'=>Bw w w'∧∃ g cp,e=.returned (.slice (p_ g) is.length cp)∧w'.ownsRow w.heap.size 128 3 (.slice (p_ g) is.length cp) is.length (El is):=by
  obtain⟨i0,hi,bp,bh,bv⟩:=info_parts Tryz.info165b;obtain⟨b,off,rfl,_⟩:=hc 0 qb;have dm:(w.alloc (.cells #[] 128)).ownsRow w.heap.size 128 3 (.slice (p_ w.heap.size) 0 0) 0 []:=World.ownsRow_lit (base:=w.heap.size) (e:=128) (size:=3) w #[] 0 (Nat.le_refl _) qm qg;have hn:=Nh (hc.bl ((Below.refl w.heap.size w).alloc (Nat.le_refl _) (.cells #[] 128)));have HL:=hid (Ic is);have HO:=hid (Pq is);generalize El is=xs at *;clear hc;have hq:∀ W:World,(binOp .eql 92 (.slice (some ⟨b,off,none⟩) is.length cap) nS).run prog W=.ok (.bool false) W:=fun W=>Lib.run_eql_slice_nil W 92 128 _ _ _ 0 0 underlying92;go_enter func143,ntmps143
  go_wp2_with (at_builtin;refine wpList_append_own _ rfl (.tmp 5) (.tmp 6) 92 rfl w.heap.size 128 i0 (.agg #[I 0,ze,I 0]) 3 32 underlying92 hi bp bh bv rfl qd _ 0 [] rfl dm ⟨b,off,none⟩ is.length cap xs rfl HL.o hn HO.o qm qb qg ?_;intro v' w2 ba ae dp;clear dp)
  have fg:Bw w w2:=(aN _ _).grown ae qg (fun k hk=>(dm.lt k hk).1);rw[Nat.zero_add,List.nil_append] at ba;obtain⟨g,cp,rfl⟩:=Wu ba h1;clear ae dm hn;go_wp2;go_ret;exact⟨fg,g,cp,rfl,ba⟩
theorem Sx (a:Option Addr) (cap:Nat) (is:List I3) (w:World) (hc:Cj w a is) (h1:1 ≤ is.length) (hl:is.length ≤ 1048576) :
    Calls prog 125 #[.agg #[.slice a is.length cap]] w fun e w'=>Bw w w'∧∃ g cp,e=.returned (.agg #[.slice (p_ g) is.length cp])∧w'.ownsRow w.heap.size 128 3 (.slice (p_ g) is.length cp) is.length (El is):=by
  have ak:Bw w ((w.alloc (.cells #[.slice a is.length cap] 94)).alloc (.cells #[nS] 94)):=(aN _ _).alloc qg _;go_enter func125,ntmps125;go_wp2_with fail;refine(clone_any a cap is _ (hc.bl ak) h1 hl).mono ?_;exact qhn
theorem Vt (a:Option Addr) (cap:Nat) (is:List I3) (w:World) (hc:Cj w a is) (h1:1 ≤ is.length) (hl:is.length ≤ 1048576) :
    Calls prog 66 #[.agg #[.slice a is.length cap]] w fun e w'=>Bw w w'∧∃ g cp,e=.returned (.agg #[.slice (p_ g) is.length cp])∧w'.ownsRow w.heap.size 128 3 (.slice (p_ g) is.length cp) is.length (El is):=by
  obtain⟨i0,hi,bp,bh,bv⟩:=info_parts Tryz.info165b;obtain⟨b,off,rfl,_⟩:=hc 0 qb;have ak:Bw w ((w.alloc (.cells #[.slice (some ⟨b,off,none⟩) is.length cap] 94)).alloc (.cells #[nS] 94)):=(aN _ _).alloc qg _;have af:Bw w (((w.alloc (.cells #[.slice (some ⟨b,off,none⟩) is.length cap] 94)).alloc (.cells #[nS] 94)).alloc (.cells #[] 128)):=ak.alloc qh _
  have dm:(((w.alloc (.cells #[.slice (some ⟨b,off,none⟩) is.length cap] 94)).alloc (.cells #[nS] 94)).alloc (.cells #[] 128)).ownsRow (w.heap.size+1+1) 128 3 (.slice (p_ (w.heap.size+1+1)) 0 0) 0 []:=by
    exact qhw
  have hn:=Nh (hc.bl af);have HL:=hid (Ic is);have HO:=hid (Pq is);generalize El is=xs at *;clear hc ak;go_enter func66,ntmps66
  go_wp2_with (at_builtin;refine wpList_append_own _ rfl (.tmp 3) (.tmp 5) 92 rfl (w.heap.size+1+1) 128 i0 (.agg #[I 0,ze,I 0]) 3 32 underlying92 hi bp bh bv rfl qd _ 0 [] rfl dm ⟨b,off,none⟩ is.length cap xs rfl HL.o hn HO.o qm qb qg ?_;intro v' w2 ba ae dp;clear dp;have fg:Below (w.heap.size+1+1) (((w.alloc (.cells #[.slice (some ⟨b,off,none⟩) is.length cap] 94)).alloc (.cells #[nS] 94)).alloc (.cells #[] 128)) w2:=(Below.refl _ _).grown ae qg (fun k hk=>(dm.lt k hk).1);have c1:w2.cell? ⟨w.heap.size+1,0,none⟩=some nS:=(by rw[fg.cell (p:=⟨w.heap.size+1,0,none⟩) qg];simp[go_sem]);have f1:w2.frozen? ⟨w.heap.size+1,0,none⟩=false:=(by rw[fg.frozen (p:=⟨w.heap.size+1,0,none⟩) qg];simp[go_sem]);have hB:Bw w w2:=af.trans (fg.mono qb);rw[Nat.zero_add,List.nil_append] at ba;obtain⟨g,cp,rfl⟩:=Wu ba h1;have hg:=(ba.lt g rfl).1;have J4:Hd (w2.ownsRow w.heap.size 128 3 (.slice (p_ g) is.length cp) is.length xs):=Ah ba qb;clear ae dm hn fg ba af)
  exact qiu
def Dq (w:World) (lo hi:Nat) (v:Value) (ts:List By):Prop:=Bg w lo hi 9 1 v ts.length (ts.map Value.string)
theorem Ug (ss:List By):Ee ss ss.length ss.length=ss.map Value.string:=by simp[Ee]
theorem map_str (ss:List By) (i:Nat) (h:i<ss.length):(ss.map Value.string)[i]?=some (.string (ss.getD i ByteArray.empty)):=by rw[← Ug];exact filled_get ss i h
theorem Dq.bl (h:Dq w lo hi v ts) (hb:Bw w w'):Dq w' lo hi v ts:=Bg.bl h hb
theorem Dq.keep (h:Dq w lo hi v ts) (hk:Dj lo' hi' w w') (hd:hi ≤ lo'∨hi' ≤ lo):Dq w' lo hi v ts:=Bg.keep h hk hd
theorem Dq.wide (h:Dq w lo hi v ts) (h1:lo' ≤ lo) (h2:hi ≤ hi'):Dq w lo' hi' v ts:=Bg.wide h h1 h2
theorem Dq.sl (h:Dq w lo hi v ts):∃ a cap,v=.slice a ts.length cap∧Cv w a ts:=by
  rcases Cs (Bg.own h) with ⟨rfl,h0⟩|⟨g,cap,rfl⟩
  · exact qbk
  · refine⟨_,cap,rfl,fun i hi=>⟨g,0,rfl,?_⟩⟩
    rw[Nat.zero_add,(Bg.own h).cellAt _ qb];exact map_str ts i hi
theorem Dq.set (h:Dq w lo hi v ts) (hb:b<lo) (u:Value):Dq (w.setCell ⟨b,j,none⟩ u) lo hi v ts:=h.keep (Dj.set (lo:=b) (hi:=b+1) (Nat.le_refl _) (Nat.lt_succ_self _) j u) (Or.inr hb)
structure Kd (w:World) (lo hi:Nat) (v:Value) (rs:List T3) (xs:List Value) (cv lv:Nat→Value):Prop where
  row:Bg w lo hi 97 3 v rs.length xs
  fil:∀ i,i<rs.length→xs[i*3]?=some (cv i)∧xs[i*3+1]?=some (lv i)∧xs[i*3+2]?=some (.string (qx rs i).out)
  code:∀ i,i<rs.length→∃ ys,Bg w lo hi 128 3 (cv i) (qx rs i).code.length ys∧Cl (qx rs i).code (qx rs i).code.length ys
  look:∀ i,i<rs.length→∃ ys,Bg w lo hi 125 3 (lv i) (qx rs i).looks.length ys∧Bo (qx rs i).looks (qx rs i).looks.length ys
  apc:∀ i j,i<j→j<rs.length→∀ b,(cv i).ownBlock=some b→(cv j).ownBlock≠some b
  apl:∀ i j,i<j→j<rs.length→∀ b,(lv i).ownBlock=some b→(lv j).ownBlock≠some b
  som:∀ i,i<rs.length→∃ g cap,lv i=.slice (p_ g) (qx rs i).looks.length cap
def Ii (w:World) (lo hi:Nat) (v:Value) (rs:List T3):Prop:=∃ xs cv lv,Kd w lo hi v rs xs cv lv
theorem Kd.bl (h:Kd w lo hi v rs xs cv lv) (hb:Bw w w'):Kd w' lo hi v rs xs cv lv:=
  ⟨h.row.bl hb,h.fil,fun i hi=>by obtain⟨ys,h1,h2⟩:=h.code i hi;exact⟨ys,h1.bl hb,h2⟩,fun i hi=>by obtain⟨ys,h1,h2⟩:=h.look i hi;exact⟨ys,h1.bl hb,h2⟩,h.apc,h.apl,h.som⟩
theorem Kd.keep (h:Kd w lo hi v rs xs cv lv) (hk:Dj lo' hi' w w') (hd:hi ≤ lo'∨hi' ≤ lo):Kd w' lo hi v rs xs cv lv:=
  ⟨h.row.keep hk hd,h.fil,fun i hi=>by obtain⟨ys,h1,h2⟩:=h.code i hi;exact⟨ys,h1.keep hk hd,h2⟩,fun i hi=>by obtain⟨ys,h1,h2⟩:=h.look i hi;exact⟨ys,h1.keep hk hd,h2⟩,h.apc,h.apl,h.som⟩
theorem Kd.wide (h:Kd w lo hi v rs xs cv lv) (h1:lo' ≤ lo) (h2:hi ≤ hi'):Kd w lo' hi' v rs xs cv lv:=
  ⟨h.row.wide h1 h2,h.fil,fun i hi=>by obtain⟨ys,k1,k2⟩:=h.code i hi;exact⟨ys,k1.wide h1 h2,k2⟩,fun i hi=>by obtain⟨ys,k1,k2⟩:=h.look i hi;exact⟨ys,k1.wide h1 h2,k2⟩,h.apc,h.apl,h.som⟩
theorem Ii.bl (h:Ii w lo hi v rs) (hb:Bw w w'):Ii w' lo hi v rs:=by
  obtain⟨xs,cv,lv,h⟩:=h;exact⟨xs,cv,lv,h.bl hb⟩
theorem Ii.keep (h:Ii w lo hi v rs) (hk:Dj lo' hi' w w') (hd:hi ≤ lo'∨hi' ≤ lo):Ii w' lo hi v rs:=by
  obtain⟨xs,cv,lv,h⟩:=h;exact⟨xs,cv,lv,h.keep hk hd⟩
theorem Ii.wide (h:Ii w lo hi v rs) (h1:lo' ≤ lo) (h2:hi ≤ hi'):Ii w lo' hi' v rs:=by
  obtain⟨xs,cv,lv,h⟩:=h;exact⟨xs,cv,lv,h.wide h1 h2⟩
theorem Ii.set (h:Ii w lo hi v rs) (hb:b<lo) (u:Value):Ii (w.setCell ⟨b,j,none⟩ u) lo hi v rs:=h.keep (Dj.set (lo:=b) (hi:=b+1) (Nat.le_refl _) (Nat.lt_succ_self _) j u) (Or.inr hb)
theorem Wr {is:List G3} (h:Bg w lo hi 125 3 v is.length ys) (hf:Bo is is.length ys):∃ a cap,v=.slice a is.length cap∧Hr w a is:=by
  rcases Cs h.own with ⟨rfl,h0⟩|⟨g,cap,rfl⟩
  · exact qbk
  · exact⟨_,cap,rfl,Qar rfl h.own hf⟩
theorem Ii.sl (h:Ii w lo hi v rs):∃ a cap,v=.slice a rs.length cap∧Lx w a rs:=by
  obtain⟨xs,cv,lv,h⟩:=h
  rcases Cs h.row.own with ⟨rfl,h0⟩|⟨g,cap,rfl⟩
  · exact qbk
  · refine⟨_,cap,rfl,fun i hi=>?_⟩
    obtain⟨h1,h2,h3⟩:=h.fil i hi;obtain⟨ys,k1,k2⟩:=h.code i hi;obtain⟨zs,j1,j2⟩:=h.look i hi;obtain⟨a',ai,e,r⟩:=Qg k1 k2;obtain⟨a2,nr,e2,r2⟩:=Wr j1 j2;refine⟨g,0,rfl,a',ai,a2,nr,?_,?_,?_,r,r2⟩
    · rw[Nat.zero_add,h.row.own.cellAt _ qb,h1,e]
    · rw[Nat.zero_add,h.row.own.cellAt _ qb,h2,e2]
    · rw[Nat.zero_add,h.row.own.cellAt _ qb,h3]
structure Ef (w:World) (lo:Nat) (is:List T3) (k:Nat) (xs:List Value) (cv lv:Nat→Value):Prop where
  fil:∀ i,i<k→xs[i*3]?=some (cv i)∧xs[i*3+1]?=some (lv i)∧xs[i*3+2]?=some (.string (qx is i).out)
  code:∀ i,i<k→∃ ys,w.ownsRow lo 128 3 (cv i) (qx is i).code.length ys∧Cl (qx is i).code (qx is i).code.length ys
  look:∀ i,i<k→∃ ys,w.ownsRow lo 125 3 (lv i) (qx is i).looks.length ys∧Bo (qx is i).looks (qx is i).looks.length ys
  apc:∀ i j,i<j→j<k→∀ b,(cv i).ownBlock=some b→(cv j).ownBlock≠some b
  apl:∀ i j,i<j→j<k→∀ b,(lv i).ownBlock=some b→(lv j).ownBlock≠some b
  som:∀ i,i<k→∃ g cap,lv i=.slice (p_ g) (qx is i).looks.length cap
theorem Ef.same (h:Ef w lo is k xs cv lv) (hk:∀ b,lo ≤ b→b<w.heap.size→w'.heap[b]?=w.heap[b]?):Ef w' lo is k xs cv lv:=
  ⟨h.fil,fun i hi=>by
    obtain⟨ys,h1,h2⟩:=h.code i hi
    exact⟨ys,Aj h1 (fun b e=>hk b (h1.lt b e).1 (h1.lt b e).2),h2⟩,fun i hi=>by
    obtain⟨ys,h1,h2⟩:=h.look i hi;exact⟨ys,Aj h1 (fun b e=>hk b (h1.lt b e).1 (h1.lt b e).2),h2⟩,h.apc,h.apl,h.som⟩
theorem Ef.bl (h:Ef w lo is k xs cv lv) (hb:Bw w w'):Ef w' lo is k xs cv lv:=h.same fun b _ hl=>hb.block b hl
theorem Ef.set (h:Ef w lo is k xs cv lv) (hb:b<lo) (u:Value):Ef (w.setCell ⟨b,j,none⟩ u) lo is k xs cv lv:=h.same fun c hc _=>hC w ⟨b,j,none⟩ u c (by show c≠b;omega)
theorem Ef.zero (w:World) (lo:Nat) (is:List T3) (xs:List Value):Ef w lo is 0 xs (fun _=>nS) (fun _=>nS):=⟨fun i hi=>qb,fun i hi=>qb,fun i hi=>qb,fun i j _ hj=>qb,fun i j _ hj=>qb,fun i hi=>qb⟩
theorem Ef.add {w2:World} {xs2:List Value} (h:Ef w lo is k xs cv lv) (hk:∀ b,lo ≤ b→b<w.heap.size→w2.heap[b]?=w.heap[b]?∨∃ n zs B v,w.ownsRow B 97 3 v n zs∧v.ownBlock=some b) (hl:lo ≤ w.heap.size) {c d:Value} {zs:List Value} (ho:w2.ownsRow w.heap.size 128 3 c (qx is k).code.length ys) (hf:Cl (qx is k).code (qx is k).code.length ys) (nj:w2.ownsRow w.heap.size 125 3 d (qx is k).looks.length zs) (uh:Bo (qx is k).looks (qx is k).looks.length zs) (hd:∃ g cap,d=.slice (p_ g) (qx is k).looks.length cap)
    (h1:∀ j,j<k*3→xs2[j]?=xs[j]?) (h2:xs2[k*3]?=some c) (h3:xs2[k*3+1]?=some d) (h4:xs2[k*3+2]?=some (.string (qx is k).out)):Ef w2 lo is (k+1) xs2 (fun i=>if i=k then c else cv i) (fun i=>if i=k then d else lv i):=by
  have hsame:∀ {e sz n:Nat} {u:Value} {us:List Value},w.ownsRow lo e sz u n us→97≠e→w2.ownsRow lo e sz u n us:=fun {e sz n u us} k1 hne=>Aj k1 (fun b eb=>by
    rcases hk b (k1.lt b eb).1 (k1.lt b eb).2 with h|⟨n',zs',B',v',o',e'⟩
    · exact h
    · exact absurd eb (Qk o' k1 hne b e'))
  refine⟨fun i hi=>?_,fun i hi=>?_,fun i hi=>?_,fun i j td hj=>?_,fun i j td hj=>?_,fun i hi=>?_⟩
  · rcases Nat.lt_or_ge i k with hl|hl
    · obtain⟨k1,k2,k3⟩:=h.fil i hl
      rw[h1 _ qb,h1 _ qb,h1 _ qb,if_neg qb,if_neg qb];exact⟨k1,k2,k3⟩
    · obtain rfl:i=k:=qb
      rw[if_pos rfl,if_pos rfl];exact⟨h2,h3,h4⟩
  · rcases Nat.lt_or_ge i k with aj|W3
    · obtain⟨zs,k1,k2⟩:=h.code i aj
      exact qne
    · obtain rfl:i=k:=qb
      simp only[if_true];exact⟨ys,Ah ho hl,hf⟩
  · rcases Nat.lt_or_ge i k with aj|W3
    · obtain⟨zs,k1,k2⟩:=h.look i aj
      exact qne
    · obtain rfl:i=k:=qb
      simp only[if_true];exact⟨zs,Ah nj hl,uh⟩
  · rcases Nat.lt_or_ge j k with aj|W3
    · simp only[if_neg (show ¬ i=k from qb),if_neg (show ¬ j=k from qb)]
      exact h.apc i j td aj
    · exact qji
  · rcases Nat.lt_or_ge j k with aj|W3
    · simp only[if_neg (show ¬ i=k from qb),if_neg (show ¬ j=k from qb)]
      exact h.apl i j td aj
    · obtain rfl:j=k:=qb
      simp only[if_neg (show ¬ i=j from qb),if_true];intro b e1 e2;obtain⟨zs,k1,_⟩:=h.look i td;have:=(k1.lt b e1).2;have:=(nj.lt b e2).1;omega
  · rcases Nat.lt_or_ge i k with aj|W3
    · simp only[if_neg (show ¬ i=k from qb)]
      exact h.som i aj
    · obtain rfl:i=k:=qb
      simp only[if_true];exact hd
theorem Ef.own (h:Ef w lo' is is.length xs cv lv) (hr:w.ownsRow lo 97 3 v is.length xs) (hl:lo ≤ lo') (hh:w.heap.size ≤ hi):Ii w lo hi v is:=
  ⟨xs,cv,lv,⟨hr,fun b e=>by have:=(hr.lt b e).2;omega⟩,h.fil,fun i hi=>by
    obtain⟨ys,h1,h2⟩:=h.code i hi
    exact⟨ys,⟨Ah h1 hl,fun b e=>by have:=(h1.lt b e).2;omega⟩,h2⟩,fun i hi=>by
    obtain⟨ys,h1,h2⟩:=h.look i hi;exact⟨ys,⟨Ah h1 hl,fun b e=>by have:=(h1.lt b e).2;omega⟩,h2⟩,h.apc,h.apl,h.som⟩
theorem set3_old (u v t:Value) (hj:j<k*3):(((xs.set (k*3) u).set (k*3+1) v).set (k*3+2) t)[j]?=xs[j]?:=by
  simp only[List.getElem?_set];rw[if_neg qb,if_neg qb,if_neg qb]
theorem set3_0 (u v t:Value) (hx:k*3+2<xs.length):(((xs.set (k*3) u).set (k*3+1) v).set (k*3+2) t)[k*3]?=some u:=by
  simp only[List.getElem?_set];rw[if_neg qb,if_neg qb,if_pos trivial,if_pos qb]
theorem set3_1 (u v t:Value) (hx:k*3+2<xs.length):(((xs.set (k*3) u).set (k*3+1) v).set (k*3+2) t)[k*3+1]?=some v:=by
  simp only[List.getElem?_set];rw[if_neg qb,if_pos trivial,if_pos qh]
theorem set3_2 (u v t:Value) (hx:k*3+2<xs.length):(((xs.set (k*3) u).set (k*3+1) v).set (k*3+2) t)[k*3+2]?=some t:=by
  simp only[List.getElem?_set];rw[if_pos trivial,if_pos qh]
theorem heapW_new2 (w:World) (o o2:Obj):((w.alloc o).alloc o2).heap[w.heap.size+1]?=some o2:=by
  have h:=Cm (w.alloc o) o2;rw[show (w.alloc o).heap.size=w.heap.size+1 from qg] at h;exact h
theorem heapW_old2 (w:World) (o o2:Obj):((w.alloc o).alloc o2).heap[w.heap.size]?=some o:=by
  rw[Lib.alloc_old _ _ _ qg];exact Cm _ _
theorem Bb {v1 v2 v3:Value} (h:w.heap[b]?=some (.cells #[v1,v2,v3] T (0,0))):w.cell? ⟨b,0,none⟩=some v1∧w.cell? ⟨b,1,none⟩=some v2∧w.cell? ⟨b,2,none⟩=some v3:=
  ⟨qaj,qaj,qaj⟩
theorem Dq.setT (ho:Dq w lo hi v ts) (h:Dk w b T) (h9:T≠9) (u:Value):Dq (w.setCell ⟨b,j,none⟩ u) lo hi v ts:=⟨Al (Bg.own ho) h h9 u,Bg.top ho⟩
theorem Ii.setT (ho:Ii w lo hi v rs) (h:Dk w b T) (h66:T≠97) (h98:T≠128) (h88:T≠125) (u:Value):Ii (w.setCell ⟨b,j,none⟩ u) lo hi v rs:=by
  obtain⟨xs,cv,lv,k⟩:=ho
  exact⟨xs,cv,lv,⟨Al k.row.own h h66 u,k.row.top⟩,k.fil,fun i hi=>by
    obtain⟨ys,k1,k2⟩:=k.code i hi
    exact⟨ys,⟨Al k1.own h h98 u,k1.top⟩,k2⟩,fun i hi=>by
    obtain⟨ys,k1,k2⟩:=k.look i hi;exact⟨ys,⟨Al k1.own h h88 u,k1.top⟩,k2⟩,k.apc,k.apl,k.som⟩
theorem Ef.setT (h:Ef w lo is k xs cv lv) (ht:Dk w b T) (h98:T≠128) (h88:T≠125) (u:Value):Ef (w.setCell ⟨b,j,none⟩ u) lo is k xs cv lv:=
  ⟨h.fil,fun i hi=>by
    obtain⟨ys,k1,k2⟩:=h.code i hi
    exact⟨ys,Al k1 ht h98 u,k2⟩,fun i hi=>by
    obtain⟨ys,k1,k2⟩:=h.look i hi;exact⟨ys,Al k1 ht h88 u,k2⟩,h.apc,h.apl,h.som⟩
def gloC (gs:List G3) (j:Nat):Value:=if j % 3=0 then .string (gx gs (j / 3)).name else if j % 3=1 then .bool (gx gs (j / 3)).ask else .string (gx gs (j / 3)).sum
def Kh (gs:List G3):List Value:=(List.range (gs.length*3)).map (gloC gs)
theorem Mq (gs:List G3):(Kh gs).length=gs.length*3:=by simp[Kh]
theorem Pu (gs:List G3) (j:Nat) (h:j<gs.length*3):(Kh gs)[j]?=some (gloC gs j):=by
  unfold Kh;rw[List.getElem?_map,List.getElem?_range h];rfl
theorem Rh (gs:List G3):Bo gs gs.length (Kh gs):=by
  intro i hi;rw[Pu gs _ qb,Pu gs _ qb,Pu gs _ qb];unfold gloC;exact qiw
theorem Qbr (gs:List G3):∀ u∈Kh gs,u.oneCell'=true:=by
  intro u hu;obtain⟨j,_,rfl⟩:=List.mem_map.mp hu;unfold gloC;split
  · rfl
  · split<;>rfl
theorem Xd {gs:List G3} (h:Hr w (some ⟨b,off,none⟩) gs):∀ j u,(Kh gs)[j]?=some u→w.cell? ((⟨b,off,none⟩:Addr).add j)=some u:=by
  intro j u hu;rw[Addr.add_lit]
  have hj:j<gs.length*3:=by
    rcases Nat.lt_or_ge j (gs.length*3) with h|h
    · exact h
    · rw[List.getElem?_eq_none (by rw[Mq];exact h)] at hu;cases hu
  rw[Pu gs j hj] at hu;obtain rfl:=Option.some.inj hu;obtain⟨b',bq,ha,c1,c2,c3⟩:=h (j / 3) qb;cases ha;unfold gloC;split
  · rename_i hm
    rw[show off+j=off+j / 3*3 from qb];exact c1
  · split
    · rename_i hm
      rw[show off+j=off+j / 3*3+1 from qb];exact c2
    · rw[show off+j=off+j / 3*3+2 from qb];exact c3
theorem Nb (ss:List By):∀ u∈ss.map Value.string,u.oneCell'=true:=by
  intro u hu;obtain⟨s,_,rfl⟩:=List.mem_map.mp hu;rfl
theorem Ow (h:Cv w (some ⟨b,off,none⟩) ss):∀ j u,(ss.map Value.string)[j]?=some u→w.cell? ((⟨b,off,none⟩:Addr).add j)=some u:=by
  intro j u hu;rw[Addr.add_lit]
  have hj:j<ss.length:=by
    rcases Nat.lt_or_ge j ss.length with h|h
    · exact h
    · rw[List.getElem?_eq_none qas] at hu;cases hu
  rw[map_str ss j hj] at hu;obtain rfl:=Option.some.inj hu;obtain⟨b',bq,ha,c1⟩:=h j hj;cases ha;exact c1
theorem Tryz.info88b:(prog.info? 125).map (fun i=>(i.zero,i.size,i.bytes))=some (some (.agg #[ze,.bool false,ze]),3,40):=qi
theorem Tryz.info66b:(prog.info? 97).map (fun i=>(i.zero,i.size,i.bytes))=some (some (.agg #[nS,nS,ze]),3,64):=qi
theorem cloneX_any (b off cap:Nat) (is:List By) (w:World) (hc:Cv w (some ⟨b,off,none⟩) is) (hl:is.length ≤ 1048576) :
    Calls prog 104 #[.slice (some ⟨b,off,none⟩) is.length cap] w fun e w'=>Bw w w'∧∃ g cp,e=.returned (.slice (p_ g) is.length cp)∧w'.ownsRow w.heap.size 9 1 (.slice (p_ g) is.length cp) is.length (is.map Value.string):=by
  obtain⟨i0,hi,bp,bh,bv⟩:=info_parts Tryz.info9b;have dm:(w.alloc (.cells #[] 9)).ownsRow w.heap.size 9 1 (.slice (p_ w.heap.size) 0 0) 0 []:=World.ownsRow_lit (base:=w.heap.size) (e:=9) (size:=1) w #[] 0 (Nat.le_refl _) qm qg;have hn:=Ow (hc.bl ((Below.refl w.heap.size w).alloc (Nat.le_refl _) (.cells #[] 9)));have HL:Hd ((is.map Value.string).length=is.length*1):=by show _=_;simp
  have HO:=hid (Nb is);generalize is.map Value.string=xs at *;clear hc;have hq:∀ W:World,(binOp .eql 22 (.slice (some ⟨b,off,none⟩) is.length cap) nS).run prog W=.ok (.bool false) W:=fun W=>Lib.run_eql_slice_nil W 22 9 _ _ _ 0 0 underlying22;go_enter func104,ntmps104
  go_wp2_with (at_builtin;refine wpList_append_own _ rfl (.tmp 5) (.tmp 6) 22 rfl w.heap.size 9 i0 ze 1 16 underlying22 hi bp bh bv rfl qd _ 0 [] rfl dm ⟨b,off,none⟩ is.length cap xs rfl HL.o hn HO.o qm qb qg ?_;intro v' w2 ba ae dp)
  exact qer
def Qv (lo:Nat) (w:World) (e:Ending) (is:List I3) (gs:List G3) (out:By):Prop:=∃ g1 p1 g2 p2,e=.returned (.agg #[.slice (p_ g1) is.length p1,.slice (p_ g2) gs.length p2,.string out])∧w.ownsRow lo 128 3 (.slice (p_ g1) is.length p1) is.length (El is)∧w.ownsRow lo 125 3 (.slice (p_ g2) gs.length p2) gs.length (Kh gs)

theorem Qr {P:Nat} {x y z:Value} (hz:w.heap[P]?=some (.cells #[x,y,z] T (0,0))) (u1 u2 u3:Value):(((w.setCell ⟨P,0,none⟩ u1).setCell ⟨P,1,none⟩ u2).setCell ⟨P,2,none⟩ u3).heap[P]?=some (.cells #[u1,u2,u3] T (0,0)):=by
  have h1:(w.setCell ⟨P,0,none⟩ u1).heap[P]?=some (.cells #[u1,y,z] T (0,0)):=by rw[jB hz];rfl
  have h2:((w.setCell ⟨P,0,none⟩ u1).setCell ⟨P,1,none⟩ u2).heap[P]?=some (.cells #[u1,u2,z] T (0,0)):=by rw[jB h1];rfl
  rw[jB h2];rfl

theorem Hx (w:World) (dT sT ty elem:TypeId) (g o dLen dCap:Nat) (a:Addr) (sLen sCap:Nat) (cur:Array Value) (t:TypeId) (cs:List Value)
    (hu:prog.underlying dT=some (.slice elem)) (hs:(prog.info? elem).map (·.size)=some 1)
    (hg:w.heap[g]?=some (.cells cur t (0,0))) (hn:cs.length=Nat.min sLen dLen)
    (hsrc:∀ j v,cs[j]?=some v→w.cell? (a.add j)=some v) (hfit:o+cs.length ≤ cur.size) (h1:∀ v∈cs,v.oneCell'=true) :
    (Builtin.copy_ #[dT,sT] ty #[.slice (some ⟨g,o,none⟩) dLen dCap,.slice (some a) sLen sCap]).run prog w =
      .ok (goInt (Nat.min sLen dLen)) (w.setRow g (cur.toList.take o++cs++cur.toList.drop (o+cs.length)).toArray):=by
  have hl:=run_loadCells_list (P:=prog) w a cs hsrc;have cz:=run_storeCells_at prog g o t cs 0 cur w hg (by simpa using hfit) h1
  cases hq:prog.info? elem with
  | none=>simp[hq] at hs
  | some i=>
    (have hi:i.size=1:=by simpa [hq] using hs);simp[Builtin.copy_,run_underlying hu,Builtin.lenOf,Builtin.firstCells,sizeOf,typeInfo,hq,hi,← hn,hl,cz]
theorem Tn {α:Type} (L cs:List α) (o:Nat) (h:o ≤ L.length):(L.take o++cs++L.drop (o+cs.length)).take (o+cs.length)=L.take o++cs:=by
  rw[List.take_append_of_le_length qh,List.take_of_length_le qh]
theorem shift_take {α:Type} (C xs vs:List α) (i n:Nat) (hi:i ≤ n) (hx:C.take (n)=xs) (hl:(n+1) ≤ C.length) (hv:vs.length=1) (C1 C2:List α)
    (h1:C1=C.take ((i+1))++xs.drop (i)++C.drop ((i+1)+(xs.drop (i)).length)) (h2:C2=C1.take (i)++vs++C1.drop (i+vs.length)) :
    C2.length=C.length∧C2.take ((n+1))=xs.take (i)++vs++xs.drop (i):=by
  have tz:xs.length=n:=by rw[← hx,List.length_take];omega
  have B7:(xs.drop (i)).length=n-i:=by rw[List.length_drop,tz]
  have wg:C1.length=C.length:=by rw[h1];simp[B7];omega
  have e1:C1.take ((n+1))=C.take ((i+1))++xs.drop (i):=by
    have:=Tn C (xs.drop (i)) ((i+1)) qb;rw[← h1,B7,show (i+1)+(n-i)=(n+1) from qb] at this;exact this
  have e2:C1.take (i)=xs.take (i):=by
    have:=congrArg (fun l=>l.take (i)) e1;simp only[List.take_take] at this;rw[Nat.min_eq_left qb,List.take_append_of_le_length qh,List.take_take,Nat.min_eq_left qb] at this;rw[this,← hx,List.take_take,Nat.min_eq_left qb]
  have e3:(C1.take ((n+1))).drop ((i+1))=xs.drop (i):=by
    rw[e1,List.drop_append_of_le_length qh,List.drop_of_length_le qh,List.nil_append]
  have Io:C2.length=C.length:=by rw[h2];simp[hv,wg];omega
  refine⟨Io,?_⟩;rw[h2,hv,show i+1=(i+1) from qb,List.take_append,List.take_of_length_le (by simp[hv,wg];omega)];rw[e2];congr 1;rw[← e3,List.drop_take];congr 1;simp[hv,tz];omega
theorem grow_take {α:Type} (R xs vs Z:List α) (i n:Nat) (hi:i ≤ n) (tz:xs.length=n) (hR:R=xs.take (i)++Z) (hZ:(n+1-i) ≤ Z.length) (hv:vs.length=1) (C1 C2:List α)
    (h1:C1=R.take (i)++vs++R.drop (i+vs.length)) (h2:C2=C1.take ((i+1))++xs.drop (i)++C1.drop ((i+1)+(xs.drop (i)).length)) :
    C2.length=R.length∧C2.take ((n+1))=xs.take (i)++vs++xs.drop (i):=by
  have B7:(xs.drop (i)).length=n-i:=by rw[List.length_drop,tz]
  have hRl:R.length=i+Z.length:=by rw[hR];simp[tz];omega
  have wg:C1.length=R.length:=by rw[h1];simp[hv];omega
  have e1:C1.take ((i+1))=xs.take (i)++vs:=by
    have:=Tn R vs (i) qb;rw[← h1,hv,show i+1=(i+1) from qb] at this;rw[this,hR,List.take_append_of_le_length (by simp[tz];omega),List.take_take,Nat.min_self]
  have e2:=Tn C1 (xs.drop (i)) ((i+1)) qb;rw[← h2,B7,show (i+1)+(n-i)=(n+1) from qb,e1] at e2;refine⟨?_,e2⟩;rw[h2];simp[B7,wg];omega
theorem Qbc (h:∀ v∈xs,v.oneCell'=true) (k:Nat):∀ v∈xs.drop k,v.oneCell'=true:=fun v hv=>h v (List.mem_of_mem_drop hv)
/-! ### Text -/
theorem Tryz.size9:(prog.info? 9).map (·.size)=some 1:=qi
theorem Tryz.szrun9:∀ w,(Go.sizeOf 9).run prog w=.ok 1 w:=fun w=>by
  obtain⟨i0,hi,bp,bh,bv⟩:=info_parts Tryz.info9b;simp[sizeOf,typeInfo,hi,bh]
theorem Vu (g n c i vb:Nat) (cur:Array Value) (y:Value) (w:World) (hi:i<n) (M4:n+1 ≤ c) (B9:c ≤ maxLen) (hg:w.heap[g]?=some (.cells cur 9 (0,0))) (hcur:cur.size=c) (hb:w.heap[vb]?=some (.cells #[y] 9 (0,0))) (hvb:vb≠g)
    (h1c:∀ v∈cur.toList.take (n),v.oneCell'=true) (h1v:∀ v∈[y],v.oneCell'=true) (C1 C2:List Value)
    (e1:C1=cur.toList.take ((i+1))++(cur.toList.take (n)).drop (i)++cur.toList.drop ((i+1)+((cur.toList.take (n)).drop (i)).length)) (e2:C2=C1.take (i)++[y]++C1.drop (i+[y].length)) :
    Calls prog 176 #[.slice (p_ g) n c,I i,.slice (p_ vb) 1 1] w fun e w'=>e=.returned (.slice (p_ g) (n+1) c)∧w'=(w.drew.setRow g C1.toArray).setRow g C2.toArray:=by
  unfold maxLen at B9;have B7:((cur.toList.take (n)).drop (i)).length=(n-i):=by rw[List.length_drop,List.length_take,Array.length_toList,hcur];omega
  have wg:C1.length=cur.size:=by rw[e1];simp[B7,hcur];omega
  have hov:∀ lb cb,(callFunc 184 #[.slice (p_ vb) 1 1,.slice (some ⟨g,(i+1),none⟩) lb cb]).run prog w=.ok (.value (.bool false)) w:=fun lb cb=>by
    rw[run_callFunc_extern func184 qi qi qi (e:=Extern.SlicesOverlaps.overlaps #[22,22] #[4]) qi,
      Lib.run_overlaps_apart w 22 4 9 underlying22 1 Tryz.szrun9 ⟨vb,0,none⟩ ⟨g,(i+1),none⟩ 1 1 lb cb hvb 9 9 1 cur.size (by simp[World.shape?,hb]) (by simp[World.shape?,hg]) qb (fH hb 0) (fH hb 1)]
    rfl
  have hcp1:∀ ty dc sc,(Builtin.copy_ #[22,22] ty #[.slice (some ⟨g,(i+1),none⟩) (n-i) dc,.slice (some ⟨g,i,none⟩) (n+1-i) sc]).run prog w.drew=.ok (goInt ((n-i:Nat):Int)) (w.drew.setRow g C1.toArray):=fun ty dc sc=>by
    have h:=Hx w.drew 22 22 ty 9 g ((i+1)) (n-i) dc ⟨g,i,none⟩ (n+1-i) sc cur 9 ((cur.toList.take (n)).drop (i)) underlying22 Tryz.size9 hg (by rw[B7];simp only[Nat.min_def];split<;>omega)
      (fun j v hj=>by
        rw[Addr.add_lit,cH (w:=w.drew) (cs:=cur) (T:=9) (fr:=(0,0)) hg];rw[List.getElem?_drop,List.getElem?_take] at hj
        split at hj
        · rw[← Array.getElem?_toList];exact hj
        · cases hj) (by rw[B7];omega) (Qbc h1c _)
    rw[← e1,show Nat.min (n+1-i) (n-i)=n-i from qgm] at h;exact h
  obtain⟨W1,hW1⟩:∃ W1,W1=w.drew.setRow g C1.toArray:=⟨_,rfl⟩;have hg1:W1.heap[g]?=some (.cells C1.toArray 9 (0,0)):=by rw[hW1];exact setRow_heap _ _ _ _ _ _ hg
  have af:W1.heap[vb]?=some (.cells #[y] 9 (0,0)):=by rw[hW1,setRow_other _ _ _ _ hvb];exact hb
  have hcp2:∀ ty dc,(Builtin.copy_ #[22,22] ty #[.slice (some ⟨g,i,none⟩) (n+1-i) dc,.slice (p_ vb) 1 1]).run prog W1=.ok (goInt 1) (W1.setRow g C2.toArray):=fun ty dc=>by
    have h:=Hx W1 22 22 ty 9 g (i) (n+1-i) dc ⟨vb,0,none⟩ 1 1 C1.toArray 9 [y] underlying22 Tryz.size9 hg1 (by show 1=_;simp only[Nat.min_def];split<;>omega)
      (fun j v hj=>by
        rw[Addr.add_lit,cH af,Nat.zero_add];simpa using hj) (by simp[wg,hcur];omega) h1v
    rw[← e2,show Nat.min 1 (n+1-i)=1 from qgm] at h;exact h
  rw[← hW1] at hcp1 ⊢;have bv:¬ ((i:Int)=(n:Int)):=qb;have hzr:¬ ((c:Int)<(n:Int)+1):=qb;have G7:IntKind.i64.wrap ((i:Int)+1)=(i:Int)+1:=qef;have G6:IntKind.i64.wrap ((n:Int)+1)=(n:Int)+1:=qef;have hbb1:(0:Int) ≤ (i:Int)+1:=qb;have mw:i ≤ n:=qb;have htn:((i:Int)+1).toNat=i+1:=qb;have htm:((n:Int)+1).toNat=n+1:=qb;have ag:¬ (c=i+1):=qb;have aw:(i:Int) ≤ (n:Int)+1:=qb;have cj:¬ (c=i):=qb;clear hg hb hg1 af e1 e2 h1c h1v wg B7 hcur hW1;have mixed:prog.follows .mixedOrders=true:=qi;go_enter func176,ntmps176
  go_wp2_with (simp only[hov])
  go_region_law_o (refine step_copy_runI rfl _ _ 22 22 rfl _ _ qej qej (hcp1 _ _ _) ?_)
  go_wp2_with (at_builtin;refine wpList_copy_runI _ rfl _ _ 22 22 rfl _ _ rfl rfl (hcp2 _ _) ?_)
  go_ret;exact⟨rfl,rfl⟩
theorem Zf (g n c i vb:Nat) (cur:Array Value) (xs:List Value) (y:Value) (w:World) (hi:i<n) (hnc:n ≤ c) (M4:c<n+1) (hn:n ≤ 1048576) (hg:w.heap[g]?=some (.cells cur 9 (0,0))) (hxs:cur.toList.take (n)=xs) (tz:xs.length=n) (hb:w.heap[vb]?=some (.cells #[y] 9 (0,0)))
    (h1c:∀ v∈xs,v.oneCell'=true) (h1v:∀ v∈[y],v.oneCell'=true) :
    Calls prog 176 #[.slice (p_ g) n c,I i,.slice (p_ vb) 1 1] w fun e w'=>∃(G:Nat) (C:List Value),e=.returned (.slice (p_ w.heap.size) (n+1) G)∧n+1 ≤ G∧G ≤ maxLen∧C.length=G∧C.take ((n+1))=xs.take (i)++[y]++xs.drop (i)∧w'.heap[w.heap.size]?=some (.cells C.toArray 9 (0,0))∧w'.heap.size=w.heap.size+1∧(∀ b,b<w.heap.size→w'.heap[b]?=w.heap[b]?)∧w'.os=w.os∧w'.tape=w.tape∧w'.output=w.output:=by
  obtain⟨i0,B3,bp,hzs,hzb⟩:=info_parts Tryz.info9b;have kj:(n:Int)+1-(i:Int)=((n+1-i:Nat):Int):=qb;have hik:i+(n+1-i)=n+1:=qb
  have iz:∀ j v,xs[j]?=some v→∀ W:World,W.heap[g]?=w.heap[g]?→W.cell? ⟨g,j,none⟩=some v:=fun j v hj W hW=>by
    rw[cH (w:=W) (hW.trans hg),← Array.getElem?_toList];rw[← hxs,List.getElem?_take] at hj
    split at hj
    · exact hj
    · cases hj
  have Y8:(Builtin.firstCells i0.size i (.slice (p_ g) i c)).run prog w.drew=.ok (xs.take (i)).toArray w.drew:=by
    rw[hzs]
    exact run_firstCells_some w.drew 1 i ⟨g,0,none⟩ i c (xs.take (i)) (by rw[List.length_take];omega) (fun j v hj=>by
      rw[Addr.add_lit,Nat.zero_add];rw[List.getElem?_take] at hj
      split at hj
      · exact iz j v hj _ rfl
      · cases hj)
  have hrz:∀ ty,(Builtin.append_ #[22,3] ty #[.slice (p_ g) i c,I ((n:Int)+1-(i:Int))]).run prog w =
      .ok (.slice (p_ w.heap.size) (n+1) (grownCap w (n+1) c 9)) (w.drew.alloc (.cells ((xs.take (i)).toArray++Builtin.zeroCells ze.cells (n+1-i)++Builtin.zeroCells ze.cells (grownCap w (n+1) c 9-(n+1))) 9)):=fun ty=>by
    have h:=Lib.run_append_grow_zeros w 22 3 ty 9 i0 _ .i64 .i64 underlying22 underlying3 B3 bp (p_ g) i c (xs.take (i)) Y8 (n+1-i) qb qb qb qb (by rw[hzb];omega) (by rw[hzb,hik];exact growslice_fits M4 qb);rw[hik] at h;rw[kj];exact h
  obtain⟨G,hG⟩:∃ G,G=grownCap w (n+1) c 9:=⟨_,rfl⟩;have hGn:n+1 ≤ G:=by rw[hG];exact grownCap_ge w _ _ _
  have hGm:G ≤ maxLen:=by rw[hG];exact grownCap_le_maxLen w (n+1) c 9 qm
  obtain⟨Z,hZ⟩:∃ Z:List Value,Z=(Builtin.zeroCells ze.cells (n+1-i)).toList++(Builtin.zeroCells ze.cells (G-(n+1))).toList:=⟨_,rfl⟩
  have hZl:Z.length=(G-i):=by
    rw[hZ];simp[Builtin.zeroCells,Value.cells];omega
  obtain⟨R,hR⟩:∃ R:List Value,R=xs.take (i)++Z:=⟨_,rfl⟩;have hRl:R.length=G:=by rw[hR];simp[tz,hZl];omega
  have hROW:(xs.take (i)).toArray++Builtin.zeroCells ze.cells (n+1-i)++Builtin.zeroCells ze.cells (G-(n+1))=R.toArray:=by
    apply Array.ext';rw[hR,hZ];simp
  rw[← hG,hROW] at hrz;obtain⟨C1,h1⟩:∃ C1,C1=R.take (i)++[y]++R.drop (i+[y].length):=⟨_,rfl⟩;obtain⟨C2,h2⟩:∃ C2,C2=C1.take ((i+1))++xs.drop (i)++C1.drop ((i+1)+(xs.drop (i)).length):=⟨_,rfl⟩;obtain⟨Io,Q7⟩:=grow_take R xs [y] Z i n qb tz hR (by rw[hZl];omega) rfl C1 C2 h1 h2;have wg:C1.length=G:=by rw[h1];simp[hRl];omega
  have B7:(xs.drop (i)).length=(n-i):=by rw[List.length_drop,tz]
  have hvb:=Fa hb;have vt:=Fa hg;have hA:(w.alloc (.cells R.toArray 9)).heap[w.heap.size]?=some (.cells R.toArray 9 (0,0)):=Cm _ _
  have hcpA:∀(W:World),W.heap=(w.alloc (.cells R.toArray 9)).heap→∀ ty dc,(Builtin.copy_ #[22,22] ty #[.slice (some ⟨w.heap.size,i,none⟩) (n+1-i) dc,.slice (p_ vb) 1 1]).run prog W=.ok (goInt 1) (W.setRow w.heap.size C1.toArray):=fun W hW ty dc=>by
    have h:=Hx W 22 22 ty 9 w.heap.size (i) (n+1-i) dc ⟨vb,0,none⟩ 1 1 R.toArray 9 [y] underlying22 Tryz.size9 (by rw[hW];exact hA) (by show 1=_;simp only[Nat.min_def];split<;>omega)
      (fun j v hj=>by
        rw[Addr.add_lit,cH (w:=W) (cs:=#[y]) (T:=9) (fr:=(0,0)) (by rw[hW,Lib.alloc_old _ _ _ hvb];exact hb),Nat.zero_add];simpa using hj) (by simp[hRl];omega) h1v
    rw[← h1,show Nat.min 1 (n+1-i)=1 from qgm] at h;exact h
  have hcpB:∀(W:World),W.heap=((w.alloc (.cells R.toArray 9)).setRow w.heap.size C1.toArray).heap→∀ ty dc sc,(Builtin.copy_ #[22,22] ty #[.slice (some ⟨w.heap.size,(i+1),none⟩) (n-i) dc,.slice (some ⟨g,i,none⟩) (n-i) sc]).run prog W=.ok (goInt ((n-i:Nat):Int)) (W.setRow w.heap.size C2.toArray):=fun W hW ty dc sc=>by
    have h:=Hx W 22 22 ty 9 w.heap.size ((i+1)) (n-i) dc ⟨g,i,none⟩ (n-i) sc C1.toArray 9 (xs.drop (i)) underlying22 Tryz.size9 (by rw[hW];exact setRow_heap _ _ _ _ _ _ hA) (by rw[B7];simp)
      (fun j v hj=>by
        rw[Addr.add_lit];rw[List.getElem?_drop] at hj;exact iz _ v hj W (by rw[hW,setRow_other _ _ _ _ qb,Lib.alloc_old _ _ _ vt])) (by simp[wg,B7];omega) (Qbc h1c _)
    rw[← h2,show Nat.min (n-i) (n-i)=n-i from qg] at h;exact h
  have hcpA':=hcpA (w.alloc (.cells R.toArray 9)).drew rfl;have hcpB':=hcpB ((w.alloc (.cells R.toArray 9)).drew.setRow w.heap.size C1.toArray).drew rfl;clear hcpA hcpB
  have HX:Hd ((((w.alloc (.cells R.toArray 9)).drew.setRow w.heap.size C1.toArray).drew.setRow w.heap.size C2.toArray).heap[w.heap.size]?=some (.cells C2.toArray 9 (0,0))∧(((w.alloc (.cells R.toArray 9)).drew.setRow w.heap.size C1.toArray).drew.setRow w.heap.size C2.toArray).heap.size=w.heap.size+1∧∀ b,b<w.heap.size→(((w.alloc (.cells R.toArray 9)).drew.setRow w.heap.size C1.toArray).drew.setRow w.heap.size C2.toArray).heap[b]?=w.heap[b]?):=by
    refine⟨setRow_heap _ _ _ _ _ _ (setRow_heap (w.alloc (.cells R.toArray 9)).drew _ _ C1.toArray _ _ hA),qg,fun b F3=>?_⟩;rw[setRow_other _ _ _ _ qb];show ((w.alloc (.cells R.toArray 9)).drew.setRow w.heap.size C1.toArray).heap[b]?=_;rw[setRow_other _ _ _ _ qb];exact Lib.alloc_old _ _ _ F3
  have HC2:Hd (C2.length=G∧C2.take ((n+1))=xs.take (i)++[y]++xs.drop (i)):=⟨by rw[Io,hRl],Q7⟩;have bv:¬ ((i:Int)=(n:Int)):=qb;have hz3:(c:Int)<(n:Int)+1:=qb;have hG63:G ≤ 9223372036854775807:=by unfold maxLen at hGm;omega
  have hGi:¬ (G=i):=qb;have hGim:¬ (G=i+1):=qb;have hci:¬ (c=i):=qb;have G7:IntKind.i64.wrap ((i:Int)+1)=(i:Int)+1:=qef;have G6:IntKind.i64.wrap ((n:Int)+1)=(n:Int)+1:=qef;have hbb1:(0:Int) ≤ (i:Int)+1:=qb;have mw:i ≤ n:=qb;have htn:((i:Int)+1).toNat=i+1:=qb;have aw:(i:Int) ≤ (n:Int):=qb;have mixed:prog.follows .mixedOrders=true:=qi;have HGM:=hid hGm;clear kj hik Y8 hROW hG hRl hGm wg Io Q7 h1 h2 hR hZ hZl hg hb hxs iz hA h1c h1v B7;go_enter func176,ntmps176
  go_wp2_with (first
    | (at_builtin;refine Lib.wpList_append_run _ rfl _ _ _ _ rfl _ _ rfl rfl _ _ (hrz _) ?_)
    | (at_builtin;refine wpList_copy_runI _ rfl _ _ 22 22 rfl _ _ rfl rfl (hcpA' _ _) ?_))
  go_region_law_o (refine step_copy_runI rfl _ _ 22 22 rfl _ _ qej qej (hcpB' _ _ _) ?_)
  go_wp2;go_ret;exact⟨G,C2,rfl,hGn,HGM.o,HC2.o.1,HC2.o.2,HX.o.1,HX.o.2.1,HX.o.2.2,rfl,rfl,rfl⟩
theorem Qbm (B n vb:Nat) (v:Value) (xs:List Value) (y:Value) (w:World) (ho:w.ownsRow B 9 1 v n xs) (hB:B ≤ w.heap.size) (hn:n ≤ 5000) (hb:w.heap[vb]?=some (.cells #[y] 9 (0,0))) (h1v:∀ u∈[y],u.oneCell'=true) :
    Calls prog 176 #[v,I n,.slice (p_ vb) 1 1] w fun e w'=>∃ g' cp,e=.returned (.slice (p_ g') (n+1) cp)∧w'.ownsRow B 9 1 (.slice (p_ g') (n+1) cp) (n+1) (xs++[y])∧Below B w w'∧Df v.ownBlock w w'∧(v.ownBlock=some g'∨g'=w.heap.size):=by
  obtain⟨i0,hi,bp,bh,bv⟩:=info_parts Tryz.info9b;have HB:Hd (∀(g' cp:Nat) (w2:World),w2.ownsRow B 9 1 (.slice (p_ g') (n+1) cp) (n+1) (xs++[y])→w.grownBy w2 v.ownBlock→Below B w w2∧Df v.ownBlock w w2):=fun g' cp w2 k1 k2=>⟨(Below.refl _ _).grown k2 hB (fun k hk=>(ho.lt k hk).1),fun b hl hne=>k2.block b hl hne⟩;have HN:Hd (∀ j u,[y][j]?=some u→w.cell? ((⟨vb,0,none⟩:Addr).add j)=some u):=World.news_of_block (cs:=#[y]) (t:=9) (fr:=(0,0)) hb;have HO:=hid ho
  rcases Cs ho with ⟨rfl,rfl⟩|⟨g,c,rfl⟩
  · clear hb ho
    exact qeo
  · have pe:n ≤ c∧c ≤ maxLen:=by
      rcases ho.2 with ⟨h,_⟩|⟨g',c',cur,hv,_,_,h1,h2,_⟩
      · cases h
      · cases hv;exact⟨h1,h2⟩
    obtain⟨hc1,hc2⟩:=pe;unfold maxLen at hc2;clear hb ho
    by_cases N3:c=n
    · subst N3
      exact qeo
    · exact qeo
theorem Rf (B n i vb:Nat) (v:Value) (xs:List Value) (y:Value) (w:World) (ho:w.ownsRow B 9 1 v n xs) (hB:B ≤ w.heap.size) (hi:i ≤ n) (hn:n ≤ 5000) (hb:w.heap[vb]?=some (.cells #[y] 9 (0,0))) (hne:v.ownBlock≠some vb) (h1c:∀ u∈xs,u.oneCell'=true) (h1v:∀ u∈[y],u.oneCell'=true) :
    Calls prog 176 #[v,I i,.slice (p_ vb) 1 1] w fun e w'=>∃ g' cp,e=.returned (.slice (p_ g') (n+1) cp)∧w'.ownsRow B 9 1 (.slice (p_ g') (n+1) cp) (n+1) (xs.take (i)++[y]++xs.drop (i))∧Below B w w'∧Df v.ownBlock w w'∧(v.ownBlock=some g'∨g'=w.heap.size):=by
  have tz:xs.length=n:=zo ho.1
  rcases Nat.lt_or_ge i n with aj|W3
  · rcases ho.2 with ⟨_,h0⟩|⟨g,c,cur,rfl,hg,hh,h1,h2,h3,h4⟩
    · omega
    · rw[Nat.mul_one] at h3 h4
      have hvb:vb≠g:=fun e=>hne (by rw[e];rfl);have hgl:=Fa hh
      rcases Nat.lt_or_ge c (n+1) with hr|hr
      · refine(Zf g n c i vb cur xs y w aj h1 hr qb hh h4 tz hb h1c h1v).mono ?_
        rintro e w' ⟨G,C,rfl,k1,k2,k3,k4,k5,k6,k7,k8,k9,Y0⟩;refine⟨_,G,rfl,⟨by simp[tz];omega,Or.inr ⟨w.heap.size,G,C.toArray,rfl,hB,k5,k1,k2,by simpa using k3,by simpa using k4⟩⟩,⟨k8,k9,Y0,qb,fun b hbb=>k7 b qb⟩,fun b hl _=>k7 b hl,Or.inr rfl⟩
      · refine(Vu g n c i vb cur y w aj hr h2 hh h3 hb hvb (by rw[h4];exact h1c) h1v _ _ rfl rfl).mono ?_
        rintro e w' ⟨rfl,rfl⟩;rw[h4];obtain⟨l2,t2⟩:=shift_take cur.toList xs [y] i n hi h4 (by rw[Array.length_toList,h3];omega) rfl _ _ rfl rfl;refine⟨g,c,rfl,⟨by simp[tz];omega,Or.inr ⟨g,c,_,rfl,hg,setRow_heap _ _ _ _ _ _ (setRow_heap w.drew _ _ _ _ _ hh),hr,h2,?_,by simpa using t2⟩⟩,?_,?_,Or.inl rfl⟩
        · rw[List.size_toArray,l2,Array.length_toList,Nat.mul_one];exact h3
        · exact below_setRow (below_setRow (Below.refl _ _).drew hg _) hg _
        · intro b hl hne'
          have hbg:b≠g:=fun e=>hne' (by rw[e];rfl);rw[setRow_other _ _ _ _ hbg,setRow_other _ _ _ _ hbg];rfl
  · obtain rfl:i=n:=qb
    refine(Qbm B i vb v xs y w ho hB hn hb h1v).mono ?_;rintro e w' ⟨g',cp,rfl,k1,k2,k3,k4⟩;refine⟨g',cp,rfl,?_,k2,k3,k4⟩;rw[List.take_of_length_le qb,List.drop_of_length_le qb,List.append_nil];exact k1
end Go.Proofs.YtfgoholldpeabaaGreatDoor
