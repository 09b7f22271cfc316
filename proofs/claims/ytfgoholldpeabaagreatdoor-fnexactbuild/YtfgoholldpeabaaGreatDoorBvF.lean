import Derived.Test.YtfgoholldpeabaaGreatDoorBvD
namespace Go.Proofs.YtfgoholldpeabaaGreatDoor
open _root_.Go.Proofs.Tryz Go.RowKit Go.Deep
set_option linter.unusedVariables false
set_option linter.unusedSimpArgs false
set_option maxRecDepth 100000
set_option maxHeartbeats 8000000
variable {k B g n cap j e sz lo hi m:Nat} {xs ys zs:List Value} {w w' w2:World} {v:Value} {ss:List S2} {ts:List T2} {cv:Nat->Value} {cl:Nat->Nat}
def Fu (g:Nat) (w w':World):Prop:=∀ b,b<w.heap.size->b≠g->w'.heap[b]?=w.heap[b]?
theorem szIns_any (i:I3) (l:Int) (w:World) (h0:0<=l) (h1:l<=1048576) (hs:i.text.size<=9223372036854775807) :
    Calls prog 112 #[.agg #[I i.op,.string i.text,I i.n],I l] w fun e w'=>Bw w w'/\((l-i.text.size<0/\e=.returned (I (-1)))\/(0<=l-i.text.size/\e=.returned (I (l-i.text.size)))):=by
  by_cases h:l-i.text.size<0
  · go_enter func112,ntmps112
    go_wp2;go_ret;exact⟨aN _ _,Or.inl ⟨h,rfl⟩⟩
  · go_enter func112,ntmps112
    go_wp2;go_ret;exact⟨aN _ _,Or.inr ⟨qb,rfl⟩⟩
theorem toIns_any (i:I3) (w:World) :
    Calls prog 118 #[.agg #[I i.op,.string i.text,I i.n]] w fun e w'=>Bw w w'/\e=.returned (.agg #[I i.op,.string i.text,I i.n]):=by
  go_enter func118,ntmps118;go_wp2;exact bR (v:=.agg #[I i.op,.string i.text,I i.n]) (by simp[results,results118,go_sem]) rfl ⟨((aN _ _).alloc qg _).alloc qh _,rfl⟩
theorem eqIns_same (i:I3) (w:World) :
    Calls prog 132 #[.agg #[I i.op,.string i.text,I i.n],.agg #[I i.op,.string i.text,I i.n]] w fun e w'=>Bw w w'/\e=.returned (.bool true):=by
  have e1:=Cw (rfl:i.text=i.text);go_enter func132,ntmps132;exact qfg
theorem Qcb (a a':Option Addr) (cap ai:Nat) (is:List I3) (w:World) (hc:Cj w a is) (oe:Cj w a' is) (hl:is.length<=1048576) :
    Calls prog 110 #[.slice a is.length cap,.slice a' is.length ai] w fun e w'=>Bw w w'/\e=.returned (.bool true):=by
  go_enter func110,ntmps110;go_wp2
  go_loopw [5] (fun i wr=>∃ k:Nat,k<=is.length/\i=I k/\Bw w wr) (fun i _=>is.length-(intOf i).toNat)
  case atStart=>exact⟨0,Nat.zero_le _,rfl,Below.refl _ _⟩
  case round=>
    obtain⟨k,hk,rfl,am⟩:=hrel
    by_cases aj:k<is.length
    · obtain⟨b,off,rfl,c1,c2,c3⟩:=(hc.bl am) k aj
      obtain⟨b',bq,rfl,d1,d2,d3⟩:=(oe.bl am) k aj;generalize ix is k=i at *;clear hc oe;have je:(k:Int)<(is.length:Int):=qb;have jm:(0:Int)<=(k:Int):=qb;go_wp2_with fail
      go_region_held3 (fun w'=>(w'.cell? ⟨b,off+k*3,none⟩=some (I i.op)/\w'.cell? ⟨b,off+k*3+1,none⟩=some (.string i.text)/\w'.cell? ⟨b,off+k*3+2,none⟩=some (I i.n))/\(w'.cell? ⟨b',bq+k*3,none⟩=some (I i.op)/\w'.cell? ⟨b',bq+k*3+1,none⟩=some (.string i.text)/\w'.cell? ⟨b',bq+k*3+2,none⟩=some (I i.n)))
        (first|assumption|(simp[*];done)|exact⟨⟨Aa af qo,Aa af qo,Aa af qo⟩,Aa af qo,Aa af qo,Aa af qo⟩)
        (first|(go_at_call 132;refine(eqIns_same i _).mono ?_;rintro e w1 ⟨af,rfl⟩))
      all_goals
        go_wp2;go_roundw
        case rel=>exact⟨k+1,qb,qj,am.trans (Below.trans (Below.drew (Below.refl _ _)) (af.mono qcu))⟩
        case measure=>simp[intOf];omega
    · exact qbn
theorem Mu (a a':Option Addr) (cap ai:Nat) (is:List I3) (w:World) (hc:Cj w a is) (oe:Cj w a' is) (hl:is.length<=1048576) :
    Calls prog 78 #[.agg #[.slice a is.length cap],.agg #[.slice a' is.length ai]] w fun e w'=>Bw w w'/\e=.returned (.bool true):=by
  go_enter func78,ntmps78;go_wp2_with fail;have ak:Bw w ((w.alloc (.cells #[.slice a is.length cap] 94)).alloc (.cells #[.slice a' is.length ai] 94)):=(aN _ _).alloc qg _;refine(Qcb a a' cap ai is _ (hc.bl ak) (oe.bl ak) hl).mono ?_;rintro e w1 ⟨af,rfl⟩;go_wp2;go_ret;exact⟨ak.trans (af.mono ak.size),rfl⟩
theorem Qaj (a:Option Addr) (cap:Nat) (is:List I3) (lft:Int) (w:World) (hf0:0<=lft) (B6:lft<=1048576) (hc:Cj w a is) (hl:is.length<=maxLen) (hs:∀ i,(ix is i).text.size<=maxLen) :
    Calls prog 82 #[.slice a is.length cap,I lft] w fun e w'=>Bw w w'/\∃ r:Int,e=.returned (I r)/\(r<0\/((is.length:Int)<=lft/\0<=r/\r<=lft)):=by
  unfold maxLen at hl hs
  by_cases h0:(is.length:Int)<=lft
  · go_enter func82,ntmps82
    go_wp2
    go_loopw [1,5] (fun l i wr=>∃ k:Nat,∃ q:Int,k<=is.length/\i=I k/\l=I q/\0<=q/\q<=lft/\Bw w wr) (fun _ i _=>is.length-(intOf i).toNat)
    case atStart=>exact⟨0,_,Nat.zero_le _,rfl,rfl,qb,qb,Below.refl _ _⟩
    case round=>
      obtain⟨k,q,hk,rfl,rfl,hq0,ll,bc⟩:=hrel
      by_cases aj:k<is.length
      · obtain⟨b,off,rfl,c1,c2,c3⟩:=(hc.bl bc) k aj
        have fx:=hs k;clear hs hc;generalize ix is k=i at *;go_wp2_with fail;refine(szIns_any i _ _ qb qb fx).mono ?_;rintro e w1 ⟨af,⟨hneg,rfl⟩|⟨hpos,rfl⟩⟩
        · go_wp2
          go_ret;exact⟨bc.trans (af.mono bc.size),-1,rfl,qb⟩
        · exact qjw
      · go_wp2
        go_ret;exact⟨bc,_,rfl,qb⟩
  · go_enter func82,ntmps82
    go_wp2;go_ret;exact⟨Below.refl _ _,-1,rfl,qb⟩
theorem Mg (a:Option Addr) (cap:Nat) (is:List I3) (lft:Int) (w:World) (hf0:0<=lft) (B6:lft<=1048576) (hc:Cj w a is) (hl:is.length<=maxLen) (hs:∀ i,(ix is i).text.size<=maxLen) :
    Calls prog 62 #[.agg #[.slice a is.length cap],I lft] w fun e w'=>Bw w w'/\∃ r:Int,e=.returned (I r)/\(r<0\/((is.length:Int)<=lft/\0<=r/\r<=lft)):=by
  have ak:Bw w (w.alloc (.cells #[.slice a is.length cap] 79)):=aN _ _;go_enter func62,ntmps62;go_wp2_with fail;refine(Qaj a cap is lft _ hf0 B6 (hc.bl ak) hl hs).mono ?_;exact qjr
theorem Xy (i:S2) (l:Int) (w:World) (h0:0<=l) (h1:l<=1048576) (hs:i.name.size<=maxLen) (ht:i.text.size<=maxLen) :
    Calls prog 42 #[.agg #[.string i.name,.string i.text],I l] w fun e w'=>Bw w w'/\∃ r:Int,e=.returned (I r)/\(r<0\/(0<=r/\r<=l)):=by
  unfold maxLen at hs ht
  by_cases h:l-i.name.size<0
  · exact qfb
  · by_cases h2:l-i.name.size-i.text.size<0
    · exact qfb
    · exact qfb
theorem Xv (n:By) (a:Option Addr) (cap:Nat) (is:List I3) (l:Int) (w:World) (h0:0<=l) (h1:l<=1048576) (hn:n.size<=maxLen) (hc:Cj w a is) (hl:is.length<=maxLen) (hs:∀ i,(ix is i).text.size<=maxLen) :
    Calls prog 43 #[.agg #[.string n,.slice a is.length cap],I l] w fun e w'=>Bw w w'/\∃ r:Int,e=.returned (I r)/\(r<0\/(is.length<=1048576/\0<=r/\r<=l)):=by
  have ak:Bw w (w.alloc (.cells #[.string n,.slice a is.length cap] 88)):=aN _ _;unfold maxLen at hn
  by_cases h:l-n.size<0
  · go_enter func43,ntmps43
    go_wp2;go_ret;exact⟨ak,_,rfl,qb⟩
  · go_enter func43,ntmps43
    go_wp2_with fail;refine(Mg a cap is (l-n.size) _ qb qb (hc.bl ak) hl hs).mono ?_;exact qjr
theorem szSS_any (a:Option Addr) (cap:Nat) (is:List S2) (lft:Int) (w:World) (hf0:0<=lft) (B6:lft<=1048576) (hc:Jv w a is) (hl:is.length<=maxLen) (hs:∀ i,(sx is i).name.size<=maxLen) (ht:∀ i,(sx is i).text.size<=maxLen) :
    Calls prog 19 #[.slice a is.length cap,I lft] w fun e w'=>Bw w w'/\∃ r:Int,e=.returned (I r)/\(r<0\/((is.length:Int)<=lft/\0<=r/\r<=lft)):=by
  have Is:=hl;unfold maxLen at Is
  by_cases h0:(is.length:Int)<=lft
  · go_enter func19,ntmps19
    go_wp2
    go_loopw [1,5] (fun l i wr=>∃ k:Nat,∃ q:Int,k<=is.length/\i=I k/\l=I q/\0<=q/\q<=lft/\Bw w wr) (fun _ i _=>is.length-(intOf i).toNat)
    case atStart=>exact⟨0,_,Nat.zero_le _,rfl,rfl,qb,qb,Below.refl _ _⟩
    case round=>
      obtain⟨k,q,hk,rfl,rfl,hq0,ll,bc⟩:=hrel
      by_cases aj:k<is.length
      · obtain⟨b,off,rfl,c1,c2⟩:=(hc.bl bc) k aj
        have fx:=hs k;have ff:=ht k;clear hs ht hc;generalize sx is k=i at *;go_wp2_with fail;refine(Xy i _ _ qb qb fx ff).mono ?_;rintro e w1 ⟨af,r,rfl,hr⟩
        rcases hr with hr|hr
        · go_wp2
          go_ret;exact⟨bc.trans (af.mono bc.size),-1,rfl,qb⟩
        · have A6:0<=r:=qb
          have lj:r<=q:=qb;exact qjw
      · go_wp2
        go_ret;exact⟨bc,_,rfl,qb⟩
  · go_enter func19,ntmps19
    go_wp2;go_ret;exact⟨Below.refl _ _,-1,rfl,qb⟩
theorem szTS_any (a:Option Addr) (cap:Nat) (is:List T2) (lft:Int) (w:World) (hf0:0<=lft) (B6:lft<=1048576) (hc:Ju w a is) (hl:is.length<=maxLen) (hs:∀ i,(tx is i).name.size<=maxLen) (ht:∀ i,(tx is i).code.length<=maxLen) (hu:∀ i j,(ix (tx is i).code j).text.size<=maxLen) :
    Calls prog 20 #[.slice a is.length cap,I lft] w fun e w'=>Bw w w'/\∃ r:Int,e=.returned (I r)/\(r<0\/((is.length:Int)<=lft/\0<=r/\r<=lft/\∀ i,i<is.length->(tx is i).code.length<=1048576)):=by
  have Is:=hl;unfold maxLen at Is
  by_cases h0:(is.length:Int)<=lft
  · go_enter func20,ntmps20
    go_wp2
    go_loopw [1,5] (fun l i wr=>∃ k:Nat,∃ q:Int,k<=is.length/\i=I k/\l=I q/\0<=q/\q<=lft/\Bw w wr/\Hd (∀ i,i<k->(tx is i).code.length<=1048576)) (fun _ i _=>is.length-(intOf i).toNat)
    case atStart=>exact⟨0,_,Nat.zero_le _,rfl,rfl,qb,qb,Below.refl _ _,(fun i hi=>by omega:∀ i,i<0->(tx is i).code.length<=1048576)⟩
    case round=>
      obtain⟨k,q,hk,rfl,rfl,hq0,ll,bc,HK⟩:=hrel
      by_cases aj:k<is.length
      · obtain⟨b,off,rfl,c1,a',ai,c2,c3⟩:=(hc.bl bc) k aj
        have fx:=hs k;have ff:=ht k;have huk:=hu k;clear hs ht hc;obtain⟨i,ei⟩:=Ai (tx is k);rw[ei] at c1 c2 c3 fx ff huk;have EI:=hid ei;clear ei;go_wp2_with fail;refine(Xv i.name a' ai i.code _ _ qb qb fx c3 ff huk).mono ?_;rintro e w1 ⟨af,r,rfl,hr⟩
        rcases hr with hr|hr
        · go_wp2
          go_ret;exact⟨bc.trans (af.mono bc.size),-1,rfl,Or.inl qb⟩
        · have A6:0<=r:=qb
          have lj:r<=q:=qb;go_wp2;go_roundw
          case rel=>exact⟨k+1,_,qb,qj,rfl,qb,qb,bc.trans (af.mono bc.size),Cp HK.o (by rw[EI.o];omega)⟩
          case measure=>simp[intOf];omega
      · exact qld
  · go_enter func20,ntmps20
    exact qfl
theorem Qbu {is:List S2} (h:Nn is k xs) (hx:k*2+1<xs.length) :
    Nn is (k+1) ((xs.set (k*2) (.string (sx is k).name)).set (k*2+1) (.string (sx is k).text)):=by
  intro i hi
  rcases Nat.lt_or_ge i k with hl|hl
  · obtain⟨h1,h2⟩:=h i hl
    simp only[List.getElem?_set];rw[if_neg qb,if_neg qb,if_neg qb,if_neg qb];exact⟨h1,h2⟩
  · obtain rfl:i=k:=qb
    simp[List.getElem?_set];omega
theorem Tryz.info98:(prog.info? 98).map (fun i=>(i.zero,i.size,i.bytes))=some (some (.agg #[.string ByteArray.empty,.string ByteArray.empty]),2,32):=qi
theorem Tryz.info100:(prog.info? 100).map (fun i=>(i.zero,i.size,i.bytes))=some (some (.agg #[.string ByteArray.empty,nS]),2,40):=qi
theorem Dp {T:Nat} (h:w.ownsRow B T 2 (.slice (some ⟨g,0,none⟩) n cap) n xs) (hj:j<n*2):∃ v,w.cell? ⟨g,j,none⟩=some v:=by
  have hl:=h.1;exact⟨xs[j]'(by omega),by rw[h.cellAt j hj];exact Iu _⟩
theorem Xq (i:S2) (w:World) :
    Calls prog 52 #[.agg #[.string i.name,.string i.text]] w fun e w'=>Bw w w'/\e=.returned (.agg #[.string i.name,.string i.text]):=by
  go_enter func52,ntmps52;go_wp2;exact bR (v:=.agg #[.string i.name,.string i.text]) (by simp[results,results52,go_sem]) rfl ⟨((aN _ _).alloc qg _).alloc qh _,rfl⟩
theorem Vz (i:S2) (w:World) :
    Calls prog 56 #[.agg #[.string i.name,.string i.text],.agg #[.string i.name,.string i.text]] w fun e w'=>Bw w w'/\e=.returned (.bool true):=by
  have e1:=Cw (rfl:i.text=i.text);have e2:=Cw (rfl:i.name=i.name);go_enter func56,ntmps56;exact qfg
theorem Ui (a a':Option Addr) (cap ai:Nat) (is:List S2) (w:World) (hc:Jv w a is) (oe:Jv w a' is) (hl:is.length<=1048576) :
    Calls prog 33 #[.slice a is.length cap,.slice a' is.length ai] w fun e w'=>Bw w w'/\e=.returned (.bool true):=by
  go_enter func33,ntmps33;go_wp2
  go_loopw [5] (fun i wr=>∃ k:Nat,k<=is.length/\i=I k/\Bw w wr) (fun i _=>is.length-(intOf i).toNat)
  case atStart=>exact⟨0,Nat.zero_le _,rfl,Below.refl _ _⟩
  case round=>
    obtain⟨k,hk,rfl,am⟩:=hrel
    by_cases aj:k<is.length
    · obtain⟨b,off,rfl,c1,c2⟩:=(hc.bl am) k aj
      obtain⟨b',bq,rfl,d1,d2⟩:=(oe.bl am) k aj;generalize sx is k=i at *;clear hc oe;have je:(k:Int)<(is.length:Int):=qb;have jm:(0:Int)<=(k:Int):=qb;go_wp2_with fail
      go_region_held3 (fun w'=>(w'.cell? ⟨b,off+k*2,none⟩=some (.string i.name)/\w'.cell? ⟨b,off+k*2+1,none⟩=some (.string i.text))/\(w'.cell? ⟨b',bq+k*2,none⟩=some (.string i.name)/\w'.cell? ⟨b',bq+k*2+1,none⟩=some (.string i.text)))
        (first|assumption|(simp[*];done)|exact⟨⟨Aa af qo,Aa af qo⟩,Aa af qo,Aa af qo⟩)
        (first|(go_at_call 56;refine(Vz i _).mono ?_;rintro e w1 ⟨af,rfl⟩))
      all_goals
        go_wp2;go_roundw
        case rel=>exact⟨k+1,qb,qj,am.trans (Below.trans (Below.drew (Below.refl _ _)) (af.mono qcu))⟩
        case measure=>simp[intOf];omega
    · exact qbn
theorem Vy (n:By) (a a':Option Addr) (cap ai:Nat) (is:List I3) (w:World) (hc:Cj w a is) (oe:Cj w a' is) (hl:is.length<=1048576) :
    Calls prog 57 #[.agg #[.string n,.slice a is.length cap],.agg #[.string n,.slice a' is.length ai]] w fun e w'=>Bw w w'/\e=.returned (.bool true):=by
  have e2:=Cw (rfl:n=n);have ak:Bw w ((w.alloc (.cells #[.string n,.slice a is.length cap] 100)).alloc (.cells #[.string n,.slice a' is.length ai] 100)):=(aN _ _).alloc qg _;go_enter func57,ntmps57;go_wp2_with fail;refine(Mu a a' cap ai is _ (hc.bl ak) (oe.bl ak) hl).mono ?_;rintro e w1 ⟨af,rfl⟩;go_wp2;go_ret;exact⟨bt ak af,rfl⟩
theorem Uh (a a':Option Addr) (cap ai:Nat) (is:List T2) (w:World) (hc:Ju w a is) (oe:Ju w a' is) (hl:is.length<=1048576) (kj:∀ i,i<is.length->(tx is i).code.length<=1048576) :
    Calls prog 34 #[.slice a is.length cap,.slice a' is.length ai] w fun e w'=>Bw w w'/\e=.returned (.bool true):=by
  have HK:=hid kj;clear kj;go_enter func34,ntmps34;go_wp2
  go_loopw [5] (fun i wr=>∃ k:Nat,k<=is.length/\i=I k/\Bw w wr) (fun i _=>is.length-(intOf i).toNat)
  case atStart=>exact⟨0,Nat.zero_le _,rfl,Below.refl _ _⟩
  case round=>
    obtain⟨k,hk,rfl,am⟩:=hrel
    by_cases aj:k<is.length
    · obtain⟨b,off,rfl,c1,x,p,c2,c3⟩:=(hc.bl am) k aj
      obtain⟨b',bq,rfl,d1,x',p',d2,d3⟩:=(oe.bl am) k aj;have zj:=HK.o k aj;generalize tx is k=i at *;clear hc oe;have C3:=hid c3;have D3:=hid d3;clear c3 d3;have je:(k:Int)<(is.length:Int):=qb;have jm:(0:Int)<=(k:Int):=qb;have ii:Bw wr wr.drew:=(Below.refl _ _).drew;go_wp2_with fail
      go_region_held3 (fun w'=>(w'.cell? ⟨b,off+k*2,none⟩=some (.string i.name)/\w'.cell? ⟨b,off+k*2+1,none⟩=some (.slice x i.code.length p))/\(w'.cell? ⟨b',bq+k*2,none⟩=some (.string i.name)/\w'.cell? ⟨b',bq+k*2+1,none⟩=some (.slice x' i.code.length p')))
        (first|assumption|(simp[*];done)|exact⟨⟨Aa af qo,Aa af qo⟩,Aa af qo,Aa af qo⟩)
        (first|(go_at_call 57;refine(Vy i.name x x' p p' i.code _ (C3.o.bl ii) (D3.o.bl ii) zj).mono ?_;rintro e w1 ⟨af,rfl⟩))
      all_goals
        go_wp2;go_roundw
        case rel=>exact⟨k+1,qb,qj,am.trans (Below.trans (Below.drew (Below.refl _ _)) (af.mono qcu))⟩
        case measure=>simp[intOf];omega
    · exact qbn
theorem Zm (sa ta sa' l7:Option Addr) (c1 c2 F6 zl:Nat) (ss:List S2) (ts:List T2) (w:World) (rs:Jv w sa ss) (rt:Ju w ta ts) (rs':Jv w sa' ss) (rt':Ju w l7 ts) (h:Fb ss ts) :
    Calls prog 12 #[.agg #[.slice sa ss.length c1,.slice ta ts.length c2],.agg #[.slice sa' ss.length F6,.slice l7 ts.length zl]] w fun e w'=>Bw w w'/\e=.returned (.bool true):=by
  obtain⟨h1,h2,h3⟩:=h;have ak:Bw w ((w.alloc (.cells #[.slice sa ss.length c1,.slice ta ts.length c2] 42)).alloc (.cells #[.slice sa' ss.length F6,.slice l7 ts.length zl] 42)):=(aN _ _).alloc qg _;go_enter func12,ntmps12;go_wp2_with fail;refine(Ui sa sa' c1 F6 ss _ (rs.bl ak) (rs'.bl ak) h1).mono ?_;rintro e w1 ⟨af,rfl⟩;have bg:=bt ak af;have k1:w1.cell? ⟨w.heap.size,1,none⟩=some (.slice ta ts.length c2):=Aa af qk;have k2:w1.cell? ⟨w.heap.size+1,1,none⟩=some (.slice l7 ts.length zl):=Aa af qk;clear ak af;go_wp2_with fail;refine(Uh ta l7 c2 zl ts _ (rt.bl bg) (rt'.bl bg) h2 h3).mono ?_;rintro e w2 ⟨ag,rfl⟩;go_wp2;go_ret;exact⟨bt bg ag,rfl⟩
def digM (n:Nat):By:=⟨#[UInt8.ofNat (48+n)]⟩
theorem dig_byteM (d:Nat) (h:d<10):((UInt8.ofNat (48+d)).toNat:Int)=48+d:=by rw[UInt8.toNat_ofNat'];omega
theorem qconv_one (W:World) (g:Nat) (c:Int) (u:UInt8) (hu:(u.toNat:Int)=c) (h:W.cell? ⟨g,0,none⟩=some (.int .u8 c)):(convert 122 9 (.slice (p_ g) 1 1)).run prog W=.ok (.string ⟨#[u]⟩) W:=by
  subst hu
  exact run_convert_bytes_back (P:=prog) W 122 9 5 ⟨g,0,none⟩ 1 [u] underlying122 underlying5 underlying9 (fun t ht=>by
    (obtain rfl:t=0:=by simp at ht;omega);simpa [Addr.add] using h)
def mtL:Nat->Nat->By->ByteArray
  | 0,_,out=>out
  | f+1,k,out=>if k=0 then out else mtL f (k / 10) (digM (k % 10)++out)
theorem mtL_zero (f:Nat) (out:By):mtL f 0 out=out:=by cases f<;>simp[mtL]
def mt (k:Nat):By:=⟨#[109]⟩++mtL 16 k ⟨#[]⟩
theorem Cq (K:Nat) (w:World) (h1:1<=K) (h2:K<1000000000000000) :
    Calls prog 58 #[I K] w fun e w'=>Bw w w'/\e=.returned (.string (mt K)):=by
  go_enter func58,ntmps58;go_wp2
  go_loopw [0,3] (fun a v wr=>∃(f k:Nat) (out:By),a=I k/\v=.string out/\Hd (mtL f k out=mtL 16 K ⟨#[]⟩)/\k<10 ^ f/\f<=16/\out.size+f=16/\Bw w wr) (fun a _ _=>(intOf a).toNat)
  case atStart=>exact⟨16,K,⟨#[]⟩,rfl,rfl,rfl,qb,qb,rfl,Below.refl _ _⟩
  case round=>
    obtain⟨f,k,out,rfl,rfl,HM,hk,hf,ho,bc⟩:=hrel
    by_cases h0:k=0
    · subst h0
      have HO:Hd (mt K=(⟨#[109]⟩:By)++out):=by
        show mt K=_;unfold mt;rw[<- HM.o,mtL_zero]
      have hs:((⟨#[109]⟩:By)++out).size=1+out.size:=ByteArray.size_append;go_wp2;go_ret;exact⟨bc,by rw[HO.o];rfl⟩
    · obtain⟨g,rfl⟩:∃ g,f=g+1:=by
        cases f with
        | zero=>simp at hk;omega
        | succ g=>exact⟨g,rfl⟩
      (have hk':k / 10<10 ^ g:=by rw[Nat.pow_succ] at hk;omega);obtain⟨d,ed⟩:=Ai (k % 10);have hd:d<10:=qb
      have l5:Hd (mtL g (k / 10) (digM d++out)=mtL 16 K ⟨#[]⟩):=by
        show mtL g (k / 10) (digM d++out)=_;rw[<- HM.o,<- ed];simp only[mtL,h0,if_false]
      have hu:=dig_byteM d hd;have hs:(digM d++out).size=1+out.size:=ByteArray.size_append;unfold digM at l5 hs;generalize UInt8.ofNat (48+d)=u at *;have e1:(k:Int) % 10=(d:Int):=qb;obtain⟨k2,e2⟩:=Ai (k / 10);rw[e2] at l5 hk';have e3:(k:Int) / 10=(k2:Int):=qb;have aj:k2<k:=qb;have je:(0:Int)<(k:Int):=qb;have hcv:=qconv_one (wr.alloc (.cells #[.int .u8 (48+d)] 5)) wr.heap.size (48+d) u hu qk;have hkb:k<10000000000000000:=Nat.lt_of_lt_of_le hk (Nat.pow_le_pow_right qb hf);have HK':=hid hk';clear hu ed e2 hk hk' h0;go_wp2;go_roundw
      case rel=>exact⟨g,k2,_,qj,rfl,l5.o,HK'.o,qb,by rw[hs];omega,bc.alloc bc.size _⟩
      case measure=>simp[intOf];omega
theorem Fu.set (h:Fu g w w') (j:Nat) (v:Value):Fu g w (w'.setCell ⟨g,j,none⟩ v):=fun b hb hne=>by
  rw[hC w' ⟨g,j,none⟩ v b hne];exact h b hb hne
theorem Fu.bl (h:Fu g w w') (hs:w.heap.size<=w'.heap.size) (hb:Bw w' w2):Fu g w w2:=fun b hl hne=>by
  rw[hb.block b qb];exact h b hl hne
def Zt (K n:Nat) (ys:List Value):Prop:=∀ i,i<n->ys[i*3]?=some (I ((K+3*i:Nat):Int))/\ys[i*3+1]?=some (.string (mt (K+3*i+1)))/\ys[i*3+2]?=some (I ((K+3*i+2:Nat):Int))
theorem mkI_set {K:Nat} (h:Zt K k ys) (hx:k*3+2<ys.length) :
    Zt K (k+1) (((ys.set (k*3) (I ((K+3*k:Nat):Int))).set (k*3+1) (.string (mt (K+3*k+1)))).set (k*3+2) (I ((K+3*k+2:Nat):Int))):=by
  exact qhx
theorem Yx (B g n cap K:Nat) (xs:List Value) (w:World) (ah:w.ownsRow B 128 3 (.slice (p_ g) n cap) n xs) (hB:B<=w.heap.size) (hn:n<=1048576) (h1:1<=K) (h2:K<=900000000000000) :
    Calls prog 59 #[.slice (p_ g) n cap,I K] w fun e w'=>e=.returned (I ((K+3*n:Nat):Int))/\Below B w w'/\Fu g w w'/\∃ ys,w'.ownsRow B 128 3 (.slice (p_ g) n cap) n ys/\Zt K n ys:=by
  have wz:B<=g:=(ah.lt g rfl).1;go_enter func59,ntmps59;go_wp2
  go_loopw [1,5] (fun k i wr=>∃(m:Nat) (ys:List Value),m<=n/\i=I m/\k=I ((K+3*m:Nat):Int)/\Hd (wr.ownsRow B 128 3 (.slice (p_ g) n cap) n ys)/\Hd (Zt K m ys)/\Hd (Fu g w wr)/\w.heap.size<=wr.heap.size/\Below B w wr) (fun _ i _=>n-(intOf i).toNat)
  case atStart=>exact⟨0,xs,Nat.zero_le _,rfl,rfl,ah,(fun i hi=>by omega:Zt K 0 xs),(fun b _ _=>rfl:Fu g w w),Nat.le_refl _,Below.refl _ _⟩
  case round=>
    obtain⟨m,ys,hm,rfl,rfl,HO,HM,HK,de,bc⟩:=hrel;clear ah
    by_cases aj:m<n
    · have E8:m*3+2<ys.length:=by rw[HO.o.1];omega
      have l5:=hid (mkI_set HM.o E8);have Do:K+3*m+1<1000000000000000:=qb;have HT:Hd (∀ W:World,Calls prog 58 #[I ((K+3*m+1:Nat):Int)] W fun e w'=>Bw W w'/\e=.returned (.string (mt (K+3*m+1)))):=fun W=>Cq (K+3*m+1) W qb Do;generalize mt (K+3*m+1)=t at *;obtain⟨c,ec⟩:=Ai (K+3*m);rw[ec] at l5 HT Do ⊢;have HE:=hid ec;clear ec;obtain⟨o1,d1⟩:=Bl HO.o (j:=m*3) qb;have bz:=HO.o.frozenAt;have wt:=(HO.o.stored (m*3) (I (c:Int))).1;have M8:(m:Int)<(n:Int):=qb;go_wp2_with fail;refine(HT.o _).mono ?_;rintro e w2 ⟨ag,rfl⟩;have aq:=Ac wt ag;have kw:Below B w w2:=(bc.setCell (p:=⟨g,m*3,none⟩) wz _).trans (ag.mono qh);have I4:=aq.frozenAt;obtain⟨o2,d2⟩:=Bl aq (j:=m*3+1) qb;obtain⟨o3,d3⟩:=Bl aq (j:=m*3+2) qb;have wb:=hid aq;have fs:Hd (Fu g w w2):=(HK.o.set (m*3) (I (c:Int))).bl (by simpa using de) ag;(have gp:w.heap.size<=w2.heap.size:=by have:=ag.size;simp at this;omega);clear wt aq ag bz d1 bc;go_wp2;go_roundw
      case rel=>exact⟨m+1,_,qb,qj,congrArg (Value.int .i64) (zo HE.o),((wb.o.stored _ _).1.stored _ _).1,l5.o,(fs.o.set _ _).set _ _,qcz,(kw.setCell (p:=⟨g,m*3+1,none⟩) wz _).setCell (p:=⟨g,m*3+2,none⟩) wz _⟩
      case measure=>simp[intOf];omega
    · exact qdc
def mb (k:Nat):Bool:=decide (k % 3=0)
def RdG (K n:Nat) (w:World) (g:Nat):Prop:=∀ i,i<n->w.cell? ⟨g,i*3,none⟩=some (.string (mt (K+3*i)))/\w.cell? ⟨g,i*3+1,none⟩=some (.bool (mb (K+3*i+1)))/\w.cell? ⟨g,i*3+2,none⟩=some (.string (mt (K+3*i+2)))
theorem RdG.bl {K:Nat} (h:RdG K n w g) (hb:Bw w w'):RdG K n w' g:=fun i hi=>
  ⟨Aa hb (h i hi).1,Aa hb (h i hi).2.1,Aa hb (h i hi).2.2⟩
theorem Mk (h:w.ownsRow B e sz (.slice (p_ g) n cap) n xs) {b:Nat} (hb:b≠g) (v:Value):(w.setCell ⟨b,j,none⟩ v).ownsRow B e sz (.slice (p_ g) n cap) n xs:=by
  refine⟨h.1,?_⟩
  rcases h.2 with ⟨h2,_⟩|⟨g',cap,cur,hv,hg,hh,r⟩
  · cases h2
  · exact qkq
theorem toInsS_own (a:Option Addr) (cap:Nat) (is:List I3) (w:World) (hc:Cj w a is) (hl:is.length<=1048576) :
    Calls prog 94 #[.slice a is.length cap] w fun e w'=>Bw w w'/\∃ g:Nat,e=.returned (.slice (p_ g) is.length is.length)/\∃ xs,w'.ownsRow w.heap.size 128 3 (.slice (p_ g) is.length is.length) is.length xs/\Cl is is.length xs:=by
  obtain⟨z0,hi,bp,bh,bv⟩:=info_parts Tryz.info128;go_enter func94,ntmps94
  go_wp2_with (first|(at_make;refine wpList_make_full _ rfl (.tmp 6) (.tmp 6) 92 rfl w.heap.size 128 z0 (.agg #[I 0,.string ByteArray.empty,I 0]) 3 underlying92 hi bp bh .i64 .i64 _ _ is.length rfl rfl rfl rfl qam qm (Nat.le_refl _) ?_;intro w1 ah ae))
  have fq:Bw w w1:=(Below.refl _ _).grown ae (Nat.le_refl _) qg;clear ae
  go_loopw [4] (fun i wr=>∃ k:Nat,∃ xs:List Value,k<=is.length/\i=I k/\wr.ownsRow w.heap.size 128 3 (.slice (p_ w.heap.size) is.length is.length) is.length xs/\Cl is k xs/\Bw w wr) (fun i _=>is.length-(intOf i).toNat)
  case atStart=>exact⟨0,_,Nat.zero_le _,rfl,ah,fun i hi=>qb,fq⟩
  case round=>
    obtain⟨k,xs,hk,rfl,ah,R8,am⟩:=hrel
    by_cases aj:k<is.length
    · obtain⟨b,off,rfl,c1,c2,c3⟩:=(hc.bl am) k aj
      have uh:=Qbx R8 (show k*3+2<xs.length from qcv);generalize ix is k=i at *;clear fq hc R8;go_wp2_with fail;refine(toIns_any i _).mono ?_;rintro e w2 ⟨ag,rfl⟩;have aq:=Ac ah ag;have kw:=am.trans (ag.mono am.size);have bz:=aq.frozenAt;obtain⟨o1,d1⟩:=Jr aq (j:=k*3) qb;obtain⟨o2,d2⟩:=Jr aq (j:=k*3+1) qb;obtain⟨o3,d3⟩:=Jr aq (j:=k*3+2) qb;have HO:=hid aq;exact qin
    · exact qfe
theorem Ns (a:Option Addr) (cap:Nat) (is:List I3) (w:World) (hc:Cj w a is) (hl:is.length<=1048576) :
    Calls prog 72 #[.agg #[.slice a is.length cap]] w fun e w'=>Bw w w'/\∃ g:Nat,e=.returned (.agg #[.slice (p_ g) is.length is.length])/\∃ xs,w'.ownsRow w.heap.size 128 3 (.slice (p_ g) is.length is.length) is.length xs/\Cl is is.length xs:=by
  go_enter func72,ntmps72;go_wp2_with fail;have ak:Bw w (((w.alloc (.cells #[.slice a is.length cap] 79)).alloc (.cells #[nS] 94)).alloc (.cells #[nS] 94)):=((aN _ _).alloc qg _).alloc qh _;refine(toInsS_own a cap is _ (hc.bl ak) hl).mono ?_;rintro e w1 ⟨af,g,rfl,xs,hr,hf⟩;have hg:=(hr.lt g rfl).1;simp at hg;have hb:=ak.trans (af.mono ak.size);have hz:=af.size;simp at hz;have c1:w1.cell? ⟨w.heap.size+1,0,none⟩=some nS:=Aa af qk;have c2:w1.cell? ⟨w.heap.size+1+1,0,none⟩=some nS:=Aa af qk;have f1:w1.frozen? ⟨w.heap.size+1,0,none⟩=false:=by rw[af.frozen (p:=⟨w.heap.size+1,0,none⟩) qg];simp[go_sem]
  have f2:w1.frozen? ⟨w.heap.size+1+1,0,none⟩=false:=by rw[af.frozen (p:=⟨w.heap.size+1+1,0,none⟩) qg];simp[go_sem]
  clear ak af;go_wp2;exact bR (v:=.agg #[.slice (p_ g) is.length is.length]) (by simp[results,results72,go_sem,c1]) rfl ⟨Nv (Nv hb qb _) qb _,g,rfl,xs,Mk (Mk (Jc hr qh) qb _) qb _,hf⟩
theorem Yw (K:Nat) (w:World) (h2:K<=900000000000000) :
    Calls prog 59 #[nS,I K] w fun e w'=>e=.returned (I (K:Int))/\w=w':=by
  go_enter func59,ntmps59;exact qet
theorem Pj (B n K:Nat) (v:Value) (xs:List Value) (w:World) (ah:w.ownsRow B 128 3 v n xs) (hB:B<=w.heap.size) (hn:n<=1048576) (h1:1<=K) (h2:K<=900000000000000) :
    Calls prog 59 #[v,I K] w fun e w'=>e=.returned (I ((K+3*n:Nat):Int))/\Below B w w'/\Df v.ownBlock w w'/\∃ ys,w'.ownsRow B 128 3 v n ys/\Zt K n ys:=by
  rcases Gb ah with ⟨rfl,rfl⟩|⟨g,cap,rfl⟩
  · refine(Yw K w h2).mono ?_
    exact qlr
  · refine(Yx B g n cap K xs w ah hB hn h1 h2).mono ?_
    exact qkx
theorem Hs.bl (h:Hs w lo hi v ss) (hb:Bw w w'):Hs w' lo hi v ss:=by
  obtain⟨xs,h1,h2⟩:=h;exact⟨xs,h1.bl hb,h2⟩
theorem Ls.bl (h:Ls w lo hi v ts xs cv) (hb:Bw w w'):Ls w' lo hi v ts xs cv:=
  ⟨h.row.bl hb,h.fil,fun i hi=>by obtain⟨ys,h1,h2⟩:=h.code i hi;exact⟨ys,h1.bl hb,h2⟩,h.apart⟩
theorem Ha.bl (h:Ha w lo hi v ts) (hb:Bw w w'):Ha w' lo hi v ts:=by
  obtain⟨xs,cv,h⟩:=h;exact⟨xs,cv,h.bl hb⟩
theorem Tm (u v:Value) (hj:j<k*2):((xs.set (k*2) u).set (k*2+1) v)[j]?=xs[j]?:=by
  simp only[List.getElem?_set];rw[if_neg qb,if_neg qb]
theorem set2_0 (u v:Value) (hx:k*2+1<xs.length):((xs.set (k*2) u).set (k*2+1) v)[k*2]?=some u:=by
  simp only[List.getElem?_set];rw[if_neg qb,if_pos trivial,if_pos qb]
theorem set2_1 (u v:Value) (hx:k*2+1<xs.length):((xs.set (k*2) u).set (k*2+1) v)[k*2+1]?=some v:=by
  simp only[List.getElem?_set];rw[if_pos trivial,if_pos qh]
/-! ### toSpace -/
theorem Ve (a:Option Addr) (cap:Nat) (is:List S2) (w:World) (hc:Jv w a is) (hl:is.length<=1048576) :
    Calls prog 28 #[.slice a is.length cap] w fun e w'=>Bw w w'/\∃ g:Nat,e=.returned (.slice (p_ g) is.length is.length)/\∃ xs,w'.ownsRow w.heap.size 98 2 (.slice (p_ g) is.length is.length) is.length xs/\Nn is is.length xs:=by
  obtain⟨z0,hi,bp,bh,bv⟩:=info_parts Tryz.info98;go_enter func28,ntmps28
  go_wp2_with (first|(at_make;refine wpList_make_full _ rfl (.tmp 6) (.tmp 6) 39 rfl w.heap.size 98 z0 (.agg #[.string ByteArray.empty,.string ByteArray.empty]) 2 underlying39 hi bp bh .i64 .i64 _ _ is.length rfl rfl rfl rfl qam qm (Nat.le_refl _) ?_;intro w1 ah ae))
  have fq:Bw w w1:=(Below.refl _ _).grown ae (Nat.le_refl _) qg;clear ae
  go_loopw [4] (fun i wr=>∃ k:Nat,∃ xs:List Value,k<=is.length/\i=I k/\wr.ownsRow w.heap.size 98 2 (.slice (p_ w.heap.size) is.length is.length) is.length xs/\Nn is k xs/\Bw w wr) (fun i _=>is.length-(intOf i).toNat)
  case atStart=>exact⟨0,_,Nat.zero_le _,rfl,ah,fun i hi=>qb,fq⟩
  case round=>
    obtain⟨k,xs,hk,rfl,ah,R8,am⟩:=hrel
    by_cases aj:k<is.length
    · obtain⟨b,off,rfl,c1,c2⟩:=(hc.bl am) k aj
      have uh:=Qbu R8 (show k*2+1<xs.length from qcv);generalize sx is k=i at *;clear fq hc R8;go_wp2_with fail;refine(Xq i _).mono ?_;rintro e w2 ⟨ag,rfl⟩;have aq:=Ac ah ag;have kw:=am.trans (ag.mono am.size);have bz:=aq.frozenAt;obtain⟨o1,d1⟩:=Dp aq (j:=k*2) qb;obtain⟨o2,d2⟩:=Dp aq (j:=k*2+1) qb;have HO:=hid aq;clear ah aq ag am;go_wp2;go_roundw
      case rel=>exact⟨k+1,_,qb,qj,((HO.o.stored _ _).1.stored _ _).1,uh,(kw.setCell (Nat.le_refl _) _).setCell (Nat.le_refl _) _⟩
      case measure=>simp[intOf];omega
    · exact qfe
theorem Xp (n:By) (a:Option Addr) (cap:Nat) (is:List I3) (w:World) (hc:Cj w a is) (hl:is.length<=1048576) :
    Calls prog 53 #[.agg #[.string n,.slice a is.length cap]] w fun e w'=>Bw w w'/\∃ g:Nat,e=.returned (.agg #[.string n,.slice (p_ g) is.length is.length])/\∃ xs,w'.ownsRow w.heap.size 128 3 (.slice (p_ g) is.length is.length) is.length xs/\Cl is is.length xs:=by
  go_enter func53,ntmps53;go_wp2_with fail;have ak:Bw w (((w.alloc (.cells #[.string n,.slice a is.length cap] 88)).alloc (.cells #[ze,nS] 100)).alloc (.cells #[.string n,nS] 100)):=((aN _ _).alloc qg _).alloc qh _;refine(Ns a cap is _ (hc.bl ak) hl).mono ?_;rintro e w1 ⟨af,g,rfl,xs,hr,hf⟩;have hg:=(hr.lt g rfl).1;simp at hg;have hb:=ak.trans (af.mono ak.size);have hz:=af.size;simp at hz;have Mw:w1.cell? ⟨w.heap.size+1,0,none⟩=some ze:=Aa af qk;have xe:w1.cell? ⟨w.heap.size+1,1,none⟩=some nS:=Aa af qk;have c20:w1.cell? ⟨w.heap.size+1+1,0,none⟩=some (.string n):=Aa af qk;have c21:w1.cell? ⟨w.heap.size+1+1,1,none⟩=some nS:=Aa af qk;have f1:∀ j,w1.frozen? ⟨w.heap.size+1,j,none⟩=false:=fun j=>by rw[af.frozen (p:=⟨w.heap.size+1,j,none⟩) qg];simp[go_sem]
  have f2:∀ j,w1.frozen? ⟨w.heap.size+1+1,j,none⟩=false:=fun j=>by rw[af.frozen (p:=⟨w.heap.size+1+1,j,none⟩) qg];simp[go_sem]
  clear ak af;go_wp2;refine bR (v:=.agg #[.string n,.slice (p_ g) is.length is.length]) (by simp[results,results53,go_sem,Mw,xe]) rfl ⟨?_,g,rfl,xs,?_,hf⟩
  · exact((hb.setCell (p:=⟨w.heap.size+1+1,1,none⟩) qh _).setCell (p:=⟨w.heap.size+1,0,none⟩) qg _).setCell (p:=⟨w.heap.size+1,1,none⟩) qg _
  · exact Mk (Mk (Mk (Jc hr qh) qb _) qb _) qb _
theorem Vc (a:Option Addr) (cap:Nat) (is:List T2) (w:World) (hc:Ju w a is) (hl:is.length<=1048576) (hk:∀ i,i<is.length->(tx is i).code.length<=1048576) :
    Calls prog 29 #[.slice a is.length cap] w fun e w'=>Bw w w'/\∃ g:Nat,e=.returned (.slice (p_ g) is.length is.length)/\Ha w' w.heap.size w'.heap.size (.slice (p_ g) is.length is.length) is:=by
  obtain⟨z0,hi,bp,bh,bv⟩:=info_parts Tryz.info100;have HK:=hid hk;clear hk;go_enter func29,ntmps29
  go_wp2_with (first|(at_make;refine wpList_make_full _ rfl (.tmp 6) (.tmp 6) 40 rfl w.heap.size 100 z0 (.agg #[.string ByteArray.empty,nS]) 2 underlying40 hi bp bh .i64 .i64 _ _ is.length rfl rfl rfl rfl qam qm (Nat.le_refl _) ?_;intro w1 ah ae))
  have fq:Bw w w1:=(Below.refl _ _).grown ae (Nat.le_refl _) qg;clear ae
  go_loopw [4] (fun i wr=>∃(k:Nat) (xs:List Value) (cv:Nat->Value),k<=is.length/\i=I k/\wr.ownsRow w.heap.size 100 2 (.slice (p_ w.heap.size) is.length is.length) is.length xs/\Hd (Iw wr (w.heap.size+1) is k xs cv)/\Bw w wr) (fun i _=>is.length-(intOf i).toNat)
  case atStart=>exact⟨0,_,_,Nat.zero_le _,rfl,ah,Iw.zero _ _ _ _,fq⟩
  case round=>
    obtain⟨k,xs,cv,hk,rfl,ah,HP,am⟩:=hrel
    by_cases aj:k<is.length
    · obtain⟨b,off,rfl,c1,a',ai,c2,c3⟩:=(hc.bl am) k aj
      have zj:=HK.o k aj;have E8:k*2+1<xs.length:=qcv;have hgl:w.heap.size<wr.heap.size:=(ah.lt _ rfl).2;have HF:Hd (∀(W:World) (c:Value) (ys:List Value),Bw wr W->W.ownsRow wr.heap.size 128 3 c (tx is k).code.length ys->Cl (tx is k).code (tx is k).code.length ys->Iw W (w.heap.size+1) is (k+1) ((xs.set (k*2) (.string (tx is k).name)).set (k*2+1) c) (fun i=>if i=k then c else cv i)):=fun W c ys h1 h2 h3=>HP.o.add h1 hgl h2 h3 (fun j hj=>Tm _ _ hj) (set2_0 _ _ E8) (set2_1 _ _ E8);generalize tx is k=i at *;clear fq hc;go_wp2_with fail;refine(Xp i.name a' ai i.code _ c3 zj).mono ?_;rintro e w2 ⟨ag,g,rfl,ys,hr,ye⟩;have aq:=Ac ah ag;have kw:=am.trans (ag.mono am.size);have bz:=aq.frozenAt;have uh:=((HF.o w2 _ ys ag hr ye).set (b:=w.heap.size) (j:=k*2) (Nat.lt_succ_self _) (.string i.name)).set (b:=w.heap.size) (j:=k*2+1) (Nat.lt_succ_self _) (.slice (p_ g) i.code.length i.code.length);obtain⟨o1,d1⟩:=Dp aq (j:=k*2) qb;obtain⟨o2,d2⟩:=Dp aq (j:=k*2+1) qb;have HO:=hid aq;have fl:=hid uh;clear ah aq ag am uh HP HF hr ye;go_wp2;go_roundw
      case rel=>exact⟨k+1,_,_,qb,qj,((HO.o.stored _ _).1.stored _ _).1,fl.o,(kw.setCell (Nat.le_refl _) _).setCell (Nat.le_refl _) _⟩
      case measure=>simp[intOf];omega
    · have ek:k=is.length:=qb
      subst ek;go_wp2;go_ret;exact⟨am,_,rfl,HP.o.own ah (Nat.le_succ _) (Nat.le_refl _)⟩
theorem Me (sa ta:Option Addr) (c1 c2:Nat) (ss:List S2) (ts:List T2) (w:World) (rs:Jv w sa ss) (rt:Ju w ta ts) (h:Fb ss ts) :
    Calls prog 8 #[.agg #[.slice sa ss.length c1,.slice ta ts.length c2]] w fun e w'=>Bw w w'/\∃ v1 v2:Value,e=.returned (.agg #[v1,v2])/\Hs w' w.heap.size w'.heap.size v1 ss/\Ha w' w.heap.size w'.heap.size v2 ts:=by
  obtain⟨h1,h2,h3⟩:=h;go_enter func8,ntmps8;go_wp2_with fail;have ak:Bw w (((w.alloc (.cells #[.slice sa ss.length c1,.slice ta ts.length c2] 29)).alloc (.cells #[nS,nS] 42)).alloc (.cells #[nS,nS] 42)):=((aN _ _).alloc qg _).alloc qh _;refine(Ve sa c1 ss _ (rs.bl ak) h1).mono ?_;rintro e w1 ⟨af,g,rfl,xs,hr,bz⟩;have hg:=(hr.lt g rfl).1;simp at hg;have ie:Hd (Hs w1 (w.heap.size+1+1+1) w1.heap.size (.slice (p_ g) ss.length ss.length) ss):=⟨xs,Bg.new (Jc hr qg),bz⟩;have hb:=ak.trans (af.mono ak.size);have hz:=af.size;simp at hz;have c01:w1.cell? ⟨w.heap.size,1,none⟩=some (.slice ta ts.length c2):=Aa af qk;have Mw:w1.cell? ⟨w.heap.size+1,0,none⟩=some nS:=Aa af qk;have xe:w1.cell? ⟨w.heap.size+1,1,none⟩=some nS:=Aa af qk;have c20:w1.cell? ⟨w.heap.size+1+1,0,none⟩=some nS:=Aa af qk;have c21:w1.cell? ⟨w.heap.size+1+1,1,none⟩=some nS:=Aa af qk;have f1:∀ j,w1.frozen? ⟨w.heap.size+1,j,none⟩=false:=fun j=>by rw[af.frozen (p:=⟨w.heap.size+1,j,none⟩) qg];simp[go_sem]
  have f2:∀ j,w1.frozen? ⟨w.heap.size+1+1,j,none⟩=false:=fun j=>by rw[af.frozen (p:=⟨w.heap.size+1+1,j,none⟩) qg];simp[go_sem]
  clear ak af;go_wp2_with fail;have md:Bw w (w1.setCell ⟨w.heap.size+1+1,0,none⟩ (.slice (p_ g) ss.length ss.length)):=hb.setCell (p:=⟨w.heap.size+1+1,0,none⟩) qh _;refine(Vc ta c2 ts _ (rt.bl md) h2 h3).mono ?_;rintro e w2 ⟨ag,g2,rfl,mu⟩;have aw:=md.trans (ag.mono md.size);have cw:Hd (Hs w2 (w.heap.size+1+1+1) w1.heap.size (.slice (p_ g) ss.length ss.length) ss):=(ie.o.set (j:=0) (show w.heap.size+1+1<w.heap.size+1+1+1 from qb) _).bl ag;have bv:=ag.size;simp at bv;have HT2:Hd (Ha w2 (w.heap.size+1+1+1) w2.heap.size (.slice (p_ g2) ts.length ts.length) ts):=mu.wide qh (Nat.le_refl _);have hs12:w1.heap.size<=w2.heap.size:=by simpa using ag.size
  have d10:w2.cell? ⟨w.heap.size+1,0,none⟩=some nS:=Aa ag (by simp[go_sem,Mw]);have d11:w2.cell? ⟨w.heap.size+1,1,none⟩=some nS:=Aa ag (by simp[go_sem,xe]);have d20:w2.cell? ⟨w.heap.size+1+1,0,none⟩=some (.slice (p_ g) ss.length ss.length):=Aa ag (by simp[go_sem,c20]);have d21:w2.cell? ⟨w.heap.size+1+1,1,none⟩=some nS:=Aa ag (by simp[go_sem,c21]);have e1:∀ j,w2.frozen? ⟨w.heap.size+1,j,none⟩=false:=fun j=>by rw[ag.frozen (p:=⟨w.heap.size+1,j,none⟩) qh];simp[go_sem,f1]
  have e2:∀ j,w2.frozen? ⟨w.heap.size+1+1,j,none⟩=false:=fun j=>by rw[ag.frozen (p:=⟨w.heap.size+1+1,j,none⟩) qh];simp[go_sem,f2]
  clear ag md hb c01 Mw xe c20 c21 f1 f2 hr mu ie;go_wp2;refine bR (v:=.agg #[.slice (p_ g) ss.length ss.length,.slice (p_ g2) ts.length ts.length]) (by simp[results,results8,go_sem,d10,d11]) rfl ⟨?_,_,_,rfl,?_,?_⟩
  · exact((aw.setCell (p:=⟨w.heap.size+1+1,1,none⟩) qh _).setCell (p:=⟨w.heap.size+1,0,none⟩) qg _).setCell (p:=⟨w.heap.size+1,1,none⟩) qg _
  · exact(((cw.o.set qb _).set qb _).set qb _).wide qb qh
  · exact(((HT2.o.set qb _).set qb _).set qb _).wide qb qg
def RdX (K n:Nat) (w:World) (g:Nat):Prop:=∀ i,i<n->w.cell? ⟨g,i,none⟩=some (.string (mt (K+i)))
theorem RdX.bl {K:Nat} (h:RdX K n w g) (hb:Bw w w'):RdX K n w' g:=fun i hi=>Aa hb (h i hi)
def MkS (K n:Nat) (ys:List Value):Prop:=∀ i,i<n->ys[i*2]?=some (.string (mt (K+2*i)))/\ys[i*2+1]?=some (.string (mt (K+2*i+1)))
theorem mkS_set {K:Nat} (h:MkS K k ys) (hx:k*2+1<ys.length) :
    MkS K (k+1) ((ys.set (k*2) (.string (mt (K+2*k)))).set (k*2+1) (.string (mt (K+2*k+1)))):=by
  intro i hi
  rcases Nat.lt_or_ge i k with hl|hl
  · obtain⟨h1,h2⟩:=h i hl
    rw[Tm _ _ qb,Tm _ _ qb];exact⟨h1,h2⟩
  · obtain rfl:i=k:=qb
    exact⟨set2_0 _ _ hx,set2_1 _ _ hx⟩
theorem Sc (B g n cap K:Nat) (xs:List Value) (w:World) (ah:w.ownsRow B 98 2 (.slice (p_ g) n cap) n xs) (hB:B<=w.heap.size) (hn:n<=1048576) (h1:1<=K) (h2:K<=900000000000000) :
    Calls prog 37 #[.slice (p_ g) n cap,I K] w fun e w'=>e=.returned (I ((K+2*n:Nat):Int))/\Below B w w'/\Fu g w w'/\∃ ys,w'.ownsRow B 98 2 (.slice (p_ g) n cap) n ys/\MkS K n ys:=by
  have wz:B<=g:=(ah.lt g rfl).1;go_enter func37,ntmps37;go_wp2
  go_loopw [1,5] (fun k i wr=>∃(m:Nat) (ys:List Value),m<=n/\i=I m/\k=I ((K+2*m:Nat):Int)/\Hd (wr.ownsRow B 98 2 (.slice (p_ g) n cap) n ys)/\Hd (MkS K m ys)/\Hd (Fu g w wr)/\w.heap.size<=wr.heap.size/\Below B w wr) (fun _ i _=>n-(intOf i).toNat)
  case atStart=>exact⟨0,xs,Nat.zero_le _,rfl,rfl,ah,(fun i hi=>by omega:MkS K 0 xs),(fun b _ _=>rfl:Fu g w w),Nat.le_refl _,Below.refl _ _⟩
  case round=>
    obtain⟨m,ys,hm,rfl,rfl,HO,HM,HK,de,bc⟩:=hrel;clear ah
    by_cases aj:m<n
    · have E8:m*2+1<ys.length:=by rw[HO.o.1];omega
      have l5:=hid (mkS_set HM.o E8);have Do:K+2*m+1<1000000000000000:=qb;have HT:Hd (∀ W:World,Calls prog 58 #[I ((K+2*m:Nat):Int)] W fun e w'=>Bw W w'/\e=.returned (.string (mt (K+2*m)))):=fun W=>Cq (K+2*m) W qb qb
      have HU:Hd (∀ W:World,Calls prog 58 #[I ((K+2*m:Nat)+1:Int)] W fun e w'=>Bw W w'/\e=.returned (.string (mt (K+2*m+1)))):=fun W=>by
        have h:=Cq (K+2*m+1) W qb Do;rw[show ((K+2*m+1:Nat):Int)=((K+2*m:Nat):Int)+1 from qb] at h;exact h
      generalize mt (K+2*m)=t at *;generalize mt (K+2*m+1)=u at *;obtain⟨c,ec⟩:=Ai (K+2*m);rw[ec] at HT HU Do ⊢;have HE:=hid ec;clear ec;have M8:(m:Int)<(n:Int):=qb;go_wp2_with fail;refine(HT.o _).mono ?_;rintro e w2 ⟨ag,rfl⟩;have aq:=Ac HO.o ag;have kw:Below B w w2:=bc.trans (ag.mono qb);have I4:=aq.frozenAt;obtain⟨o1,d1⟩:=Dp aq (j:=m*2) qb;have wb:=hid aq;have fs:=hid (HK.o.bl de ag);have gp:w.heap.size<=w2.heap.size:=zo ag.size;clear aq ag bc HO;go_wp2_with fail;refine(HU.o _).mono ?_;rintro e w3 ⟨aw,rfl⟩;have fh:=Ac (wb.o.stored (m*2) (.string t)).1 aw;have yg:Below B w w3:=(kw.setCell (p:=⟨g,m*2,none⟩) wz _).trans (aw.mono qh);have rh:Hd (Fu g w w3):=(fs.o.set (m*2) _).bl qcz aw;(have oa:w.heap.size<=w3.heap.size:=by have:=aw.size;simp at this;omega);have hfr3:=fh.frozenAt;obtain⟨o3,d3⟩:=Dp fh (j:=m*2+1) qb;have J5:=hid fh;clear fh aw d1 kw I4 wb;go_wp2;go_roundw
      case rel=>exact⟨m+1,_,qb,qj,congrArg (Value.int .i64) (zo HE.o),(J5.o.stored _ _).1,l5.o,rh.o.set _ _,by simpa using oa,yg.setCell (p:=⟨g,m*2+1,none⟩) wz _⟩
      case measure=>simp[intOf];omega
    · exact qdc
theorem Sa (K:Nat) (w:World) (h2:K<=900000000000000) :
    Calls prog 37 #[nS,I K] w fun e w'=>e=.returned (I (K:Int))/\w=w':=by
  go_enter func37,ntmps37;exact qet
theorem Rz (lo hi n K:Nat) (v:Value) (xs:List Value) (w:World) (hr:Bg w lo hi 98 2 v n xs) (hB:lo<=w.heap.size) (hn:n<=1048576) (h1:1<=K) (h2:K<=900000000000000) :
    Calls prog 37 #[v,I K] w fun e w'=>e=.returned (I ((K+2*n:Nat):Int))/\Below lo w w'/\Df v.ownBlock w w'/\∃ ys,Bg w' lo hi 98 2 v n ys/\MkS K n ys:=by
  rcases Gb hr.own with ⟨rfl,rfl⟩|⟨g,cap,rfl⟩
  · refine(Sa K w h2).mono ?_
    exact qlw
  · refine(Sc lo g n cap K xs w hr.own hB hn h1 h2).mono ?_
    exact qkl
def kT (cl:Nat->Nat) (K:Nat):Nat->Nat
  | 0=>K
  | i+1=>kT cl K i+1+3*cl i
theorem kT_le (cl:Nat->Nat) (K:Nat):∀ i n,i<=n->kT cl K i<=kT cl K n:=by
  intro i n h
  induction n with
  | zero=>
    obtain rfl:i=0:=by omega
    exact Nat.le_refl _
  | succ n ih=>
    rcases Nat.lt_or_ge i (n+1) with h1|h1
    · have:=ih qb
      simp only[kT];omega
    · obtain rfl:i=n+1:=qb
      exact Nat.le_refl _
theorem kT_bound (cl:Nat->Nat) (K:Nat):∀ n,(∀ i,i<n->cl i<=1048576)->kT cl K n<=K+n*3145729:=by
  intro n
  induction n with
  | zero=>intro _;simp[kT]
  | succ n ih=>
    intro h;have:=ih (fun i hi=>h i qb);have:=h n qb;simp only[kT];rw[Nat.succ_mul];omega
theorem Eh.bl (h:Eh w lo hi v n cl xs cv) (hb:Bw w w'):Eh w' lo hi v n cl xs cv:=
  ⟨h.row.bl hb,h.sec,fun i hi=>by obtain⟨ys,h1⟩:=h.code i hi;exact⟨ys,h1.bl hb⟩,h.apart⟩
theorem Eh.keepO {u:Value} (h:Eh w lo hi v n cl xs cv) (ho:w.ownsRow B e sz u m zs) (hk:Df u.ownBlock w w') (h1:100≠e) (h2:128≠e):Eh w' lo hi v n cl xs cv:=
  ⟨h.row.same fun b eb=>hk b (h.row.own.lt b eb).2 (fun e'=>Qk h.row.own ho h1 b eb e'.symm),h.sec,fun i hi=>by
    obtain⟨ys,k1⟩:=h.code i hi;exact⟨ys,k1.same fun b eb=>hk b (k1.own.lt b eb).2 (fun e'=>Qk k1.own ho h2 b eb e'.symm)⟩,h.apart⟩
theorem Eh.store (h:Eh w lo hi (.slice (p_ g) n cap) n cl xs cv) (m:Nat) (u:Value):Eh (w.setCell ⟨g,m*2,none⟩ u) lo hi (.slice (p_ g) n cap) n cl (xs.set (m*2) u) cv:=
  ⟨⟨(h.row.own.stored (m*2) u).1,h.row.top⟩,fun i hi=>by rw[List.getElem?_set,if_neg qb];exact h.sec i hi,fun i hi=>by
    obtain⟨ys,k1⟩:=h.code i hi;exact⟨ys,k1.same fun b eb=>hC w ⟨g,m*2,none⟩ u b (by show b≠g;intro e;subst e;exact Qk h.row.own k1.own qd b rfl eb)⟩,h.apart⟩
theorem Eh.mark (h:Eh w lo hi v n cl xs cv) (hm:m<n) (hk:Df (cv m).ownBlock w w') (hn:Bg w' lo hi 128 3 (cv m) (cl m) zs):Eh w' lo hi v n cl xs cv:=by
  obtain⟨y0,k0⟩:=h.code m hm;refine⟨h.row.same fun b eb=>hk b (h.row.own.lt b eb).2 (fun e'=>Qk h.row.own k0.own qd b eb e'.symm),h.sec,fun i hi=>?_,h.apart⟩
  by_cases hi':i=m
  · subst hi';exact⟨zs,hn⟩
  · obtain⟨ys,k1⟩:=h.code i hi
    exact⟨ys,k1.same fun b eb=>hk b (k1.own.lt b eb).2 (fun e'=>h.apart i m hi hm hi' b eb e'.symm)⟩
def Nr (w:World) (lo hi K:Nat) (cl:Nat->Nat) (cv:Nat->Value) (m:Nat) (ys:List Value):Prop:=∀ i,i<m->ys[i*2]?=some (.string (mt (kT cl K i)))/\∃ zs,Bg w lo hi 128 3 (cv i) (cl i) zs/\Zt (kT cl K i+1) (cl i) zs
theorem Nr.bl {K:Nat} (h:Nr w lo hi K cl cv m ys) (hb:Bw w w'):Nr w' lo hi K cl cv m ys:=fun i hi=>by
  obtain⟨h1,zs,h2,h3⟩:=h i hi;exact⟨h1,zs,h2.bl hb,h3⟩
theorem Nr.store {K:Nat} (h:Nr w lo hi K cl cv m ys) (hr:Eh w lo hi (.slice (p_ g) n cap) n cl ys cv) (u:Value):Nr (w.setCell ⟨g,m*2,none⟩ u) lo hi K cl cv m (ys.set (m*2) u):=fun i hi=>by
  obtain⟨h1,zs,h2,h3⟩:=h i hi;exact⟨by rw[List.getElem?_set,if_neg qb];exact h1,zs,h2.same fun b eb=>hC w ⟨g,m*2,none⟩ u b (by show b≠g;intro e;subst e;exact Qk hr.row.own h2.own qd b rfl eb),h3⟩
theorem Nr.mark {K:Nat} (h:Nr w lo hi K cl cv m ys) (hr:Eh w lo hi v n cl ys cv) (hm:m<n) (hk:Df (cv m).ownBlock w w') (hn:Bg w' lo hi 128 3 (cv m) (cl m) zs) (hz:Zt (kT cl K m+1) (cl m) zs) (hy:ys[m*2]?=some (.string (mt (kT cl K m)))):Nr w' lo hi K cl cv (m+1) ys:=fun i hi=>by
  rcases Nat.lt_or_ge i m with aj|W3
  · obtain⟨h1,zs',h2,h3⟩:=h i aj
    exact⟨h1,zs',h2.same fun b eb=>hk b (h2.own.lt b eb).2 (fun e'=>hr.apart i m qb hm qb b eb e'.symm),h3⟩
  · obtain rfl:i=m:=qb
    exact⟨hy,zs,hn,hz⟩
def Et (v:Value) (cv:Nat->Value) (n:Nat) (w w':World):Prop:=∀ b,b<w.heap.size->v.ownBlock≠some b->(∀ i,i<n->(cv i).ownBlock≠some b)->w'.heap[b]?=w.heap[b]?
theorem Et.bl (h:Et v cv n w w') (hs:w.heap.size<=w'.heap.size) (hb:Bw w' w2):Et v cv n w w2:=fun b hl h1 h2=>by
  rw[hb.block b qb];exact h b hl h1 h2
theorem Et.set (h:Et (.slice (p_ g) n cap) cv n w w') (u:Value):Et (.slice (p_ g) n cap) cv n w (w'.setCell ⟨g,m,none⟩ u):=fun b hl h1 h2=>by
  rw[hC w' ⟨g,m,none⟩ u b (fun e=>h1 (by rw[e];rfl))];exact h b hl h1 h2
theorem Et.mark (h:Et v cv n w w') (hs:w.heap.size<=w'.heap.size) (hm:m<n) (hk:Df (cv m).ownBlock w' w2):Et v cv n w w2:=fun b hl h1 h2=>by
  rw[hk b qb (fun e=>h2 m hm e.symm)];exact h b hl h1 h2
theorem Et.keepR (h:Et v cv n w w') (hr:Eh w lo hi v n cl xs cv):Dj lo hi w w':=fun b hb ho=>h b hb (fun e=>by have h1:=(hr.row.own.lt b e).1;have h2:=hr.row.top b e;omega) (fun i hi e=>by
  obtain⟨ys,k⟩:=hr.code i hi;have h1:=(k.own.lt b e).1;have h2:=k.top b e;omega)
theorem code_slice (h:Bg w lo hi 128 3 v n ys):∃ va vc,v=.slice va n vc:=by
  rcases Gb h.own with ⟨hv,rfl⟩|⟨g',c',hv⟩
  · exact⟨_,_,hv⟩
  · exact⟨_,_,hv⟩
theorem Rx (lo hi g n cap K:Nat) (cl:Nat->Nat) (xs:List Value) (cv:Nat->Value) (w:World) (hr:Eh w lo hi (.slice (p_ g) n cap) n cl xs cv) (hB:lo<=w.heap.size) (hn:n<=1048576) (pe:∀ i,i<n->cl i<=1048576) (h1:1<=K) (h2:kT cl K n<=800000000000000) :
    Calls prog 38 #[.slice (p_ g) n cap,I K] w fun e w'=>e=.returned (I ((kT cl K n:Nat):Int))/\Below lo w w'/\Et (.slice (p_ g) n cap) cv n w w'/\∃ ys,Eh w' lo hi (.slice (p_ g) n cap) n cl ys cv/\Nr w' lo hi K cl cv n ys:=by
  have wz:lo<=g:=(hr.row.own.lt g rfl).1;have HCL:=hid pe;have HKT:Hd (∀ i,i<=n->K<=kT cl K i/\kT cl K i<=800000000000000):=fun i hi=>⟨kT_le cl K 0 i (Nat.zero_le _),Nat.le_trans (kT_le cl K i n hi) h2⟩;clear pe h2;go_enter func38,ntmps38;go_wp2
  go_loopw [1,5] (fun k i wr=>∃(m:Nat) (ys:List Value),m<=n/\i=I m/\k=I ((kT cl K m:Nat):Int)/\Hd (Eh wr lo hi (.slice (p_ g) n cap) n cl ys cv)/\Hd (Nr wr lo hi K cl cv m ys)/\Hd (Et (.slice (p_ g) n cap) cv n w wr)/\w.heap.size<=wr.heap.size/\Below lo w wr) (fun _ i _=>n-(intOf i).toNat)
  case atStart=>exact⟨0,xs,Nat.zero_le _,rfl,rfl,hr,(fun i hi=>by omega:Nr w lo hi K cl cv 0 xs),(fun b _ _ _=>rfl:Et (.slice (p_ g) n cap) cv n w w),Nat.le_refl _,Below.refl _ _⟩
  case round=>
    obtain⟨m,ys,hm,rfl,rfl,HR,HM,HK,de,bc⟩:=hrel;clear hr
    by_cases aj:m<n
    · obtain⟨ce,gw⟩:=HKT.o m hm
      have B9:=HCL.o m aj;have HS:Hd (kT cl K (m+1)=kT cl K m+1+3*cl m):=rfl;(have E8:m*2+1<ys.length:=by rw[HR.o.row.own.1];omega);obtain⟨c,ec⟩:=Ai (kT cl K m);have HT:Hd (∀ W:World,Calls prog 58 #[I (c:Int)] W fun e w'=>Bw W w'/\e=.returned (.string (mt c))):=fun W=>Cq c W qb qb
      have HI:Hd (∀(W:World) (zs:List Value),W.ownsRow lo 128 3 (cv m) (cl m) zs->lo<=W.heap.size->Calls prog 59 #[cv m,I ((c:Int)+1)] W fun e w'=>e=.returned (I ((c+1+3*cl m:Nat):Int))/\Below lo W w'/\Df (cv m).ownBlock W w'/\∃ ys,w'.ownsRow lo 128 3 (cv m) (cl m) ys/\Zt (c+1) (cl m) ys):=fun W zs h3 h4=>by
        have h:=Pj lo (cl m) (c+1) (cv m) zs W h3 h4 B9 qb qb;rw[show ((c+1:Nat):Int)=(c:Int)+1 from qb] at h;exact h
      rw[ec] at ce gw HS ⊢;have HE:=hid ec;clear ec;have M8:(m:Int)<(n:Int):=qb;obtain⟨t,et⟩:=Ai (mt c);rw[et] at HT;have HET:=hid et;clear et;obtain⟨z0,bp⟩:=HR.o.code m aj;obtain⟨va,vc,ev⟩:=code_slice bp;have EV:=hid ev;clear bp ev;go_wp2_with fail;refine(HT.o _).mono ?_;rintro e w2 ⟨ag,rfl⟩;have ol:=hid (HR.o.bl ag);have l5:=hid (HM.o.bl ag);have fs:=hid (HK.o.bl de ag);have kw:Below lo w w2:=bc.trans (ag.mono qb);have gp:w.heap.size<=w2.heap.size:=zo ag.size;have I4:=ol.o.row.own.frozenAt;obtain⟨o1,d1⟩:=Dp ol.o.row.own (j:=m*2) qb;(have d2:w2.cell? ⟨g,m*2+1,none⟩=some (.slice va (cl m) vc):=by rw[ol.o.row.own.cellAt _ qb,ol.o.sec m aj,EV.o]);have ig:=hid (ol.o.store m (.string t));have E5:=hid (l5.o.store ol.o (.string t));have rh:Hd (Et (.slice (p_ g) n cap) cv n w (w2.setCell ⟨g,m*2,none⟩ (.string t))):=fs.o.set _;have yg:Below lo w (w2.setCell ⟨g,m*2,none⟩ (.string t)):=kw.setCell (p:=⟨g,m*2,none⟩) wz _
      have HC:Hd (Calls prog 59 #[.slice va (cl m) vc,I ((c:Int)+1)] (w2.setCell ⟨g,m*2,none⟩ (.string t)) fun e w'=>e=.returned (I ((c+1+3*cl m:Nat):Int))/\Below lo (w2.setCell ⟨g,m*2,none⟩ (.string t)) w'/\Df (cv m).ownBlock (w2.setCell ⟨g,m*2,none⟩ (.string t)) w'/\∃ ys,w'.ownsRow lo 128 3 (cv m) (cl m) ys/\Zt (c+1) (cl m) ys):=by
        obtain⟨zs,hzs⟩:=ig.o.code m aj;have h:=HI.o _ zs hzs.own qh;rw[EV.o] at h ⊢;exact h
      clear ag bc HR HM HK HI HT ol l5 fs kw;go_wp2_with fail;refine HC.o.mono ?_;rintro e w4 ⟨rfl,cj,oc,zs,ho4,hm4⟩;have ht4:Bg w4 lo hi 128 3 (cv m) (cl m) zs:=⟨ho4,fun b eb=>by obtain⟨zz,hzz⟩:=ig.o.code m aj;exact hzz.top b eb⟩;have mi:=hid (ig.o.mark aj oc ht4);have HM4:Hd (Nr w4 lo hi K cl cv (m+1) (ys.set (m*2) (.string t))):=E5.o.mark ig.o aj oc ht4 (by rw[HE.o];exact hm4) (by rw[HE.o,HET.o,List.getElem?_set,if_pos rfl,if_pos qb]);have Gt:Hd (Et (.slice (p_ g) n cap) cv n w w4):=rh.o.mark qcz aj oc;have S1:=yg.trans cj;(have A3:w.heap.size<=w4.heap.size:=by have:=cj.size;simp at this;omega);clear cj oc ho4 hm4 ht4 ig E5 rh yg d1 d2 I4 HC;go_wp2;go_roundw
      case rel=>exact⟨m+1,_,qb,qj,congrArg (Value.int .i64) (by rw[HS.o];omega),mi.o,HM4.o,Gt.o,A3,S1⟩
      case measure=>simp[intOf];omega
    · exact qmj
theorem Rw (K:Nat) (w:World) (h2:K<=900000000000000) :
    Calls prog 38 #[nS,I K] w fun e w'=>e=.returned (I (K:Int))/\w=w':=by
  go_enter func38,ntmps38;exact qet
theorem Ru (lo hi n K:Nat) (v:Value) (cl:Nat->Nat) (xs:List Value) (cv:Nat->Value) (w:World) (hr:Eh w lo hi v n cl xs cv) (hB:lo<=w.heap.size) (hn:n<=1048576) (pe:∀ i,i<n->cl i<=1048576) (h1:1<=K) (h2:kT cl K n<=800000000000000) :
    Calls prog 38 #[v,I K] w fun e w'=>e=.returned (I ((kT cl K n:Nat):Int))/\Below lo w w'/\Et v cv n w w'/\∃ ys,Eh w' lo hi v n cl ys cv/\Nr w' lo hi K cl cv n ys:=by
  rcases Gb hr.row.own with ⟨rfl,rfl⟩|⟨g,cap,rfl⟩
  · refine(Rw K w (by simp only[kT] at h2;omega)).mono ?_
    rintro e w' ⟨rfl,rfl⟩;exact⟨rfl,Below.refl _ _,fun _ _ _ _=>rfl,xs,hr,fun i hi=>qb⟩
  · exact Rx lo hi g n cap K cl xs cv w hr hB hn pe h1 h2
def MkSp (w:World) (lo hi K:Nat) (v1 v2:Value) (n1 n2:Nat) (cl:Nat->Nat):Prop:=(∃ ys,Bg w lo hi 98 2 v1 n1 ys/\MkS K n1 ys)/\∃ ys cv,Eh w lo hi v2 n2 cl ys cv/\Nr w lo hi (K+2*n1) cl cv n2 ys
theorem Vr (lo hi n1 n2 K:Nat) (v1 v2:Value) (cl:Nat->Nat) (xs zs:List Value) (cv:Nat->Value) (w:World) (h1:Bg w lo hi 98 2 v1 n1 xs) (h2:Eh w lo hi v2 n2 cl zs cv) (hB:lo<=w.heap.size) (Id:n1<=1048576) (V7:n2<=1048576) (pe:∀ i,i<n2->cl i<=1048576) (hK:1<=K) (S6:kT cl (K+2*n1) n2<=800000000000000) :
    Calls prog 14 #[.agg #[v1,v2],I K] w fun e w'=>e=.returned (I ((kT cl (K+2*n1) n2:Nat):Int))/\Below lo w w'/\Dj lo hi w w'/\MkSp w' lo hi K v1 v2 n1 n2 cl:=by
  have hK3:K+2*n1<=800000000000000:=Nat.le_trans (kT_le cl (K+2*n1) 0 n2 (Nat.zero_le _)) S6;obtain⟨va,vc,rfl⟩:=Ch h1;obtain⟨vb,vd,rfl⟩:=Ch h2.row;have ak:Bw w (w.alloc (.cells #[.slice va n1 vc,.slice vb n2 vd] 42)):=aN _ _;have k1:(w.alloc (.cells #[.slice va n1 vc,.slice vb n2 vd] 42)).cell? ⟨w.heap.size,1,none⟩=some (.slice vb n2 vd):=qk;have hw0:(w.alloc (.cells #[.slice va n1 vc,.slice vb n2 vd] 42)).heap.size=w.heap.size+1:=qg;have wn:=hid (h2.bl ak);have h10:=h1.bl ak;have hne:(Value.slice va n1 vc).ownBlock≠some w.heap.size:=fun e=>by have:=(h1.own.lt _ e).2;omega
  have HC:Hd (∀ W:World,Eh W lo hi (.slice vb n2 vd) n2 cl zs cv->lo<=W.heap.size->Calls prog 38 #[.slice vb n2 vd,I ((K+2*n1:Nat):Int)] W fun e w'=>e=.returned (I ((kT cl (K+2*n1) n2:Nat):Int))/\Below lo W w'/\Et (.slice vb n2 vd) cv n2 W w'/\∃ ys,Eh w' lo hi (.slice vb n2 vd) n2 cl ys cv/\Nr w' lo hi (K+2*n1) cl cv n2 ys):=fun W h3 h4=>Ru lo hi n2 (K+2*n1) _ cl zs cv W h3 h4 V7 pe qb S6;clear S6 h2 h1 pe;go_enter func14,ntmps14;go_wp2_with fail;refine(Rz lo hi n1 K _ xs _ h10 qb Id hK qb).mono ?_;rintro e w1 ⟨rfl,af,ce,ys,lj,vr⟩;have bg:=(ak.mono hB).trans af;have eg:w.heap.size+1<=w1.heap.size:=zo af.size
  have c1:w1.cell? ⟨w.heap.size,1,none⟩=some (.slice vb n2 vd):=by
    exact qnc
  have iq:Hd (Eh w1 lo hi (.slice vb n2 vd) n2 cl zs cv):=wn.o.keepO h10.own ce qd qd;have d6:Hd (Dj lo hi w w1):=(Dj.of_below ak).trans ak.size (ce.keepR fun b e=>⟨(h10.own.lt b e).1,h10.top b e⟩);have ie:=hid lj;have yu:=hid vr;clear ak af ce lj vr k1 wn h10 hne hw0;go_wp2_with fail;refine(HC.o w1 iq.o qb).mono ?_;rintro e w2 ⟨rfl,ag,gw,ys2,mu,sw⟩;have be:=bg.trans ag;have fs:Hd (Dj lo hi w w2):=d6.o.trans qb (gw.keepR iq.o);have HP:Hd (MkSp w2 lo hi K (.slice va n1 vc) (.slice vb n2 vd) n1 n2 cl):=⟨⟨ys,ie.o.same fun b e=>gw b (ie.o.own.lt b e).2 (fun e'=>Qk iq.o.row.own ie.o.own qd b e' e) (fun i hi e'=>by obtain⟨zz,hz⟩:=iq.o.code i hi;exact Qk hz.own ie.o.own qd b e' e),yu.o⟩,ys2,cv,mu,sw⟩;clear ag gw mu sw iq d6 ie yu HC c1;go_wp2;go_ret;exact⟨rfl,be,fs.o,HP.o⟩
theorem Ll.move {sa ta sa' l7:Option Addr} (h:Ll w sa ss ta ts) (rs:Jv w' sa' ss) (rt:Ju w' l7 ts):Ll w' sa' ss l7 ts:=⟨rs,rt,h.ls,h.lt,h.ns,h.xs,h.nt,h.lc,h.xt⟩
theorem Qca {lo' hi':Nat} {v1 v2 u1 u2:Value} (h1:Hs w lo hi v1 ss) (h2:Ha w lo hi v2 ts) (k1:Hs w lo' hi' u1 ss) (k2:Ha w lo' hi' u2 ts) (hs:Fb ss ts) :
    Calls prog 12 #[.agg #[v1,v2],.agg #[u1,u2]] w fun e w'=>Bw w w'/\e=.returned (.bool true):=by
  obtain⟨a1,p1,rfl,r1⟩:=h1.sl;obtain⟨a2,p2,rfl,r2⟩:=h2.sl;obtain⟨a3,p3,rfl,r3⟩:=k1.sl;obtain⟨a4,p4,rfl,r4⟩:=k2.sl;exact Zm a1 a2 a3 a4 p1 p2 p3 p4 ss ts w r1 r2 r3 r4 hs
end Go.Proofs.YtfgoholldpeabaaGreatDoor
