import Derived.Test.YtjlnkepkkdefdaaGreatDoorVsB
import Derived.Deep.AppendLies
import Derived.Deep.DeepCutAuto
import Derived.Deep.RegionHeld3
import Derived.Laws.CopyOwn
import Derived.Laws.CopyRow
import Derived.Lib.SmallJoins
import Derived.Shelf.Spec.SlicesInsertGrow
namespace Go.Proofs.YtjlnkepkkdefdaaGreatDoor
set_option maxHeartbeats 4000000
set_option maxRecDepth 100000
open Go.RowKit Go.Deep
set_option linter.unusedVariables false
set_option linter.unusedSimpArgs false
theorem own_first {w:World} {B e sz n:Nat} {v:Value} {xs:List Value} (h:w.ownsRow B e sz v n xs) (h1:1<=n):∃ g cp,v=.slice (some ⟨g,0,none⟩) n cp:=by
 rcases Ho h with ⟨_,h0⟩|h
 ·omega
 ·exact h
theorem clone_any (a:Option Addr) (cap:Nat) (is:List I3) (w:World) (hc:Dr w a is) (h1:1<=is.length) (hl:is.length<=1048576) :
  Calls Tryz.prog 50 #[.slice a is.length cap] w fun e w'=>Below w.heap.size w w'/\∃ g cp,e=.returned (.slice (some ⟨g,0,none⟩) is.length cp)/\w'.ownsRow w.heap.size 106 3 (.slice (some ⟨g,0,none⟩) is.length cp) is.length (Hz is):=by
 obtain⟨i0,hi,hz0,hz1,hz2⟩:=info_parts Tryz.info165b
 obtain⟨b,off,rfl,_⟩:=hc 0 (by omega)
 have hown0:(w.alloc (.cells #[] 106)).ownsRow w.heap.size 106 3 (.slice (some ⟨w.heap.size,0,none⟩) 0 0) 0 []:=World.ownsRow_lit (base:=w.heap.size) (e:=106) (size:=3) w #[] 0 (Nat.le_refl _) (by unfold maxLen;omega) (by simp)
 have hn:=Uy (hc.bl ((Below.refl w.heap.size w).alloc (Nat.le_refl _) (.cells #[] 106)))
 have HL:Hd ((Hz is).length=is.length*3):=Ka is
 have HO:Hd (∀ u∈Hz is,u.oneCell'=true):=Zh is
 generalize Hz is=xs at *
 clear hc
 have hq:∀ W:World,(binOp .eql 35 (.slice (some ⟨b,off,none⟩) is.length cap) (.slice none 0 0)).run Tryz.prog W=.ok (.bool false) W:=fun W=>Lib.run_eql_slice_nil W 35 106 _ _ _ 0 0 Tryz.underlying35
 go_enter Tryz.func50,Tryz.ntmps50
 go_wp2_with (at_builtin;refine wpList_append_own _ rfl (.tmp 5) (.tmp 6) 35 rfl w.heap.size 106 i0 (.agg #[.int .i64 0,.string ⟨#[]⟩,.int .i64 0]) 3 32 Tryz.underlying35 hi hz0 hz1 hz2 rfl (by decide) _ 0 [] rfl hown0 ⟨b,off,none⟩ is.length cap xs rfl HL.o hn HO.o (by unfold maxLen;omega) (by omega) (by simp) ?_;intro v' w2 hown' hgrow hnil;clear hnil)
 have hbB:Below w.heap.size w w2:=(aN _ _).grown hgrow (by simp) (fun k hk=>(hown0.lt k hk).1)
 rw[Nat.zero_add,List.nil_append] at hown'
 obtain⟨g,cp,rfl⟩:=own_first hown' h1
 clear hgrow hown0 hn
 go_wp2
 go_ret
 exact⟨hbB,g,cp,rfl,hown'⟩
theorem Re (a:Option Addr) (cap:Nat) (is:List I3) (w:World) (hc:Dr w a is) (h1:1<=is.length) (hl:is.length<=1048576) :
  Calls Tryz.prog 28 #[.agg #[.slice a is.length cap]] w fun e w'=>Below w.heap.size w w'/\∃ g cp,e=.returned (.agg #[.slice (some ⟨g,0,none⟩) is.length cp])/\w'.ownsRow w.heap.size 106 3 (.slice (some ⟨g,0,none⟩) is.length cp) is.length (Hz is):=by
 have hb0:Below w.heap.size w ((w.alloc (.cells #[.slice a is.length cap] 37)).alloc (.cells #[.slice none 0 0] 37)):=(aN _ _).alloc (by simp) _
 go_enter Tryz.func28,Tryz.ntmps28
 go_wp2_with fail
 refine(clone_any a cap is _ (hc.bl hb0) h1 hl).mono ?_
 rintro e w1 ⟨hb1,g,cp,rfl,hown⟩
 have hg:=(hown.lt g rfl).1
 simp at hg
 have hb:=bt hb0 hb1
 have hown2:=Co hown (B':=w.heap.size) (by simp;omega)
 have c1:w1.cell? ⟨w.heap.size+1,0,none⟩=some (.slice none 0 0):=Ab hb1 (by simp[go_sem])
 have f1:w1.frozen? ⟨w.heap.size+1,0,none⟩=false:=by rw[hb1.frozen (p:=⟨w.heap.size+1,0,none⟩) (by simp)];simp[go_sem]
 clear hb0 hb1 hown
 go_wp2
 exact bR (v:=.agg #[.slice (some ⟨g,0,none⟩) is.length cp]) (by simp[results,Tryz.results28,go_sem,c1]) rfl ⟨hb.setCell (p:=⟨w.heap.size+1,0,none⟩) (by simp) _,g,cp,rfl,Yf hown2 (by omega) _⟩
def Cf (w:World) (lo hi:Nat) (v:Value) (ts:List ByteArray):Prop:=Dd w lo hi 9 1 v ts.length (ts.map Value.string)
theorem filled_all (ss:List ByteArray):Gb ss ss.length ss.length=ss.map Value.string:=by simp[Gb]
theorem map_str (ss:List ByteArray) (i:Nat) (h:i<ss.length):(ss.map Value.string)[i]?=some (.string (ss.getD i ByteArray.empty)):=by rw[<- filled_all];exact filled_get ss i h
theorem Cf.bl {w w':World} {lo hi:Nat} {v:Value} {ts:List ByteArray} (h:Cf w lo hi v ts) (hb:Below w.heap.size w w'):Cf w' lo hi v ts:=Dd.bl h hb
theorem Cf.keep {w w':World} {lo hi lo' hi':Nat} {v:Value} {ts:List ByteArray} (h:Cf w lo hi v ts) (hk:Nh lo' hi' w w') (hd:hi<=lo'\/hi'<=lo):Cf w' lo hi v ts:=Dd.keep h hk hd
theorem Cf.wide {w:World} {lo hi lo' hi':Nat} {v:Value} {ts:List ByteArray} (h:Cf w lo hi v ts) (h1:lo'<=lo) (h2:hi<=hi'):Cf w lo' hi' v ts:=Dd.wide h h1 h2
theorem Cf.nil (w:World) (lo hi:Nat):Cf w lo hi (.slice none 0 0) []:=Dd.nil _ _ _ _ _
theorem Cf.sl {w:World} {lo hi:Nat} {v:Value} {ts:List ByteArray} (h:Cf w lo hi v ts):∃ a cap,v=.slice a ts.length cap/\Cp w a ts:=by
 rcases Ho (Dd.own h) with ⟨rfl,h0⟩|⟨g,cap,rfl⟩
 ·exact⟨none,0,by rw[h0],fun i hi=>by omega⟩
 ·refine⟨_,cap,rfl,fun i hi=>⟨g,0,rfl,?_⟩⟩;rw[Nat.zero_add,(Dd.own h).cellAt _ (by omega)];exact map_str ts i hi
theorem Cf.set {w:World} {lo hi b j:Nat} {v:Value} {ts:List ByteArray} (h:Cf w lo hi v ts) (hb:b<lo) (u:Value):Cf (w.setCell ⟨b,j,none⟩ u) lo hi v ts:=h.keep (Nh.set (lo:=b) (hi:=b+1) (Nat.le_refl _) (Nat.lt_succ_self _) j u) (Or.inr hb)
structure Ti (w:World) (lo hi:Nat) (v:Value) (rs:List T3) (xs:List Value) (cv lv:Nat->Value):Prop where
 row:Dd w lo hi 52 3 v rs.length xs
 fil:∀ i,i<rs.length->xs[i*3]?=some (cv i)/\xs[i*3+1]?=some (lv i)/\xs[i*3+2]?=some (.string (qx rs i).out)
 code:∀ i,i<rs.length->∃ ys,Dd w lo hi 106 3 (cv i) (qx rs i).code.length ys/\Fw (qx rs i).code (qx rs i).code.length ys
 look:∀ i,i<rs.length->∃ ys,Dd w lo hi 85 3 (lv i) (qx rs i).looks.length ys/\Fe (qx rs i).looks (qx rs i).looks.length ys
 apc:∀ i j,i<j->j<rs.length->∀ b,(cv i).ownBlock=some b->(cv j).ownBlock≠some b
 apl:∀ i j,i<j->j<rs.length->∀ b,(lv i).ownBlock=some b->(lv j).ownBlock≠some b
 som:∀ i,i<rs.length->∃ g cap,lv i=.slice (some ⟨g,0,none⟩) (qx rs i).looks.length cap
def Ki (w:World) (lo hi:Nat) (v:Value) (rs:List T3):Prop:=∃ xs cv lv,Ti w lo hi v rs xs cv lv
theorem Ti.bl {w w':World} {lo hi:Nat} {v:Value} {rs:List T3} {xs:List Value} {cv lv:Nat->Value} (h:Ti w lo hi v rs xs cv lv) (hb:Below w.heap.size w w'):Ti w' lo hi v rs xs cv lv:=
 ⟨h.row.bl hb,h.fil,fun i hi=>by obtain⟨ys,h1,h2⟩:=h.code i hi;exact⟨ys,h1.bl hb,h2⟩,fun i hi=>by obtain⟨ys,h1,h2⟩:=h.look i hi;exact⟨ys,h1.bl hb,h2⟩,h.apc,h.apl,h.som⟩
theorem Ti.wide {w:World} {lo hi lo' hi':Nat} {v:Value} {rs:List T3} {xs:List Value} {cv lv:Nat->Value} (h:Ti w lo hi v rs xs cv lv) (h1:lo'<=lo) (h2:hi<=hi'):Ti w lo' hi' v rs xs cv lv:=
 ⟨h.row.wide h1 h2,h.fil,fun i hi=>by obtain⟨ys,k1,k2⟩:=h.code i hi;exact⟨ys,k1.wide h1 h2,k2⟩,fun i hi=>by obtain⟨ys,k1,k2⟩:=h.look i hi;exact⟨ys,k1.wide h1 h2,k2⟩,h.apc,h.apl,h.som⟩
theorem Ki.bl {w w':World} {lo hi:Nat} {v:Value} {rs:List T3} (h:Ki w lo hi v rs) (hb:Below w.heap.size w w'):Ki w' lo hi v rs:=by
 obtain⟨xs,cv,lv,h⟩:=h;exact⟨xs,cv,lv,h.bl hb⟩
theorem Ki.wide {w:World} {lo hi lo' hi':Nat} {v:Value} {rs:List T3} (h:Ki w lo hi v rs) (h1:lo'<=lo) (h2:hi<=hi'):Ki w lo' hi' v rs:=by
 obtain⟨xs,cv,lv,h⟩:=h;exact⟨xs,cv,lv,h.wide h1 h2⟩
theorem Ki.nil (w:World) (lo hi:Nat):Ki w lo hi (.slice none 0 0) []:=⟨[],fun _=>.slice none 0 0,fun _=>.slice none 0 0,Dd.nil _ _ _ _ _,fun i hi=>by simp at hi,fun i hi=>by simp at hi,fun i hi=>by simp at hi,fun i j _ hj=>by simp at hj,fun i j _ hj=>by simp at hj,fun i hi=>by simp at hi⟩
theorem Ki.keepO {w w':World} {lo hi e sz n B:Nat} {u v:Value} {rs:List T3} {zs:List Value} (h:Ki w lo hi v rs) (ho:w.ownsRow B e sz u n zs) (hk:Po u.ownBlock w w') (h1:52≠e) (h2:106≠e) (h3:85≠e):Ki w' lo hi v rs:=by
 obtain⟨xs,cv,lv,h⟩:=h
 exact⟨xs,cv,lv,h.row.same fun b eb=>hk b (h.row.own.lt b eb).2 (fun e'=>neT h.row.own ho h1 b eb e'.symm),h.fil,fun i hi=>by
  obtain⟨ys,k1,k2⟩:=h.code i hi
  exact⟨ys,k1.same fun b eb=>hk b (k1.own.lt b eb).2 (fun e'=>neT k1.own ho h2 b eb e'.symm),k2⟩,fun i hi=>by
  obtain⟨ys,k1,k2⟩:=h.look i hi;exact⟨ys,k1.same fun b eb=>hk b (k1.own.lt b eb).2 (fun e'=>neT k1.own ho h3 b eb e'.symm),k2⟩,h.apc,h.apl,h.som⟩
theorem rowG_RowO {w:World} {lo hi:Nat} {v:Value} {is:List G3} {ys:List Value} (h:Dd w lo hi 85 3 v is.length ys) (hf:Fe is is.length ys):∃ a cap,v=.slice a is.length cap/\Ks w a is:=by
 rcases Ho h.own with ⟨rfl,h0⟩|⟨g,cap,rfl⟩
 ·exact⟨none,0,by rw[h0],fun i hi=>by omega⟩
 ·exact⟨_,cap,rfl,Xy rfl h.own hf⟩
theorem Ki.sl {w:World} {lo hi:Nat} {v:Value} {rs:List T3} (h:Ki w lo hi v rs):∃ a cap,v=.slice a rs.length cap/\RowQ w a rs:=by
 obtain⟨xs,cv,lv,h⟩:=h
 rcases Ho h.row.own with ⟨rfl,h0⟩|⟨g,cap,rfl⟩
 ·exact⟨none,0,by rw[h0],fun i hi=>by omega⟩
 ·refine⟨_,cap,rfl,fun i hi=>?_⟩;obtain⟨h1,h2,h3⟩:=h.fil i hi;obtain⟨ys,k1,k2⟩:=h.code i hi;obtain⟨zs,j1,j2⟩:=h.look i hi;obtain⟨a',cap',e,r⟩:=Uv k1 k2;obtain⟨a2,cap2,e2,r2⟩:=rowG_RowO j1 j2;refine⟨g,0,rfl,a',cap',a2,cap2,?_,?_,?_,r,r2⟩
  ·rw[Nat.zero_add,h.row.own.cellAt _ (by omega),h1,e]
  ·rw[Nat.zero_add,h.row.own.cellAt _ (by omega),h2,e2]
  ·rw[Nat.zero_add,h.row.own.cellAt _ (by omega),h3]
structure PartQ (w:World) (lo:Nat) (is:List T3) (k:Nat) (xs:List Value) (cv lv:Nat->Value):Prop where
 fil:∀ i,i<k->xs[i*3]?=some (cv i)/\xs[i*3+1]?=some (lv i)/\xs[i*3+2]?=some (.string (qx is i).out)
 code:∀ i,i<k->∃ ys,w.ownsRow lo 106 3 (cv i) (qx is i).code.length ys/\Fw (qx is i).code (qx is i).code.length ys
 look:∀ i,i<k->∃ ys,w.ownsRow lo 85 3 (lv i) (qx is i).looks.length ys/\Fe (qx is i).looks (qx is i).looks.length ys
 apc:∀ i j,i<j->j<k->∀ b,(cv i).ownBlock=some b->(cv j).ownBlock≠some b
 apl:∀ i j,i<j->j<k->∀ b,(lv i).ownBlock=some b->(lv j).ownBlock≠some b
 som:∀ i,i<k->∃ g cap,lv i=.slice (some ⟨g,0,none⟩) (qx is i).looks.length cap
theorem Sn (w:World) (o o2:Obj):((w.alloc o).alloc o2).heap[w.heap.size+1]?=some o2:=by
 have h:=Al (w.alloc o) o2
 rw[show (w.alloc o).heap.size=w.heap.size+1 from by simp] at h
 exact h
theorem Sm (w:World) (o o2:Obj):((w.alloc o).alloc o2).heap[w.heap.size]?=some o:=by
 rw[Lib.alloc_old _ _ _ (by simp)];exact Al _ _
theorem Fm {w:World} {b T:Nat} {v1 v2 v3:Value} (h:w.heap[b]?=some (.cells #[v1,v2,v3] T (0,0))):w.cell? ⟨b,0,none⟩=some v1/\w.cell? ⟨b,1,none⟩=some v2/\w.cell? ⟨b,2,none⟩=some v3:=
 ⟨by rw[cH h];rfl,by rw[cH h];rfl,by rw[cH h];rfl⟩
theorem Cf.setT {w:World} {b lo hi j T:Nat} {v:Value} {ts:List ByteArray} (ho:Cf w lo hi v ts) (h:Cx w b T) (h9:T≠9) (u:Value):Cf (w.setCell ⟨b,j,none⟩ u) lo hi v ts:=⟨Fk (Dd.own ho) h h9 u,Dd.top ho⟩
theorem Ki.setT {w:World} {b lo hi j T:Nat} {v:Value} {rs:List T3} (ho:Ki w lo hi v rs) (h:Cx w b T) (h66:T≠52) (h98:T≠106) (h88:T≠85) (u:Value):Ki (w.setCell ⟨b,j,none⟩ u) lo hi v rs:=by
 obtain⟨xs,cv,lv,k⟩:=ho
 exact⟨xs,cv,lv,⟨Fk k.row.own h h66 u,k.row.top⟩,k.fil,fun i hi=>by
  obtain⟨ys,k1,k2⟩:=k.code i hi
  exact⟨ys,⟨Fk k1.own h h98 u,k1.top⟩,k2⟩,fun i hi=>by
  obtain⟨ys,k1,k2⟩:=k.look i hi;exact⟨ys,⟨Fk k1.own h h88 u,k1.top⟩,k2⟩,k.apc,k.apl,k.som⟩
theorem Vn (ss:List ByteArray):∀ u∈ss.map Value.string,u.oneCell'=true:=by
 intro u hu
 obtain⟨s,_,rfl⟩:=List.mem_map.mp hu
 rfl
theorem txV_news {w:World} {b off:Nat} {ss:List ByteArray} (h:Cp w (some ⟨b,off,none⟩) ss):∀ j u,(ss.map Value.string)[j]?=some u->w.cell? ((⟨b,off,none⟩:Addr).add j)=some u:=by
 intro j u hu
 rw[Addr.add_lit]
 have hj:j<ss.length:=by
  rcases Nat.lt_or_ge j ss.length with h|h
  ·exact h
  ·rw[List.getElem?_eq_none (by simpa using h)] at hu;cases hu
 rw[map_str ss j hj] at hu
 obtain rfl:=Option.some.inj hu
 obtain⟨b',off',ha,c1⟩:=h j hj
 cases ha
 exact c1
theorem cloneX_any (b off cap:Nat) (is:List ByteArray) (w:World) (hc:Cp w (some ⟨b,off,none⟩) is) (hl:is.length<=1048576) :
  Calls Tryz.prog 79 #[.slice (some ⟨b,off,none⟩) is.length cap] w fun e w'=>Below w.heap.size w w'/\∃ g cp,e=.returned (.slice (some ⟨g,0,none⟩) is.length cp)/\w'.ownsRow w.heap.size 9 1 (.slice (some ⟨g,0,none⟩) is.length cp) is.length (is.map Value.string):=by
 obtain⟨i0,hi,hz0,hz1,hz2⟩:=info_parts Tryz.info9b
 have hown0:(w.alloc (.cells #[] 9)).ownsRow w.heap.size 9 1 (.slice (some ⟨w.heap.size,0,none⟩) 0 0) 0 []:=World.ownsRow_lit (base:=w.heap.size) (e:=9) (size:=1) w #[] 0 (Nat.le_refl _) (by unfold maxLen;omega) (by simp)
 have hn:=txV_news (hc.bl ((Below.refl w.heap.size w).alloc (Nat.le_refl _) (.cells #[] 9)))
 have HL:Hd ((is.map Value.string).length=is.length*1):=by show _=_;simp
 have HO:Hd (∀ u∈is.map Value.string,u.oneCell'=true):=Vn is
 generalize is.map Value.string=xs at *
 clear hc
 have hq:∀ W:World,(binOp .eql 30 (.slice (some ⟨b,off,none⟩) is.length cap) (.slice none 0 0)).run Tryz.prog W=.ok (.bool false) W:=fun W=>Lib.run_eql_slice_nil W 30 9 _ _ _ 0 0 Tryz.underlying30
 go_enter Tryz.func79,Tryz.ntmps79
 go_wp2_with (at_builtin;refine wpList_append_own _ rfl (.tmp 5) (.tmp 6) 30 rfl w.heap.size 9 i0 (.string ⟨#[]⟩) 1 16 Tryz.underlying30 hi hz0 hz1 hz2 rfl (by decide) _ 0 [] rfl hown0 ⟨b,off,none⟩ is.length cap xs rfl HL.o hn HO.o (by unfold maxLen;omega) (by omega) (by simp) ?_;intro v' w2 hown' hgrow hnil)
 have hbB:Below w.heap.size w w2:=(aN _ _).grown hgrow (by simp) (fun k hk=>(hown0.lt k hk).1)
 rw[Nat.zero_add,List.nil_append] at hown'
 obtain⟨g,cp,rfl⟩:=Lx hown' (fun e=>by have:=(hnil.1 e).1;cases this)
 clear hgrow hown0 hn hnil
 go_wp2
 go_ret
 exact⟨hbB,g,cp,rfl,hown'⟩



theorem Hu (w:World) (dT sT ty elem:TypeId) (g o dLen dCap:Nat) (a:Addr) (sLen sCap:Nat) (cur:Array Value) (t:TypeId) (cs:List Value)
  (hu:Tryz.prog.underlying dT=some (.slice elem)) (hs:(Tryz.prog.info? elem).map (·.size)=some 1)
  (hg:w.heap[g]?=some (.cells cur t (0,0))) (hn:cs.length=Nat.min sLen dLen)
  (hsrc:∀ j v,cs[j]?=some v->w.cell? (a.add j)=some v) (hfit:o+cs.length<=cur.size) (h1:∀ v∈cs,v.oneCell'=true) :
  (Builtin.copy_ #[dT,sT] ty #[.slice (some ⟨g,o,none⟩) dLen dCap,.slice (some a) sLen sCap]).run Tryz.prog w =
   .ok (goInt (Nat.min sLen dLen)) (w.setRow g (cur.toList.take o++cs++cur.toList.drop (o+cs.length)).toArray):=by
 have hl:=run_loadCells_list (P:=Tryz.prog) w a cs hsrc
 have hst:=run_storeCells_at Tryz.prog g o t cs 0 cur w hg (by simpa using hfit) h1
 cases hq:Tryz.prog.info? elem with
 | none=>simp[hq] at hs
 | some i=>
  have hi:i.size=1:=by simpa [hq] using hs
  simp[Builtin.copy_,run_underlying hu,Builtin.lenOf,Builtin.firstCells,sizeOf,typeInfo,hq,hi,<- hn,hl,hst]
theorem Rr {α:Type} (L cs:List α) (o:Nat) (h:o<=L.length):(L.take o++cs++L.drop (o+cs.length)).take (o+cs.length)=L.take o++cs:=by
 rw[List.take_append_of_le_length (by simp;omega),List.take_of_length_le (by simp;omega)]
theorem shift_take {α:Type} (C xs vs:List α) (i n:Nat) (hi:i<=n) (hx:C.take (n)=xs) (hl:(n+1)<=C.length) (hv:vs.length=1) (C1 C2:List α)
  (h1:C1=C.take ((i+1))++xs.drop (i)++C.drop ((i+1)+(xs.drop (i)).length)) (h2:C2=C1.take (i)++vs++C1.drop (i+vs.length)) :
  C2.length=C.length/\C2.take ((n+1))=xs.take (i)++vs++xs.drop (i):=by
 have hxl:xs.length=n:=by rw[<- hx,List.length_take];omega
 have hdl:(xs.drop (i)).length=n-i:=by rw[List.length_drop,hxl]
 have hl1:C1.length=C.length:=by rw[h1];simp[hdl];omega
 have e1:C1.take ((n+1))=C.take ((i+1))++xs.drop (i):=by
  have:=Rr C (xs.drop (i)) ((i+1)) (by omega);rw[<- h1,hdl,show (i+1)+(n-i)=(n+1) by omega] at this;exact this
 have e2:C1.take (i)=xs.take (i):=by
  have:=congrArg (fun l=>l.take (i)) e1;simp only[List.take_take] at this;rw[Nat.min_eq_left (by omega),List.take_append_of_le_length (by simp;omega),List.take_take,Nat.min_eq_left (by omega)] at this;rw[this,<- hx,List.take_take,Nat.min_eq_left (by omega)]
 have e3:(C1.take ((n+1))).drop ((i+1))=xs.drop (i):=by
  rw[e1,List.drop_append_of_le_length (by simp;omega),List.drop_of_length_le (by simp;omega),List.nil_append]
 have hl2:C2.length=C.length:=by rw[h2];simp[hv,hl1];omega
 refine⟨hl2,?_⟩
 rw[h2,hv,show i+1=(i+1) by omega,List.take_append,List.take_of_length_le (by simp[hv,hl1];omega)]
 rw[e2]
 congr 1
 rw[<- e3,List.drop_take]
 congr 1
 simp[hv,hxl]
 omega
theorem grow_take {α:Type} (R xs vs Z:List α) (i n:Nat) (hi:i<=n) (hxl:xs.length=n) (hR:R=xs.take (i)++Z) (hZ:(n+1-i)<=Z.length) (hv:vs.length=1) (C1 C2:List α)
  (h1:C1=R.take (i)++vs++R.drop (i+vs.length)) (h2:C2=C1.take ((i+1))++xs.drop (i)++C1.drop ((i+1)+(xs.drop (i)).length)) :
  C2.length=R.length/\C2.take ((n+1))=xs.take (i)++vs++xs.drop (i):=by
 have hdl:(xs.drop (i)).length=n-i:=by rw[List.length_drop,hxl]
 have hRl:R.length=i+Z.length:=by rw[hR];simp[hxl];omega
 have hl1:C1.length=R.length:=by rw[h1];simp[hv];omega
 have e1:C1.take ((i+1))=xs.take (i)++vs:=by
  have:=Rr R vs (i) (by omega);rw[<- h1,hv,show i+1=(i+1) by omega] at this;rw[this,hR,List.take_append_of_le_length (by simp[hxl];omega),List.take_take,Nat.min_self]
 have e2:=Rr C1 (xs.drop (i)) ((i+1)) (by omega)
 rw[<- h2,hdl,show (i+1)+(n-i)=(n+1) by omega,e1] at e2
 refine⟨?_,e2⟩
 rw[h2];simp[hdl,hl1];omega
theorem Yi {xs:List Value} (h:∀ v∈xs,v.oneCell'=true) (k:Nat):∀ v∈xs.drop k,v.oneCell'=true:=fun v hv=>h v (List.mem_of_mem_drop hv)
theorem Tryz.size9:(Tryz.prog.info? 9).map (·.size)=some 1:=by kernel_rfl
theorem Tryz.szrun9:∀ w,(Go.sizeOf 9).run Tryz.prog w=.ok 1 w:=fun w=>by
 obtain⟨i0,hi,hz0,hz1,hz2⟩:=info_parts Tryz.info9b
 simp[sizeOf,typeInfo,hi,hz1]
theorem Ub (g n c i vb:Nat) (cur:Array Value) (y:Value) (w:World) (hi:i<n) (hroom:n+1<=c) (hcm:c<=maxLen) (hg:w.heap[g]?=some (.cells cur 9 (0,0))) (hcur:cur.size=c) (hb:w.heap[vb]?=some (.cells #[y] 9 (0,0))) (hvb:vb≠g)
  (h1c:∀ v∈cur.toList.take (n),v.oneCell'=true) (h1v:∀ v∈[y],v.oneCell'=true) (C1 C2:List Value)
  (e1:C1=cur.toList.take ((i+1))++(cur.toList.take (n)).drop (i)++cur.toList.drop ((i+1)+((cur.toList.take (n)).drop (i)).length)) (e2:C2=C1.take (i)++[y]++C1.drop (i+[y].length)) :
  Calls Tryz.prog 48 #[.slice (some ⟨g,0,none⟩) n c,.int .i64 i,.slice (some ⟨vb,0,none⟩) 1 1] w fun e w'=>e=.returned (.slice (some ⟨g,0,none⟩) (n+1) c)/\w'=(w.drew.setRow g C1.toArray).setRow g C2.toArray:=by
 unfold maxLen at hcm
 have hdl:((cur.toList.take (n)).drop (i)).length=(n-i):=by rw[List.length_drop,List.length_take,Array.length_toList,hcur];omega
 have hl1:C1.length=cur.size:=by rw[e1];simp[hdl,hcur];omega
 have hov:∀ lb cb,(callFunc 83 #[.slice (some ⟨vb,0,none⟩) 1 1,.slice (some ⟨g,(i+1),none⟩) lb cb]).run Tryz.prog w=.ok (.value (.bool false)) w:=fun lb cb=>by
  rw[run_callFunc_extern Tryz.func83 (by kernel_rfl) (by kernel_rfl) (by kernel_rfl) (e:=Extern.SlicesOverlaps.overlaps #[30,30] #[4]) (by kernel_rfl),
   Lib.run_overlaps_apart w 30 4 9 Tryz.underlying30 1 Tryz.szrun9 ⟨vb,0,none⟩ ⟨g,(i+1),none⟩ 1 1 lb cb hvb 9 9 1 cur.size (by simp[World.shape?,hb]) (by simp[World.shape?,hg]) (by omega) (fH hb 0) (fH hb 1)]
  rfl
 have hcp1:∀ ty dc sc,(Builtin.copy_ #[30,30] ty #[.slice (some ⟨g,(i+1),none⟩) (n-i) dc,.slice (some ⟨g,i,none⟩) (n+1-i) sc]).run Tryz.prog w.drew=.ok (goInt ((n-i:Nat):Int)) (w.drew.setRow g C1.toArray):=fun ty dc sc=>by
  have h:=Hu w.drew 30 30 ty 9 g ((i+1)) (n-i) dc ⟨g,i,none⟩ (n+1-i) sc cur 9 ((cur.toList.take (n)).drop (i)) Tryz.underlying30 Tryz.size9 hg (by rw[hdl];simp only[Nat.min_def];split<;>omega)
   (fun j v hj=>by
    rw[Addr.add_lit,cH (w:=w.drew) (cs:=cur) (T:=9) (fr:=(0,0)) hg];rw[List.getElem?_drop,List.getElem?_take] at hj
    split at hj
    ·rw[<- Array.getElem?_toList];exact hj
    ·cases hj) (by rw[hdl];omega) (Yi h1c _)
  rw[<- e1,show Nat.min (n+1-i) (n-i)=n-i by simp only[Nat.min_def];split<;>omega] at h;exact h
 obtain⟨W1,hW1⟩:∃ W1,W1=w.drew.setRow g C1.toArray:=⟨_,rfl⟩
 have hg1:W1.heap[g]?=some (.cells C1.toArray 9 (0,0)):=by rw[hW1];exact setRow_heap _ _ _ _ _ _ hg
 have hb1:W1.heap[vb]?=some (.cells #[y] 9 (0,0)):=by rw[hW1,setRow_other _ _ _ _ hvb];exact hb
 have hcp2:∀ ty dc,(Builtin.copy_ #[30,30] ty #[.slice (some ⟨g,i,none⟩) (n+1-i) dc,.slice (some ⟨vb,0,none⟩) 1 1]).run Tryz.prog W1=.ok (goInt 1) (W1.setRow g C2.toArray):=fun ty dc=>by
  have h:=Hu W1 30 30 ty 9 g (i) (n+1-i) dc ⟨vb,0,none⟩ 1 1 C1.toArray 9 [y] Tryz.underlying30 Tryz.size9 hg1 (by show 1=_;simp only[Nat.min_def];split<;>omega)
   (fun j v hj=>by
    rw[Addr.add_lit,cH hb1,Nat.zero_add];simpa using hj) (by simp[hl1,hcur];omega) h1v
  rw[<- e2,show Nat.min 1 (n+1-i)=1 by simp only[Nat.min_def];split<;>omega] at h;exact h
 rw[<- hW1] at hcp1 ⊢
 have hz2:¬ ((i:Int)=(n:Int)):=by omega
 have hzr:¬ ((c:Int)<(n:Int)+1):=by omega
 have hw1:IntKind.i64.wrap ((i:Int)+1)=(i:Int)+1:=by rw[IntKind.wrap_i64];omega
 have hw2:IntKind.i64.wrap ((n:Int)+1)=(n:Int)+1:=by rw[IntKind.wrap_i64];omega
 have hbb1:(0:Int)<=(i:Int)+1:=by omega
 have hin:i<=n:=by omega
 have htn:((i:Int)+1).toNat=i+1:=by omega
 have htm:((n:Int)+1).toNat=n+1:=by omega
 have hb2:¬ (c=i+1):=by omega
 have hb3:(i:Int)<=(n:Int)+1:=by omega
 have hb4:¬ (c=i):=by omega
 clear hg hb hg1 hb1 e1 e2 h1c h1v hl1 hdl hcur hW1
 have mixed:Tryz.prog.follows .mixedOrders=true:=by kernel_rfl
 go_enter Tryz.func48,Tryz.ntmps48
 go_wp2_with (simp only[hov])
 go_region_law_o (refine step_copy_runI rfl _ _ 30 30 rfl _ _ (by simp[Act.eval,Act.put]) (by simp[Act.eval,Act.put]) (hcp1 _ _ _) ?_)
 go_wp2_with (at_builtin;refine wpList_copy_runI _ rfl _ _ 30 30 rfl _ _ rfl rfl (hcp2 _ _) ?_)
 go_ret
 exact⟨rfl,rfl⟩
theorem Wg (g n c i vb:Nat) (cur:Array Value) (xs:List Value) (y:Value) (w:World) (hi:i<n) (hnc:n<=c) (hroom:c<n+1) (hn:n<=1048576) (hg:w.heap[g]?=some (.cells cur 9 (0,0))) (hxs:cur.toList.take (n)=xs) (hxl:xs.length=n) (hb:w.heap[vb]?=some (.cells #[y] 9 (0,0)))
  (h1c:∀ v∈xs,v.oneCell'=true) (h1v:∀ v∈[y],v.oneCell'=true) :
  Calls Tryz.prog 48 #[.slice (some ⟨g,0,none⟩) n c,.int .i64 i,.slice (some ⟨vb,0,none⟩) 1 1] w fun e w'=>∃(G:Nat) (C:List Value),e=.returned (.slice (some ⟨w.heap.size,0,none⟩) (n+1) G)/\n+1<=G/\G<=maxLen/\C.length=G/\C.take ((n+1))=xs.take (i)++[y]++xs.drop (i)/\w'.heap[w.heap.size]?=some (.cells C.toArray 9 (0,0))/\w'.heap.size=w.heap.size+1/\(∀ b,b<w.heap.size->w'.heap[b]?=w.heap[b]?)/\w'.os=w.os/\w'.tape=w.tape/\w'.output=w.output:=by
 obtain⟨i0,hi0,hz0,hzs,hzb⟩:=info_parts Tryz.info9b
 have hkk:(n:Int)+1-(i:Int)=((n+1-i:Nat):Int):=by omega
 have hik:i+(n+1-i)=n+1:=by omega
 have hcell:∀ j v,xs[j]?=some v->∀ W:World,W.heap[g]?=w.heap[g]?->W.cell? ⟨g,j,none⟩=some v:=fun j v hj W hW=>by
  rw[cH (w:=W) (hW.trans hg),<- Array.getElem?_toList];rw[<- hxs,List.getElem?_take] at hj
  split at hj
  ·exact hj
  ·cases hj
 have hold:(Builtin.firstCells i0.size i (.slice (some ⟨g,0,none⟩) i c)).run Tryz.prog w.drew=.ok (xs.take (i)).toArray w.drew:=by
  rw[hzs]
  exact run_firstCells_some w.drew 1 i ⟨g,0,none⟩ i c (xs.take (i)) (by rw[List.length_take];omega) (fun j v hj=>by
   rw[Addr.add_lit,Nat.zero_add];rw[List.getElem?_take] at hj
   split at hj
   ·exact hcell j v hj _ rfl
   ·cases hj)
 have hrz:∀ ty,(Builtin.append_ #[30,3] ty #[.slice (some ⟨g,0,none⟩) i c,.int .i64 ((n:Int)+1-(i:Int))]).run Tryz.prog w =
   .ok (.slice (some ⟨w.heap.size,0,none⟩) (n+1) (grownCap w (n+1) c 9)) (w.drew.alloc (.cells ((xs.take (i)).toArray++Builtin.zeroCells (Value.string ⟨#[]⟩).cells (n+1-i)++Builtin.zeroCells (Value.string ⟨#[]⟩).cells (grownCap w (n+1) c 9-(n+1))) 9)):=fun ty=>by
  have h:=Lib.run_append_grow_zeros w 30 3 ty 9 i0 _ .i64 .i64 Tryz.underlying30 Tryz.underlying3 hi0 hz0 (some ⟨g,0,none⟩) i c (xs.take (i)) hold (n+1-i) (by omega) (by omega) (by omega) (by omega) (by rw[hzb];omega) (by rw[hzb,hik];exact growslice_fits hroom (by omega));rw[hik] at h;rw[hkk];exact h
 obtain⟨G,hG⟩:∃ G,G=grownCap w (n+1) c 9:=⟨_,rfl⟩
 have hGn:n+1<=G:=by rw[hG];exact grownCap_ge w _ _ _
 have hGm:G<=maxLen:=by rw[hG];exact grownCap_le_maxLen w (n+1) c 9 (by unfold maxLen;omega)
 obtain⟨Z,hZ⟩:∃ Z:List Value,Z=(Builtin.zeroCells (Value.string ⟨#[]⟩).cells (n+1-i)).toList++(Builtin.zeroCells (Value.string ⟨#[]⟩).cells (G-(n+1))).toList:=⟨_,rfl⟩
 have hZl:Z.length=(G-i):=by
  rw[hZ];simp[Builtin.zeroCells,Value.cells];omega
 obtain⟨R,hR⟩:∃ R:List Value,R=xs.take (i)++Z:=⟨_,rfl⟩
 have hRl:R.length=G:=by rw[hR];simp[hxl,hZl];omega
 have hROW:(xs.take (i)).toArray++Builtin.zeroCells (Value.string ⟨#[]⟩).cells (n+1-i)++Builtin.zeroCells (Value.string ⟨#[]⟩).cells (G-(n+1))=R.toArray:=by
  apply Array.ext';rw[hR,hZ];simp
 rw[<- hG,hROW] at hrz
 obtain⟨C1,h1⟩:∃ C1,C1=R.take (i)++[y]++R.drop (i+[y].length):=⟨_,rfl⟩
 obtain⟨C2,h2⟩:∃ C2,C2=C1.take ((i+1))++xs.drop (i)++C1.drop ((i+1)+(xs.drop (i)).length):=⟨_,rfl⟩
 obtain⟨hl2,ht2⟩:=grow_take R xs [y] Z i n (by omega) hxl hR (by rw[hZl];omega) rfl C1 C2 h1 h2
 have hl1:C1.length=G:=by rw[h1];simp[hRl];omega
 have hdl:(xs.drop (i)).length=(n-i):=by rw[List.length_drop,hxl]
 have hvb:vb<w.heap.size:=Dj hb
 have hgb:g<w.heap.size:=Dj hg
 have hA:(w.alloc (.cells R.toArray 9)).heap[w.heap.size]?=some (.cells R.toArray 9 (0,0)):=Al _ _
 have hcpA:∀(W:World),W.heap=(w.alloc (.cells R.toArray 9)).heap->∀ ty dc,(Builtin.copy_ #[30,30] ty #[.slice (some ⟨w.heap.size,i,none⟩) (n+1-i) dc,.slice (some ⟨vb,0,none⟩) 1 1]).run Tryz.prog W=.ok (goInt 1) (W.setRow w.heap.size C1.toArray):=fun W hW ty dc=>by
  have h:=Hu W 30 30 ty 9 w.heap.size (i) (n+1-i) dc ⟨vb,0,none⟩ 1 1 R.toArray 9 [y] Tryz.underlying30 Tryz.size9 (by rw[hW];exact hA) (by show 1=_;simp only[Nat.min_def];split<;>omega)
   (fun j v hj=>by
    rw[Addr.add_lit,cH (w:=W) (cs:=#[y]) (T:=9) (fr:=(0,0)) (by rw[hW,Lib.alloc_old _ _ _ hvb];exact hb),Nat.zero_add];simpa using hj) (by simp[hRl];omega) h1v
  rw[<- h1,show Nat.min 1 (n+1-i)=1 by simp only[Nat.min_def];split<;>omega] at h;exact h
 have hcpB:∀(W:World),W.heap=((w.alloc (.cells R.toArray 9)).setRow w.heap.size C1.toArray).heap->∀ ty dc sc,(Builtin.copy_ #[30,30] ty #[.slice (some ⟨w.heap.size,(i+1),none⟩) (n-i) dc,.slice (some ⟨g,i,none⟩) (n-i) sc]).run Tryz.prog W=.ok (goInt ((n-i:Nat):Int)) (W.setRow w.heap.size C2.toArray):=fun W hW ty dc sc=>by
  have h:=Hu W 30 30 ty 9 w.heap.size ((i+1)) (n-i) dc ⟨g,i,none⟩ (n-i) sc C1.toArray 9 (xs.drop (i)) Tryz.underlying30 Tryz.size9 (by rw[hW];exact setRow_heap _ _ _ _ _ _ hA) (by rw[hdl];simp)
   (fun j v hj=>by
    rw[Addr.add_lit];rw[List.getElem?_drop] at hj;exact hcell _ v hj W (by rw[hW,setRow_other _ _ _ _ (by omega),Lib.alloc_old _ _ _ hgb])) (by simp[hl1,hdl];omega) (Yi h1c _)
  rw[<- h2,show Nat.min (n-i) (n-i)=n-i by simp] at h;exact h
 have hcpA':=hcpA (w.alloc (.cells R.toArray 9)).drew rfl
 have hcpB':=hcpB ((w.alloc (.cells R.toArray 9)).drew.setRow w.heap.size C1.toArray).drew rfl
 clear hcpA hcpB
 have HX:Hd ((((w.alloc (.cells R.toArray 9)).drew.setRow w.heap.size C1.toArray).drew.setRow w.heap.size C2.toArray).heap[w.heap.size]?=some (.cells C2.toArray 9 (0,0))/\(((w.alloc (.cells R.toArray 9)).drew.setRow w.heap.size C1.toArray).drew.setRow w.heap.size C2.toArray).heap.size=w.heap.size+1/\∀ b,b<w.heap.size->(((w.alloc (.cells R.toArray 9)).drew.setRow w.heap.size C1.toArray).drew.setRow w.heap.size C2.toArray).heap[b]?=w.heap[b]?):=by
  refine⟨setRow_heap _ _ _ _ _ _ (setRow_heap (w.alloc (.cells R.toArray 9)).drew _ _ C1.toArray _ _ hA),by simp,fun b hb'=>?_⟩;rw[setRow_other _ _ _ _ (by omega)];show ((w.alloc (.cells R.toArray 9)).drew.setRow w.heap.size C1.toArray).heap[b]?=_;rw[setRow_other _ _ _ _ (by omega)];exact Lib.alloc_old _ _ _ hb'
 have HC2:Hd (C2.length=G/\C2.take ((n+1))=xs.take (i)++[y]++xs.drop (i)):=⟨by rw[hl2,hRl],ht2⟩
 have hz2:¬ ((i:Int)=(n:Int)):=by omega
 have hz3:(c:Int)<(n:Int)+1:=by omega
 have hG63:G<=9223372036854775807:=by unfold maxLen at hGm;omega
 have hGi:¬ (G=i):=by omega
 have hGim:¬ (G=i+1):=by omega
 have hci:¬ (c=i):=by omega
 have hw1:IntKind.i64.wrap ((i:Int)+1)=(i:Int)+1:=by rw[IntKind.wrap_i64];omega
 have hw2:IntKind.i64.wrap ((n:Int)+1)=(n:Int)+1:=by rw[IntKind.wrap_i64];omega
 have hbb1:(0:Int)<=(i:Int)+1:=by omega
 have hin:i<=n:=by omega
 have htn:((i:Int)+1).toNat=i+1:=by omega
 have hb3:(i:Int)<=(n:Int):=by omega
 have mixed:Tryz.prog.follows .mixedOrders=true:=by kernel_rfl
 have HGM:Hd (G<=maxLen):=hGm
 clear hkk hik hold hROW hG hRl hGm hl1 hl2 ht2 h1 h2 hR hZ hZl hg hb hxs hcell hA h1c h1v hdl
 go_enter Tryz.func48,Tryz.ntmps48
 go_wp2_with (first
  | (at_builtin;refine Lib.wpList_append_run _ rfl _ _ _ _ rfl _ _ rfl rfl _ _ (hrz _) ?_)
  | (at_builtin;refine wpList_copy_runI _ rfl _ _ 30 30 rfl _ _ rfl rfl (hcpA' _ _) ?_))
 go_region_law_o (refine step_copy_runI rfl _ _ 30 30 rfl _ _ (by simp[Act.eval,Act.put]) (by simp[Act.eval,Act.put]) (hcpB' _ _ _) ?_)
 go_wp2
 go_ret
 exact⟨G,C2,rfl,hGn,HGM.o,HC2.o.1,HC2.o.2,HX.o.1,HX.o.2.1,HX.o.2.2,rfl,rfl,rfl⟩
theorem Zf (B n vb:Nat) (v:Value) (xs:List Value) (y:Value) (w:World) (ho:w.ownsRow B 9 1 v n xs) (hB:B<=w.heap.size) (hn:n<=5000) (hb:w.heap[vb]?=some (.cells #[y] 9 (0,0))) (h1v:∀ u∈[y],u.oneCell'=true) :
  Calls Tryz.prog 48 #[v,.int .i64 n,.slice (some ⟨vb,0,none⟩) 1 1] w fun e w'=>∃ g' cp,e=.returned (.slice (some ⟨g',0,none⟩) (n+1) cp)/\w'.ownsRow B 9 1 (.slice (some ⟨g',0,none⟩) (n+1) cp) (n+1) (xs++[y])/\Below B w w'/\Po v.ownBlock w w'/\(v.ownBlock=some g'\/g'=w.heap.size):=by
 obtain⟨i0,hi,hz0,hz1,hz2⟩:=info_parts Tryz.info9b
 have HB:Hd (∀(g' cp:Nat) (w2:World),w2.ownsRow B 9 1 (.slice (some ⟨g',0,none⟩) (n+1) cp) (n+1) (xs++[y])->w.grownBy w2 v.ownBlock->Below B w w2/\Po v.ownBlock w w2):=fun g' cp w2 k1 k2=>⟨(Below.refl _ _).grown k2 hB (fun k hk=>(ho.lt k hk).1),fun b hl hne=>k2.block b hl hne⟩
 have HN:Hd (∀ j u,[y][j]?=some u->w.cell? ((⟨vb,0,none⟩:Addr).add j)=some u):=World.news_of_block (cs:=#[y]) (t:=9) (fr:=(0,0)) hb
 have HO:Hd (w.ownsRow B 9 1 v n xs):=ho
 rcases Ho ho with ⟨rfl,rfl⟩|⟨g,c,rfl⟩
 ·clear hb ho;go_enter Tryz.func48,Tryz.ntmps48
  go_wp2_with (first|(at_builtin;refine wpList_append_lies _ rfl (.tmp 23) (.tmp 24) 30 rfl B 9 i0 (.string ⟨#[]⟩) 1 16 Tryz.underlying30 hi hz0 hz1 hz2 rfl (by decide) _ _ _ rfl HO.o ⟨vb,0,none⟩ 1 1 [y] rfl rfl HN.o h1v (by omega) (by unfold maxLen;omega) (by omega) hB _ rfl ?_;intro g' cp w2 k1 hgrow hlie hlt';obtain⟨k2,k3⟩:=HB.o g' cp w2 k1 hgrow;have HLIE:Hd _:=hlie;clear hgrow hlt' hlie))
  go_ret;exact⟨g',cp,rfl,k1,k2,k3,HLIE.o⟩
 ·have hcl:n<=c/\c<=maxLen:=by
   rcases ho.2 with ⟨h,_⟩|⟨g',c',cur,hv,_,_,h1,h2,_⟩
   ·cases h
   ·cases hv;exact⟨h1,h2⟩
  obtain⟨hc1,hc2⟩:=hcl;unfold maxLen at hc2;clear hb ho
  by_cases hcn:c=n
  ·subst hcn;go_enter Tryz.func48,Tryz.ntmps48
   go_wp2_with (first|(at_builtin;refine wpList_append_lies _ rfl (.tmp 23) (.tmp 24) 30 rfl B 9 i0 (.string ⟨#[]⟩) 1 16 Tryz.underlying30 hi hz0 hz1 hz2 rfl (by decide) _ _ _ rfl HO.o ⟨vb,0,none⟩ 1 1 [y] rfl rfl HN.o h1v (by omega) (by unfold maxLen;omega) (by omega) hB _ rfl ?_;intro g' cp w2 k1 hgrow hlie hlt';obtain⟨k2,k3⟩:=HB.o g' cp w2 k1 hgrow;have HLIE:Hd _:=hlie;clear hgrow hlt' hlie))
   go_ret;exact⟨g',cp,rfl,k1,k2,k3,HLIE.o⟩
  ·go_enter Tryz.func48,Tryz.ntmps48
   go_wp2_with (first|(at_builtin;refine wpList_append_lies _ rfl (.tmp 23) (.tmp 24) 30 rfl B 9 i0 (.string ⟨#[]⟩) 1 16 Tryz.underlying30 hi hz0 hz1 hz2 rfl (by decide) _ _ _ rfl HO.o ⟨vb,0,none⟩ 1 1 [y] rfl rfl HN.o h1v (by omega) (by unfold maxLen;omega) (by omega) hB _ rfl ?_;intro g' cp w2 k1 hgrow hlie hlt';obtain⟨k2,k3⟩:=HB.o g' cp w2 k1 hgrow;have HLIE:Hd _:=hlie;clear hgrow hlt' hlie))
   go_ret;exact⟨g',cp,rfl,k1,k2,k3,HLIE.o⟩
theorem Qy (B n i vb:Nat) (v:Value) (xs:List Value) (y:Value) (w:World) (ho:w.ownsRow B 9 1 v n xs) (hB:B<=w.heap.size) (hi:i<=n) (hn:n<=5000) (hb:w.heap[vb]?=some (.cells #[y] 9 (0,0))) (hne:v.ownBlock≠some vb) (h1c:∀ u∈xs,u.oneCell'=true) (h1v:∀ u∈[y],u.oneCell'=true) :
  Calls Tryz.prog 48 #[v,.int .i64 i,.slice (some ⟨vb,0,none⟩) 1 1] w fun e w'=>∃ g' cp,e=.returned (.slice (some ⟨g',0,none⟩) (n+1) cp)/\w'.ownsRow B 9 1 (.slice (some ⟨g',0,none⟩) (n+1) cp) (n+1) (xs.take (i)++[y]++xs.drop (i))/\Below B w w'/\Po v.ownBlock w w'/\(v.ownBlock=some g'\/g'=w.heap.size):=by
 have hxl:xs.length=n:=by have:=ho.1;omega
 rcases Nat.lt_or_ge i n with hlt|hge
 ·rcases ho.2 with ⟨_,h0⟩|⟨g,c,cur,rfl,hg,hh,h1,h2,h3,h4⟩
  ·omega
  ·rw[Nat.mul_one] at h3 h4;have hvb:vb≠g:=fun e=>hne (by rw[e];rfl);have hgl:g<w.heap.size:=Dj hh
   rcases Nat.lt_or_ge c (n+1) with hr|hr
   ·refine(Wg g n c i vb cur xs y w hlt h1 hr (by omega) hh h4 hxl hb h1c h1v).mono ?_;rintro e w' ⟨G,C,rfl,k1,k2,k3,k4,k5,k6,k7,k8,k9,k10⟩;refine⟨_,G,rfl,⟨by simp[hxl];omega,Or.inr ⟨w.heap.size,G,C.toArray,rfl,hB,k5,k1,k2,by simpa using k3,by simpa using k4⟩⟩,⟨k8,k9,k10,by omega,fun b hbb=>k7 b (by omega)⟩,fun b hl _=>k7 b hl,Or.inr rfl⟩
   ·refine(Ub g n c i vb cur y w hlt hr h2 hh h3 hb hvb (by rw[h4];exact h1c) h1v _ _ rfl rfl).mono ?_;rintro e w' ⟨rfl,rfl⟩;rw[h4];obtain⟨l2,t2⟩:=shift_take cur.toList xs [y] i n hi h4 (by rw[Array.length_toList,h3];omega) rfl _ _ rfl rfl;refine⟨g,c,rfl,⟨by simp[hxl];omega,Or.inr ⟨g,c,_,rfl,hg,setRow_heap _ _ _ _ _ _ (setRow_heap w.drew _ _ _ _ _ hh),hr,h2,?_,by simpa using t2⟩⟩,?_,?_,Or.inl rfl⟩
    ·rw[List.size_toArray,l2,Array.length_toList,Nat.mul_one];exact h3
    ·exact below_setRow (below_setRow (Below.refl _ _).drew hg _) hg _
    ·intro b hl hne';have hbg:b≠g:=fun e=>hne' (by rw[e];rfl);rw[setRow_other _ _ _ _ hbg,setRow_other _ _ _ _ hbg];rfl
 ·obtain rfl:i=n:=by omega
  refine(Zf B i vb v xs y w ho hB hn hb h1v).mono ?_;rintro e w' ⟨g',cp,rfl,k1,k2,k3,k4⟩;refine⟨g',cp,rfl,?_,k2,k3,k4⟩;rw[List.take_of_length_le (by omega),List.drop_of_length_le (by omega),List.append_nil];exact k1
end Go.Proofs.YtjlnkepkkdefdaaGreatDoor
