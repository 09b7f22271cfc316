import Derived.Test.YtjlnkepkkdefdaaGreatDoorTValid
import Derived.Test.YtjlnkepkkdefdaaGreatDoorTValidP
import Derived.Lib.ItoaNum
import Derived.Deep.RegionWith
import Derived.Deep.RegionHeld3
import Derived.Shelf.Small.Strs
import Derived.Shelf.Strconv.Itoa0
import Derived.Shelf.Strconv.Itoa1
import Derived.Shelf.LaysM
import Derived.Shelf.Strconv.Itoa2
import Derived.Shelf.Strconv.Itoa3
import Derived.Shelf.Slices.Turned
import Derived.Ground.Names2Prog
import Derived.Shelf.Slices.Clone
import Derived.Ground.SlgnProg
import Derived.Shelf.SlicesE.Clone
import Derived.Test.YtjlnkepkkdefdaaGreatDoorProg
import Derived.Lib.AppendIntMem
set_option linter.unusedVariables false
set_option maxHeartbeats 8000000
set_option maxRecDepth 100000
namespace Go.Proofs.YtjlnkepkkdefdaaGreatDoor
open Go.RowKit
set_option linter.unusedVariables false
set_option linter.unusedSimpArgs false
theorem Ep:∀(k n:Nat),n<10 ^ (k+1)->(Lib.decDigits n).length<=k+1
 | 0,n,h=>by rw[Lib.decDigits,dif_pos (by simpa using h)];simp
 | k+1,n,h=>by
  rw[Lib.decDigits];split
  ·simp
  ·have:=Ep k (n / 10) (by rw[Nat.pow_succ] at h;omega);simp;omega
theorem Sz (W:World) (g:Nat) (c:Int) (u:UInt8) (hu:(u.toNat:Int)=c) (h:W.cell? ⟨g,0,none⟩=some (.int .u8 c)):(convert 22 9 (.slice (some ⟨g,0,none⟩) 1 1)).run Tryz.prog W=.ok (.string ⟨#[u]⟩) W:=by
 subst hu
 exact run_convert_bytes_back (P:=Tryz.prog) W 22 9 5 ⟨g,0,none⟩ 1 [u] Tryz.underlying22 Tryz.underlying5 Tryz.underlying9 (fun t ht=>by
  obtain rfl:t=0:=by simp at ht;omega
  simpa [Addr.add] using h)
theorem Sx (d:Nat) (h:d<10):((UInt8.ofNat (48+d)).toNat:Int)=48+d:=by rw[UInt8.toNat_ofNat'];omega
theorem str_snoc (l:List UInt8) (u:UInt8):(⟨l.toArray⟩:ByteArray)++(⟨#[u]⟩:ByteArray)=⟨(l++[u]).toArray⟩:=by
 apply WideShapes.bytes_inj
 simp[ByteArray.data_append]
theorem Gr:∀(n:Nat) (w:World),n<=1000000->Calls Tryz.prog 33 #[.int .i64 n] w fun e w'=>e=.returned (.string ⟨(Lib.decDigits n).toArray⟩)/\Below w.heap.size w w':=by
 intro n
 induction n using Nat.strongRecOn with
 | _ n ih=>
  intro w hn
  by_cases h:n<10
  ·have hdd:Lib.decDigits n=[UInt8.ofNat (48+n)]:=by rw[Lib.decDigits,dif_pos h]
   have hu:=Sx n h;rw[hdd];generalize UInt8.ofNat (48+n)=u at *;have hcv:=Sz (w.alloc (.cells #[.int .u8 (48+n)] 5)) w.heap.size (48+n) u hu (by simp[go_sem]);clear hdd ih hu;go_enter Tryz.func33,Tryz.ntmps33;go_wp2;go_ret;exact⟨rfl,aN _ _⟩
  ·have hdd:Lib.decDigits n=Lib.decDigits (n / 10)++[UInt8.ofNat (48+n % 10)]:=by rw[Lib.decDigits,dif_neg h]
   rw[hdd,<- str_snoc];have hl:=Ep 6 (n / 10) (by omega)
   have hq:(⟨(Lib.decDigits (n / 10)).toArray⟩:ByteArray).size<=10:=by
    show (Lib.decDigits (n / 10)).toArray.size<=10;rw[List.size_toArray];omega
   have IH:Hd (∀ W:World,Calls Tryz.prog 33 #[.int .i64 ((n / 10:Nat):Int)] W fun e w'=>e=.returned (.string ⟨(Lib.decDigits (n / 10)).toArray⟩)/\Below W.heap.size W w'):=fun W=>ih (n / 10) (by omega) W (by omega);clear ih hdd hl;generalize (⟨(Lib.decDigits (n / 10)).toArray⟩:ByteArray)=q at *;obtain⟨m,e1,em⟩:∃ m:Nat,(n:Int) / 10=(m:Int)/\n / 10=m:=⟨n / 10,by omega,rfl⟩;rw[em] at IH;clear em;have hdb:=Sx (n % 10) (by omega);have hmod:(n:Int).tmod 10=((n % 10:Nat):Int):=by rw[Int.tmod_eq_emod_of_nonneg (by omega)];omega
   obtain⟨c,e3,hu⟩:∃ c:Int,IntKind.u8.wrap (IntKind.i64.wrap (48+(n:Int).tmod 10))=c/\((UInt8.ofNat (48+n % 10)).toNat:Int)=c:=by
    refine⟨_,rfl,?_⟩;rw[hdb,hmod,IntWalk.i64_in _ ⟨by omega,by omega⟩];(have:IntKind.u8.wrap (48+((n % 10:Nat):Int))=(48+((n % 10:Nat):Int)) % 256:=by simp[IntKind.wrap,IntKind.bits,IntKind.signed]);rw[this];omega
   generalize UInt8.ofNat (48+n % 10)=u at *;clear hdb hmod;have hcv:=fun (W:World) (g:Nat)=>Sz W g c u hu;have IH2:Hd (∀ W:World,W.cell? ⟨w.heap.size,0,none⟩=some (.int .u8 c)->Calls Tryz.prog 33 #[.int .i64 (m:Int)] W fun e w'=>e=.returned (.string q)/\Below W.heap.size W w'/\w'.cell? ⟨w.heap.size,0,none⟩=some (.int .u8 c)):=fun W hW=>(IH.o W).mono fun e w' ⟨he,hb⟩=>⟨he,hb,Ab hb hW⟩;clear hu;go_enter Tryz.func33,Tryz.ntmps33;go_wp2
   go_region_with (first|(go_at_call 33;rw[show IntKind.i64.wrap (m:Int)=(m:Int) from IntWalk.i64_in _ ⟨by omega,by omega⟩];refine(IH2.o _ ?_).mono ?_;(focus (simp[go_sem];done));rintro e w1 ⟨rfl,hb1,hcc⟩)|(go_at_call 33;rw[show IntKind.i64.wrap (m:Int)=(m:Int) from IntWalk.i64_in _ ⟨by omega,by omega⟩];refine(IH.o _).mono ?_;rintro e w1 ⟨rfl,hb1⟩))
   all_goals go_wp2
   all_goals go_ret
   ·exact⟨rfl,((Below.refl _ _).drew.trans hb1).alloc (by have:=hb1.size;simpa using this) _⟩
   ·exact⟨rfl,(((Below.refl _ _).drew.alloc (Nat.le_refl _) _).trans (hb1.mono (by simp)))⟩
   ·exact⟨rfl,(((Below.refl _ _).drew.alloc (Nat.le_refl _) _).trans (hb1.mono (by simp)))⟩
def Ld (w:World):Prop:=Lib.TabIs Tryz.prog w "internal/strconv.uint64pow10" .u64 Lib.pow10Tab
theorem Ld.bl {w w':World} (h:Ld w) (hb:Below w.heap.size w w'):Ld w':=Lib.tabBelow_of_tabIs h w' hb
def Aq (s:ByteArray):Prop:=1<=s.size/\s.size<=60/\∀ j,(h:j<s.size)->33<=s[j].toNat/\s[j].toNat<=126
noncomputable def Cu (s:ByteArray):Bool:=@decide (Aq s) (Classical.propDecidable _)
theorem Dn {s:ByteArray} (h:Aq s):Cu s=true:=by simp[Cu,h]
theorem Cq {s:ByteArray} (h:¬ Aq s):Cu s=false:=by simp[Cu,h]
def Cw (b:Bool):ByteArray:=if b then ⟨#[49]⟩ else ⟨#[48]⟩
theorem Db (s:ByteArray) (w:World) (hs:s.size<=9223372036854775807):Calls Tryz.prog 19 #[.string s] w fun e w'=>e=.returned (.bool (Cu s))/\w=w':=by
 by_cases h1:s.size<1
 ·rw[Cq (fun h=>by have:=h.1;omega)];have d1:decide ((s.size:Int)<1)=true:=by simp;omega
  go_enter Tryz.func19,Tryz.ntmps19;go_wp2;go_ret;exact⟨rfl,rfl⟩
 ·have d1:decide ((s.size:Int)<1)=false:=by simp;omega
  by_cases h2:60<s.size
  ·rw[Cq (fun h=>by have:=h.2.1;omega)];have d2:decide ((60:Int)<s.size)=true:=by simp;omega
   go_enter Tryz.func19,Tryz.ntmps19;go_wp2;go_ret;exact⟨rfl,rfl⟩
  ·have d2:decide ((60:Int)<s.size)=false:=by simp;omega
   go_enter Tryz.func19,Tryz.ntmps19;go_wp2
   go_loopw [3] (fun i wr=>∃ k:Nat,k<=s.size/\i=.int .i64 k/\Hd (∀ j,(h:j<s.size)->j<k->33<=s[j].toNat/\s[j].toNat<=126)/\w=wr) (fun i _=>s.size-(intOf i).toNat)
   case atStart=>exact⟨0,Nat.zero_le _,rfl,fun j _ hj=>by omega,rfl⟩
   case round=>
    obtain⟨k,hk,rfl,HA,rfl⟩:=hrel
    by_cases hlt:k<s.size
    ·by_cases c1:s[k].toNat<33
     ·(have e1:decide ((s[k].toNat:Int)<33)=true:=by simp;omega);have HF:Hd (Cu s=false):=Cq (fun h=>by have:=h.2.2 k hlt;omega);clear c1;go_wp2;go_ret;exact⟨by rw[HF.o];rfl,rfl⟩
     ·have e1:decide ((s[k].toNat:Int)<33)=false:=by simp;omega
      by_cases c2:126<s[k].toNat
      ·(have e2:decide ((126:Int)<s[k].toNat)=true:=by simp;omega);have HF:Hd (Cu s=false):=Cq (fun h=>by have:=h.2.2 k hlt;omega);clear c1 c2;go_wp2;go_ret;exact⟨by rw[HF.o];rfl,rfl⟩
      ·have e2:decide ((126:Int)<s[k].toNat)=false:=by simp;omega
       have HB:Hd (∀ j,(h:j<s.size)->j<k+1->33<=s[j].toNat/\s[j].toNat<=126):=fun j h hj=>by
        rcases Nat.lt_or_ge j k with h'|h'
        ·exact HA.o j h h'
        ·(obtain rfl:j=k:=by omega);omega
       clear c1 c2;go_wp2;go_roundw
       case rel=>exact⟨k+1,by omega,by go_num,HB,by first|trivial|rfl⟩
       case measure=>simp[intOf];omega
    ·have HF:Hd (Cu s=true):=Dn ⟨by omega,by omega,fun j h=>HA.o j h (by omega)⟩;go_wp2;go_ret;exact⟨by rw[HF.o];rfl,rfl⟩
theorem Cy (s:ByteArray) (w:World) (hs:s.size<=9223372036854775807):Calls Tryz.prog 30 #[.string s] w fun e w'=>e=.returned (.bool (Cu s))/\w=w':=by
 by_cases h1:s.size<1
 ·rw[Cq (fun h=>by have:=h.1;omega)];have d1:decide ((s.size:Int)<1)=true:=by simp;omega
  go_enter Tryz.func30,Tryz.ntmps30;go_wp2;go_ret;exact⟨rfl,rfl⟩
 ·have d1:decide ((s.size:Int)<1)=false:=by simp;omega
  by_cases h2:60<s.size
  ·rw[Cq (fun h=>by have:=h.2.1;omega)];have d2:decide ((60:Int)<s.size)=true:=by simp;omega
   go_enter Tryz.func30,Tryz.ntmps30;go_wp2;go_ret;exact⟨rfl,rfl⟩
  ·have d2:decide ((60:Int)<s.size)=false:=by simp;omega
   go_enter Tryz.func30,Tryz.ntmps30;go_wp2
   go_loopw [14] (fun i wr=>∃ k:Nat,k<=s.size/\i=.int .i64 k/\Hd (∀ j,(h:j<s.size)->j<k->33<=s[j].toNat/\s[j].toNat<=126)/\w=wr) (fun i _=>s.size-(intOf i).toNat)
   case atStart=>exact⟨0,Nat.zero_le _,rfl,fun j _ hj=>by omega,rfl⟩
   case round=>
    obtain⟨k,hk,rfl,HA,rfl⟩:=hrel
    by_cases hlt:k<s.size
    ·by_cases c1:s[k].toNat<33
     ·(have e1:decide ((s[k].toNat:Int)<33)=true:=by simp;omega);have HF:Hd (Cu s=false):=Cq (fun h=>by have:=h.2.2 k hlt;omega);clear c1;go_wp2;go_ret;exact⟨by rw[HF.o];rfl,rfl⟩
     ·have e1:decide ((s[k].toNat:Int)<33)=false:=by simp;omega
      by_cases c2:126<s[k].toNat
      ·(have e2:decide ((126:Int)<s[k].toNat)=true:=by simp;omega);have HF:Hd (Cu s=false):=Cq (fun h=>by have:=h.2.2 k hlt;omega);clear c1 c2;go_wp2;go_ret;exact⟨by rw[HF.o];rfl,rfl⟩
      ·have e2:decide ((126:Int)<s[k].toNat)=false:=by simp;omega
       have HB:Hd (∀ j,(h:j<s.size)->j<k+1->33<=s[j].toNat/\s[j].toNat<=126):=fun j h hj=>by
        rcases Nat.lt_or_ge j k with h'|h'
        ·exact HA.o j h h'
        ·(obtain rfl:j=k:=by omega);omega
       clear c1 c2;go_wp2;go_roundw
       case rel=>exact⟨k+1,by omega,by go_num,HB,by first|trivial|rfl⟩
       case measure=>simp[intOf];omega
    ·have HF:Hd (Cu s=true):=Dn ⟨by omega,by omega,fun j h=>HA.o j h (by omega)⟩;go_wp2;go_ret;exact⟨by rw[HF.o];rfl,rfl⟩
theorem Sk (b:Bool) (w:World):Calls Tryz.prog 108 #[.bool b] w fun e w'=>e=.returned (.string (Cw b))/\w=w':=by
 cases b
 all_goals
  go_enter Tryz.func108,Tryz.ntmps108;go_wp2;go_ret;exact⟨rfl,rfl⟩
theorem Km (b:Bool) (w:World):Calls Tryz.prog 91 #[.bool b] w fun e w'=>e=.returned (.string (Cw b))/\w=w':=by
 cases b
 all_goals
  go_enter Tryz.func91,Tryz.ntmps91;go_wp2;go_ret;exact⟨rfl,rfl⟩
def putsOf:List Int:=[0,1,1,1,1,1,1,2,2,0,0,0,1,1,0,0]
theorem l2Takes_1 (w:World):Calls Tryz.prog 143 #[.int .i64 1] w fun e w'=>e=.returned (.tuple #[.int .i64 0,.int .i64 1])/\w=w':=by
 go_enter Tryz.func143,Tryz.ntmps143
 go_wp2
 go_ret2
 exact⟨rfl,rfl⟩
theorem l2Takes_2 (w:World):Calls Tryz.prog 143 #[.int .i64 2] w fun e w'=>e=.returned (.tuple #[.int .i64 2,.int .i64 1])/\w=w':=by
 go_enter Tryz.func143,Tryz.ntmps143
 go_wp2
 go_ret2
 exact⟨rfl,rfl⟩
theorem l2Takes_3 (w:World):Calls Tryz.prog 143 #[.int .i64 3] w fun e w'=>e=.returned (.tuple #[.int .i64 1,.int .i64 1])/\w=w':=by
 go_enter Tryz.func143,Tryz.ntmps143
 go_wp2
 go_ret2
 exact⟨rfl,rfl⟩
theorem l2Takes_4 (w:World):Calls Tryz.prog 143 #[.int .i64 4] w fun e w'=>e=.returned (.tuple #[.int .i64 1,.int .i64 1])/\w=w':=by
 go_enter Tryz.func143,Tryz.ntmps143
 go_wp2
 go_ret2
 exact⟨rfl,rfl⟩
theorem l2Takes_5 (w:World):Calls Tryz.prog 143 #[.int .i64 5] w fun e w'=>e=.returned (.tuple #[.int .i64 1,.int .i64 1])/\w=w':=by
 go_enter Tryz.func143,Tryz.ntmps143
 go_wp2
 go_ret2
 exact⟨rfl,rfl⟩
theorem l2Takes_6 (w:World):Calls Tryz.prog 143 #[.int .i64 6] w fun e w'=>e=.returned (.tuple #[.int .i64 2,.int .i64 1])/\w=w':=by
 go_enter Tryz.func143,Tryz.ntmps143
 go_wp2
 go_ret2
 exact⟨rfl,rfl⟩
theorem l2Takes_7 (w:World):Calls Tryz.prog 143 #[.int .i64 7] w fun e w'=>e=.returned (.tuple #[.int .i64 1,.int .i64 2])/\w=w':=by
 go_enter Tryz.func143,Tryz.ntmps143
 go_wp2
 go_ret2
 exact⟨rfl,rfl⟩
theorem l2Takes_8 (w:World):Calls Tryz.prog 143 #[.int .i64 8] w fun e w'=>e=.returned (.tuple #[.int .i64 2,.int .i64 2])/\w=w':=by
 go_enter Tryz.func143,Tryz.ntmps143
 go_wp2
 go_ret2
 exact⟨rfl,rfl⟩
theorem l2Takes_9 (w:World):Calls Tryz.prog 143 #[.int .i64 9] w fun e w'=>e=.returned (.tuple #[.int .i64 1,.int .i64 0])/\w=w':=by
 go_enter Tryz.func143,Tryz.ntmps143
 go_wp2
 go_ret2
 exact⟨rfl,rfl⟩
theorem l2Takes_10 (w:World):Calls Tryz.prog 143 #[.int .i64 10] w fun e w'=>e=.returned (.tuple #[.int .i64 0,.int .i64 0])/\w=w':=by
 go_enter Tryz.func143,Tryz.ntmps143
 go_wp2
 go_ret2
 exact⟨rfl,rfl⟩
theorem l2Takes_11 (w:World):Calls Tryz.prog 143 #[.int .i64 11] w fun e w'=>e=.returned (.tuple #[.int .i64 1,.int .i64 0])/\w=w':=by
 go_enter Tryz.func143,Tryz.ntmps143
 go_wp2
 go_ret2
 exact⟨rfl,rfl⟩
theorem l2Takes_12 (w:World):Calls Tryz.prog 143 #[.int .i64 12] w fun e w'=>e=.returned (.tuple #[.int .i64 1,.int .i64 1])/\w=w':=by
 go_enter Tryz.func143,Tryz.ntmps143
 go_wp2
 go_ret2
 exact⟨rfl,rfl⟩
theorem l2Takes_13 (w:World):Calls Tryz.prog 143 #[.int .i64 13] w fun e w'=>e=.returned (.tuple #[.int .i64 1,.int .i64 1])/\w=w':=by
 go_enter Tryz.func143,Tryz.ntmps143
 go_wp2
 go_ret2
 exact⟨rfl,rfl⟩
theorem l2Takes_14 (w:World):Calls Tryz.prog 143 #[.int .i64 14] w fun e w'=>e=.returned (.tuple #[.int .i64 1,.int .i64 0])/\w=w':=by
 go_enter Tryz.func143,Tryz.ntmps143
 go_wp2
 go_ret2
 exact⟨rfl,rfl⟩
theorem l2Takes_15 (w:World):Calls Tryz.prog 143 #[.int .i64 15] w fun e w'=>e=.returned (.tuple #[.int .i64 1,.int .i64 0])/\w=w':=by
 go_enter Tryz.func143,Tryz.ntmps143
 go_wp2
 go_ret2
 exact⟨rfl,rfl⟩
theorem l2Takes_in (o:Nat) (w:World) (h1:1<=o) (h2:o<=15):Calls Tryz.prog 143 #[.int .i64 o] w fun e w'=>e=.returned (.tuple #[.int .i64 (Fo.getD o 0),.int .i64 (putsOf.getD o 0)])/\w=w':=by
 rcases (show o=1\/o=2\/o=3\/o=4\/o=5\/o=6\/o=7\/o=8\/o=9\/o=10\/o=11\/o=12\/o=13\/o=14\/o=15 from by omega) with rfl|rfl|rfl|rfl|rfl|rfl|rfl|rfl|rfl|rfl|rfl|rfl|rfl|rfl|rfl
 ·exact l2Takes_1 w
 ·exact l2Takes_2 w
 ·exact l2Takes_3 w
 ·exact l2Takes_4 w
 ·exact l2Takes_5 w
 ·exact l2Takes_6 w
 ·exact l2Takes_7 w
 ·exact l2Takes_8 w
 ·exact l2Takes_9 w
 ·exact l2Takes_10 w
 ·exact l2Takes_11 w
 ·exact l2Takes_12 w
 ·exact l2Takes_13 w
 ·exact l2Takes_14 w
 ·exact l2Takes_15 w
def Ds (pl:Int) (sk:Value) (st lk:Int):Value:=.agg #[.int .i64 pl,sk,.int .i64 st,.int .i64 lk,.bool false,.int .i64 0,.string ⟨#[]⟩,.bool false,.string ⟨#[]⟩,.bool false]
def Ct (pl:Int) (sk:Value) (st lk c:Int) (t:ByteArray):Value:=.agg #[.int .i64 pl,sk,.int .i64 st,.int .i64 lk,.bool true,.int .i64 c,.string t,.bool false,.string ⟨#[]⟩,.bool false]
def waitV (pl:Int) (sk:Value) (st lk:Int) (ask:Bool) (nm:ByteArray):Value:=.agg #[.int .i64 pl,sk,.int .i64 st,.int .i64 lk,.bool false,.int .i64 0,.string ⟨#[]⟩,.bool ask,.string nm,.bool true]
def Ao (ov:Bool) (c:Int) (t:ByteArray) (ask:Bool) (nm:ByteArray) (st:Int):Value:=.agg #[.bool ov,.int .i64 c,.string t,.bool ask,.string nm,.int .i64 st]
theorem Ew (pl:Int) (a:Option Addr) (n cap:Nat) (st lk c:Int) (t:ByteArray) (w:World) :
  Calls Tryz.prog 142 #[Ds pl (.slice a n cap) st lk,.int .i64 c,.string t] w fun e w'=>e=.returned (Ct pl (.slice a n cap) st lk c t)/\Below w.heap.size w w':=by
 unfold Ds
 go_enter Tryz.func142,Tryz.ntmps142
 go_wp2
 exact bR (v:=Ct pl (.slice a n cap) st lk c t) (by simp[results,Tryz.results142,go_sem,Ct]) rfl ⟨rfl,(aN _ _).alloc (by simp) _⟩
end Go.Proofs.YtjlnkepkkdefdaaGreatDoor
