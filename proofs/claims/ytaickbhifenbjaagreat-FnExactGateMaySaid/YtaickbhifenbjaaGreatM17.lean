import Derived.Test.YtaickbhifenbjaaGreatM01
import Derived.Test.YtaickbhifenbjaaGreatM06
import Derived.Test.YtaickbhifenbjaaGreatM13
import Derived.Test.YtaickbhifenbjaaGreatM08
import Derived.Test.YtaickbhifenbjaaGreatM12
import Derived.Deep.QuietTactic
import Derived.BigQuiet
set_option maxHeartbeats 4000000
namespace Go.Proofs.YtaickbhifenbjaaGreat
open Go.RowKit
def qX (s:ByteArray):Int:=if Gate.zaa s=true then Gate.zfa s else -1
theorem zjR (k:Nat) (h:k<=7):(10:Int) ^ k<=10000000:=by
 have:k=0 \/ k=1 \/ k=2 \/ k=3 \/ k=4 \/ k=5 \/ k=6 \/ k=7:=by omega
 rcases this with h | h | h | h | h | h | h | h <;> subst h <;> decide
theorem zjq (s:ByteArray) (w:World) (h1:1<=s.size) (h7:s.size<=7) (hz:s.size<=1 \/ ¬ (s[0].toNat:Int)=48) :
 Calls Tryz.prog 166 #[.string s] w fun e w'=>e = .returned (.int .i64 (qX s))/\w'=w:=by
 have HF:Hid (Gate.zaa s=Gate.zaP s):=Gate.zju s h1 h7 hz
 rcases (show (s.size<=1) \/ (1 < s.size/\¬ (s[0].toNat:Int)=48) by rcases hz with h | h <;> omega) with hone | ⟨hmore,hz0⟩
 all_goals
  clear hz
  try have hz1:((s[0].toNat:Int) == 48)=false:=by simpa using hz0
  try clear hz0
  go_enter Tryz.func166,Tryz.ntmps166
  go_wp2_with (go_at_call 47;refine (zaT _ _ _ _ (by omega) (by omega)).mono ?_;rintro e w' ⟨rfl,rfl⟩)
  go_loop [3,4] (fun n i=>∃ k:Nat,k<=s.size/\i = .int .i64 k/\(s.data.toList.take k).all Gate.digit=true/\n = .int .i64 (Gate.dec (s.data.toList.take k))) (fun _ i=>s.size - (intOf i).toNat)
  case atStart=>exact ⟨0,Nat.zero_le _,rfl,rfl,rfl⟩
  case round =>
   obtain ⟨k,hk,rfl,hall,rfl⟩:=hrel
   have hlen:(s.data.toList.take k).length<=k:=List.length_take_le _ _
   obtain ⟨hd0,hd1⟩:=Gate.zeq _ hall k hlen
   by_cases hlt:k < s.size
   ·have hp:=zjR k (by omega)
    have hd2:Gate.dec (s.data.toList.take k) < 10000000:=by omega
    clear hp hd1 hlen
    have HS:Hid ((s.data.toList.take (k+1)).all Gate.digit=(true && Gate.digit s[k])):=by rw [Gate.zaE _ s k hlt,hall];rfl
    have HD:Hid (Gate.dec (s.data.toList.take (k+1))=Gate.dec (s.data.toList.take k) * 10+((s[k].toNat:Int) - 48)):=by rw [Gate.zgn s k hlt];exact Gate.zk6 _ _
    have HN:Hid (Gate.digit s[k]=false->Gate.zaP s=false):=fun h=>Gate.zbJ Gate.digit s k hlt h
    clear hall
    by_cases h48:(s[k].toNat:Int) < 48
    ·have HC:Hid (Gate.digit s[k]=false):=by simp [Gate.digit,Hid];omega
     go_wp2
     go_ret
     exact ⟨zm (by unfold qX;rw [HF.out,HN.out HC.out];rfl),rfl⟩
    ·by_cases h57:57 < (s[k].toNat:Int)
     ·have HC:Hid (Gate.digit s[k]=false):=by simp [Gate.digit,Hid];omega
      go_wp2
      go_ret
      exact ⟨zm (by unfold qX;rw [HF.out,HN.out HC.out];rfl),rfl⟩
     ·have HC:Hid (Gate.digit s[k]=true):=by simp [Gate.digit,Hid];omega
      go_wp2
      go_round
      case rel=>exact ⟨k+1,by omega,by go_num,by rw [HS.out,HC.out];rfl,by rw [HD.out];go_num⟩
      case measure=>simp [intOf];omega
   ·have HA:Hid (Gate.zaP s=true):=by unfold Gate.zaP Hid;rw [<- Gate.zan s k (by omega)];exact hall
    have HB:Hid (Gate.dec (s.data.toList.take k)=Gate.zfa s):=by rw [Gate.zan s k (by omega)];rfl
    clear hall hd0 hd1 hlen
    go_wp2
    go_ret
    exact ⟨zm (by unfold qX;rw [HF.out,HA.out,HB.out];rfl),rfl⟩
theorem zdi (s:ByteArray) (w:World) (hs:s.size<=maxLen) :
 Calls Tryz.prog 166 #[.string s] w fun e w'=>e = .returned (.int .i64 (qX s))/\w'=w:=by
 unfold maxLen at hs
 by_cases h17:1<=s.size/\s.size<=7
 ·obtain ⟨h1,h7⟩:=h17
  by_cases hz:1 < s.size/\(s[0].toNat:Int)=48
  ·obtain ⟨hm,hz0⟩:=hz
   have HF:Hid (qX s=-1):=by unfold qX Hid;rw [Gate.zeI s hm hz0];rfl
   have hz1:((s[0].toNat:Int) == 48)=true:=by simpa using hz0
   clear hz0
   go_enter Tryz.func166,Tryz.ntmps166
   go_wp2_with (go_at_call 47;refine (zaT _ _ _ _ (by omega) (by omega)).mono ?_;rintro e w' ⟨rfl,rfl⟩)
   go_ret
   exact ⟨zm HF.out.symm,rfl⟩
  ·exact zjq s w h1 h7 (by omega)
 ·have HF:Hid (qX s=-1):=by unfold qX Hid;rw [Gate.zdH s h17];rfl
  go_enter Tryz.func166,Tryz.ntmps166
  go_wp2_with (go_at_call 47;refine (zcB _ _ _ _ (by omega)).mono ?_;rintro e w' ⟨rfl,rfl⟩)
  go_ret
  exact ⟨zm HF.out.symm,rfl⟩
theorem zhA {a b:Int} {p q:Bool} (h:a=b) (h2:p=q):Ending.returned (.tuple #[.int .i64 a,.bool p]) = .returned (.tuple #[.int .i64 b,.bool q]):=by rw [h,h2]
def zas (s:ByteArray):Int:=if Gate.zaa s=true then Gate.zfa s else 0
theorem ziI (s:ByteArray) (w:World) (h1:1<=s.size) (h7:s.size<=7) (hz:s.size<=1 \/ ¬ (s[0].toNat:Int)=48) :
 Calls Tryz.prog 219 #[.string s] w fun e w'=>e = .returned (.tuple #[.int .i64 (zas s),.bool (Gate.zaa s)])/\w'=w:=by
 have HF:Hid (Gate.zaa s=Gate.zaP s):=Gate.zju s h1 h7 hz
 have hne:s.toList.isEmpty=false:=by rw [Gate.zq];exact decide_eq_false (by omega)
 rcases (show (¬ (s[0].toNat:Int)=48) \/ (s.size<=1/\(s[0].toNat:Int)=48) by rcases hz with h | h <;> omega) with hz0 | ⟨hone,hz0⟩
 all_goals
  clear hz
  first
   | (have hz1:((s[0].toNat:Int) == 48)=true:=by simpa using hz0)
   | (have hz1:((s[0].toNat:Int) == 48)=false:=by simpa using hz0)
  clear hz0
  go_enter Tryz.func219,Tryz.ntmps219
  go_wp2
  go_loop [4,25] (fun n i=>∃ k:Nat,k<=s.size/\i = .int .i64 k/\(s.data.toList.take k).all Gate.digit=true/\n = .int .i64 (Gate.dec (s.data.toList.take k))) (fun _ i=>s.size - (intOf i).toNat)
  case atStart=>exact ⟨0,Nat.zero_le _,rfl,rfl,rfl⟩
  case round =>
   obtain ⟨k,hk,rfl,hall,rfl⟩:=hrel
   have hlen:(s.data.toList.take k).length<=k:=List.length_take_le _ _
   obtain ⟨hd0,hd1⟩:=Gate.zeq _ hall k hlen
   by_cases hlt:k < s.size
   ·have hp:=zjR k (by omega)
    have hd2:Gate.dec (s.data.toList.take k) < 10000000:=by omega
    clear hp hd1 hlen
    have HS:Hid ((s.data.toList.take (k+1)).all Gate.digit=(true && Gate.digit s[k])):=by rw [Gate.zaE _ s k hlt,hall];rfl
    have HD:Hid (Gate.dec (s.data.toList.take (k+1))=Gate.dec (s.data.toList.take k) * 10+((s[k].toNat:Int) - 48)):=by rw [Gate.zgn s k hlt];exact Gate.zk6 _ _
    have HN:Hid (Gate.digit s[k]=false->Gate.zaP s=false):=fun h=>Gate.zbJ Gate.digit s k hlt h
    clear hall
    by_cases hd:48<=(s[k].toNat:Int)/\(s[k].toNat:Int)<=57
    ·have HC:Hid (Gate.digit s[k]=true):=by simp [Gate.digit,Hid];omega
     obtain ⟨h48,h57⟩:=hd
     go_wp2_with (go_at_call 202;refine (zgQ _ _ h48 h57).mono ?_;rintro e w' ⟨rfl,rfl⟩)
     go_round
     case rel=>exact ⟨k+1,by omega,by go_num,by rw [HS.out,HC.out];rfl,by rw [HD.out]⟩
     case measure=>simp [intOf];omega
    ·have HC:Hid (Gate.digit s[k]=false):=by simp [Gate.digit,Hid];omega
     have HDD:Hid (¬ (48<=(s[k].toNat:Int)/\(s[k].toNat:Int)<=57)):=hd
     clear hd
     go_wp2_with (go_at_call 202;refine (zco _ _ HDD.out).mono ?_;rintro e w' ⟨rfl,rfl⟩)
     go_ret2
     exact ⟨zhA (by unfold zas;rw [HF.out,HN.out HC.out];rfl) (by rw [HF.out,HN.out HC.out]),rfl⟩
   ·have HA:Hid (Gate.zaP s=true):=by unfold Gate.zaP Hid;rw [<- Gate.zan s k (by omega)];exact hall
    have HB:Hid (Gate.dec (s.data.toList.take k)=Gate.zfa s):=by rw [Gate.zan s k (by omega)];rfl
    clear hall hd0 hd1 hlen
    go_wp2
    go_ret2
    exact ⟨zhA (by unfold zas;rw [HF.out,HA.out,HB.out];rfl) (by rw [HF.out,HA.out]),rfl⟩
theorem zcN (s:ByteArray) (w:World) (hs:s.size<=maxLen) :
 Calls Tryz.prog 219 #[.string s] w fun e w'=>e = .returned (.tuple #[.int .i64 (zas s),.bool (Gate.zaa s)])/\w'=w:=by
 unfold maxLen at hs
 by_cases h0:s.size=0
 ·rw [Gate.zcM s h0]
  go_enter Tryz.func219,Tryz.ntmps219
  go_wp2
  go_ret2
  exact ⟨rfl,rfl⟩
 have hne:s.toList.isEmpty=false:=by rw [Gate.zq];simp [h0]
 by_cases h7:s.size<=7
 ·by_cases hz:1 < s.size/\(s[0].toNat:Int)=48
  ·obtain ⟨hm,hz0⟩:=hz
   have HF:Hid (Gate.zaa s=false):=Gate.zeI s hm hz0
   have hz1:((s[0].toNat:Int) == 48)=true:=by simpa using hz0
   clear hz0
   go_enter Tryz.func219,Tryz.ntmps219
   go_wp2
   go_ret2
   exact ⟨zhA (by unfold zas;rw [HF.out];rfl) HF.out.symm,rfl⟩
  ·exact ziI s w (by omega) h7 (by omega)
 ·have HF:Hid (Gate.zaa s=false):=Gate.zdH s (by omega)
  go_enter Tryz.func219,Tryz.ntmps219
  go_wp2
  go_ret2
  exact ⟨zhA (by unfold zas;rw [HF.out];rfl) HF.out.symm,rfl⟩
namespace Gate
def yN (f:Fld) (v res:ByteArray):Int:=if f.kd=1/\f.wg=res then zas v else 0
def zdm (fs:List Fld) (vs:List ByteArray) (res:ByteArray):Nat->Int
 | 0=>0
 | k+1=>zdm fs vs res k+yN (fs.getD k zbm) (vs.getD k ByteArray.empty) res
def qY (ss:List Shp) (o:Ob) (res:ByteArray):Int :=
 if zy ss o=true/\res.toList.isEmpty=false then (if res=o.kd then 1 else 0)+zdm (shapeOf ss o.kd).fs o.vs res (shapeOf ss o.kd).fs.length else 0
theorem zdF (s:ByteArray):0<=zas s/\zas s<=10000000:=by
 unfold zas
 split
 ·rename_i h
  refine ⟨zcG s h,?_⟩
  unfold zaa at h
  simp only [Bool.and_eq_true,decide_eq_true_eq] at h
  have:=(zeq s.data.toList h.2 7 (by have:=h.1.1.2;simpa using this)).2
  unfold zfa
  omega
 ·omega
theorem zfv (f:Fld) (v res:ByteArray):0<=yN f v res/\yN f v res<=10000000:=by
 unfold yN
 split
 ·exact zdF v
 ·omega
theorem zcp (fs:List Fld) (vs:List ByteArray) (res:ByteArray):∀ k,0<=zdm fs vs res k/\zdm fs vs res k<=k * 10000000
 | 0=>by simp [zdm]
 | k+1=>by
  have h1:=zcp fs vs res k
  have h2:=zfv (fs.getD k zbm) (vs.getD k ByteArray.empty) res
  simp only [zdm]
  omega
theorem zeY (ss:List Shp) (o:Ob) (res:ByteArray) (h:o.vs.length<=1048576):0<=qY ss o res/\qY ss o res<=20000000000000:=by
 unfold qY
 split
 ·rename_i hc
  have hc1:=hc.1
  unfold zy at hc1
  simp only [Bool.and_eq_true,decide_eq_true_eq] at hc1
  have:=zcp (shapeOf ss o.kd).fs o.vs res (shapeOf ss o.kd).fs.length
  have h3:=hc1.2
  split <;> omega
 ·omega
theorem zm2 (fs:List Fld) (vs:List ByteArray) (res:ByteArray) (k:Nat) (h:k < fs.length) (h':k < vs.length):zdm fs vs res (k+1)=zdm fs vs res k+yN fs[k] vs[k] res:=by
 have e1:fs.getD k zbm=fs[k]:=by simp [List.getD,h]
 have e2:vs.getD k ByteArray.empty=vs[k]:=by simp [List.getD,h']
 simp only [zdm]
 rw [e1,e2]
end Gate
theorem zir {p:Prop} (h:p):Hid p:=h
theorem jd (w:World) (X Y:Array Value) (s t:TypeId):(∀ j,((w.alloc (.cells X s)).alloc (.cells Y t)).cell? ⟨w.heap.size,j,none⟩=X[j]?)/\∀ j,((w.alloc (.cells X s)).alloc (.cells Y t)).cell? ⟨w.heap.size+1,j,none⟩=Y[j]?:=by
 refine ⟨za (zl w X s) (by simp) ((Below.refl _ _).alloc (Nat.le_refl _) _),fun j=>?_⟩
 have h:=zl (w.alloc (.cells X s)) Y t j
 rw [World.size_alloc] at h
 exact h
theorem ziY (l:Lw) (la lb lc:Option Addr) (lca lcb lcc:Nat) (o:Ob) (oa oa':Option Addr) (ocap ocap':Nat) (res:ByteArray) (w:World) (hl:qp w l la lb lc) (_ho:qG w o oa oa') (hc:¬ (Gate.zy l.ss o=true/\res.toList.isEmpty=false)) :
 Calls Tryz.prog 213 #[.agg (l.cells la lb lc lca lcb lcc),.agg #[.string o.kd,.string o.nm,.string o.tm,.slice oa o.vs.length ocap,.bool o.en,.slice oa' o.hs.length ocap',.int .i64 o.vr],.string res] w fun e w'=>e = .returned (.int .i64 (Gate.qY l.ss o res))/\Below w.heap.size w w':=by
 have HL:Hid (qp w l la lb lc):=hl
 have HW:Hid (Gate.qY l.ss o res=0):=by unfold Hid Gate.qY;rw [if_neg hc]
 have HC:Hid (¬ (Gate.zy l.ss o=true/\res.toList.isEmpty=false)):=hc
 clear hl hc
 unfold Lw.cells
 go_enter Tryz.func213,Tryz.ntmps213
 go_wp2_with fail
 refine (qL _ _ l.ss o.kd _ (HL.out.ss.mono (zC _ _ _))).mono ?_
 rintro e w1 ⟨fa,fcap,rfl,hfl,hb⟩
 obtain ⟨hX0,hY0⟩:=jd w #[.slice la l.ss.length lca,.slice lb l.ms.length lcb,.slice lc l.ts.length lcc] #[.string o.kd,.string o.nm,.string o.tm,.slice oa o.vs.length ocap,.bool o.en,.slice oa' o.hs.length ocap',.int .i64 o.vr] 43 121
 have hX1:=za hX0 (by simp;omega) hb
 have hY1:=za hY0 (by simp) hb
 have hz1:w.heap.size+1 < w1.heap.size:=by have:=hb.size;simp at this;omega
 have HB1:Hid (Below w.heap.size w w1):=(zC w _ _).trans (hb.mono (by simp;omega))
 clear hfl hb hX0 hY0
 by_cases hk:Gate.zH l.ss o.kd=true
 rotate_left
 ·have hk':Gate.zH l.ss o.kd=false:=by simpa using hk
  rw [hk']
  clear hk hk'
  go_wp2_with fail
  go_ret
  exact ⟨zm HW.out.symm,HB1.out.alloc HB1.out.size _⟩
 by_cases he:res.toList.isEmpty=true
 ·have HK:Hid (Gate.zH l.ss o.kd=true):=hk
  rw [HK.out]
  clear hk
  go_wp2_with fail
  go_ret
  exact ⟨zm HW.out.symm,HB1.out.alloc HB1.out.size _⟩
 ·have he':res.toList.isEmpty=false:=by simpa using he
  have hne:((o.vs.length:Int) != ((Gate.shapeOf l.ss o.kd).fs.length:Int))=true:=by
   have h:=HC.out
   unfold Gate.zy at h
   rw [hk] at h
   simp only [Bool.true_and,decide_eq_true_eq] at h
   have h2:¬ o.vs.length=(Gate.shapeOf l.ss o.kd).fs.length:=fun e=>h ⟨e,he'⟩
   simp;omega
  have HK:Hid (Gate.zH l.ss o.kd=true):=hk
  rw [HK.out]
  clear he hk
  go_wp2_with fail
  go_ret
  exact ⟨zm HW.out.symm,HB1.out.alloc HB1.out.size _⟩
theorem ziS (l:Lw) (la lb lc:Option Addr) (lca lcb lcc:Nat) (o:Ob) (oa oa':Option Addr) (ocap ocap':Nat) (res:ByteArray) (w:World) (hl:qp w l la lb lc) (ho:qG w o oa oa') (hc:Gate.zy l.ss o=true) (he:res.toList.isEmpty=false) (hlen:o.vs.length<=1048576) :
 Calls Tryz.prog 213 #[.agg (l.cells la lb lc lca lcb lcc),.agg #[.string o.kd,.string o.nm,.string o.tm,.slice oa o.vs.length ocap,.bool o.en,.slice oa' o.hs.length ocap',.int .i64 o.vr],.string res] w fun e w'=>e = .returned (.int .i64 (Gate.qY l.ss o res))/\Below w.heap.size w w':=by
 have HL:Hid (qp w l la lb lc):=hl
 have HO:Hid (qG w o oa oa'):=ho
 have HW:Hid (Gate.qY l.ss o res=(if res=o.kd then 1 else 0)+Gate.zdm (Gate.shapeOf l.ss o.kd).fs o.vs res (Gate.shapeOf l.ss o.kd).fs.length):=by unfold Hid Gate.qY;rw [if_pos ⟨hc,he⟩]
 have HK:Hid (Gate.zH l.ss o.kd=true/\o.vs.length=(Gate.shapeOf l.ss o.kd).fs.length):=by unfold Gate.zy at hc;unfold Hid;simpa using hc
 have HN:Hid (o.vs.length<=1048576):=hlen
 clear hl ho hc hlen
 unfold Lw.cells
 go_enter Tryz.func213,Tryz.ntmps213
 go_wp2_with fail
 refine (qL _ _ l.ss o.kd _ (HL.out.ss.mono (zC _ _ _))).mono ?_
 rintro e w1 ⟨fa,fcap,rfl,hfl,hb⟩
 obtain ⟨hX0,hY0⟩:=jd w #[.slice la l.ss.length lca,.slice lb l.ms.length lcb,.slice lc l.ts.length lcc] #[.string o.kd,.string o.nm,.string o.tm,.slice oa o.vs.length ocap,.bool o.en,.slice oa' o.hs.length ocap',.int .i64 o.vr] 43 121
 have hY1:=za hY0 (by simp) hb
 have hz1:w.heap.size+1 < w1.heap.size:=by have:=hb.size;simp at this;omega
 have HB1:Hid (Below w.heap.size w w1):=(zC w _ _).trans (hb.mono (by simp;omega))
 have HFl:Hid (zR w1 fa (Gate.shapeOf l.ss o.kd).fs):=hfl.mono hb
 clear hfl hb hX0 hY0
 rw [HK.out.1]
 obtain ⟨S,HS⟩:∃ S,Hid (S=Gate.shapeOf l.ss o.kd):=⟨_,rfl⟩
 rw [<- HS.out] at HFl HK HW ⊢
 have hne:((o.vs.length:Int) != (S.fs.length:Int))=false:=by have:=HK.out.2;simp [this]
 obtain ⟨n0,hn0⟩:∃ n0:Int,n0=if res=o.kd then 1 else 0:=⟨_,rfl⟩
 have hb0:0<=n0/\n0<=1:=by rw [hn0];split <;> omega
 rw [<- hn0] at HW
 have HN0:Hid (n0=if res=o.kd then 1 else 0):=hn0
 clear hn0
 by_cases hk:res=o.kd
 all_goals (
  first
  | (have hq:(res.toList == o.kd.toList)=true:=by rw [Gate.beq_toList];simpa using hk)
  | (have hq:(res.toList == o.kd.toList)=false:=by rw [Gate.beq_toList];simpa using hk)
  have HKE:=zir hk
  clear hk
  go_wp2_with fail
  go_loopw [9,44] (fun nv iv wr=>∃ (k:Nat) (s:Int),k<=S.fs.length/\iv = .int .i64 k/\nv = .int .i64 s/\Hid (s=n0+Gate.zdm S.fs o.vs res k/\Below w1.heap.size w1 wr)) (fun _ iv _=>S.fs.length - (intOf iv).toNat)
  case atStart=>exact ⟨0,n0,Nat.zero_le _,rfl,by have:=HN0.out;first | (rw [if_pos HKE.out] at this;rw [this]) | (rw [if_neg HKE.out] at this;rw [this]),by simp [Gate.zdm],(Below.refl _ _).alloc (Nat.le_refl _) _⟩
  case round =>
   obtain ⟨k,s,hk,rfl,rfl,HQ⟩:=hrel
   have hsb:0<=s/\s<=1+k * 10000000:=by have h1:=HQ.out.1;have h2:=Gate.zcp S.fs o.vs res k;omega
   have hkn:k<=1048576:=by have:=HN.out;have:=HK.out.2;omega
   by_cases hlt:k < S.fs.length
   ·obtain ⟨b,off,rfl,hb,hr⟩:=HFl.out.rows (by intro e;rw [e] at hlt;simp at hlt)
    obtain ⟨wa,wcap,hf⟩:=hr k hlt
    obtain ⟨c0,c1,c2,c3,c4,c5,c6,c7,c8,c9,c10⟩:=(hf.mono hb HQ.out.2).load
    have hlv:k < o.vs.length:=by have:=HK.out.2;omega
    have hltI:(k:Int) < (S.fs.length:Int):=by omega
    have hlvI:(k:Int) < (o.vs.length:Int):=by omega
    obtain ⟨vb,voff,rfl,hvb,hvc0⟩:=HO.out.vals.cells (by intro e;rw [e] at hlv;simp at hlv)
    have hvc:=((HB1.out.trans (HQ.out.2.mono HB1.out.size)).cell (p:=⟨vb,voff+k,none⟩) hvb).trans (hvc0 k hlv)
    have hvb':vb < wr.heap.size:=Nat.lt_of_lt_of_le hvb (HB1.out.trans (HQ.out.2.mono HB1.out.size)).size
    have hb':b < wr.heap.size:=Nat.lt_of_lt_of_le hb HQ.out.2.size
    have hY:=za hY1 hz1 HQ.out.2
    have hz:w.heap.size+1 < wr.heap.size:=Nat.lt_of_lt_of_le hz1 HQ.out.2.size
    have HSt:=Gate.zm2 S.fs o.vs res k hlt hlv
    have HSt:Hid (Gate.zdm S.fs o.vs res (k+1)=Gate.zdm S.fs o.vs res k+Gate.yN S.fs[k] o.vs[k] res):=HSt
    have HVs:Hid (o.vs[k].size<=maxLen):=HO.out.vals.small _ (List.getElem_mem _)
    have HBo:Hid (∀ ob,Below w1.heap.size w1 (wr.alloc ob)):=fun ob=>HQ.out.2.alloc HQ.out.2.size _
    clear hf hr hvc0
    by_cases h1:S.fs[k].kd=1
    ·have e1:(S.fs[k].kd == 1)=true:=by simpa using h1
     by_cases h2:S.fs[k].wg=res
     ·have e2:(S.fs[k].wg.toList == res.toList)=true:=by rw [Gate.beq_toList];simpa using h2
      have HFw:Hid (Gate.yN S.fs[k] o.vs[k] res=zas o.vs[k]):=by unfold Hid Gate.yN;rw [if_pos ⟨h1,h2⟩]
      have hdb:=Gate.zdF o.vs[k]
      clear h1 h2
      go_wp2_with fail
      refine (zcN o.vs[k] _ HVs.out).mono ?_
      rintro e w2 ⟨rfl,rfl⟩
      go_wp2_with fail
      exact ⟨⟨k+1,s+zas o.vs[k],by omega,by go_num,by go_num,by rw [HSt.out,HFw.out,HQ.out.1];omega,HBo.out _⟩,zw hlt⟩
     ·have e2:(S.fs[k].wg.toList == res.toList)=false:=by rw [Gate.beq_toList];simpa using h2
      have HFw:Hid (Gate.yN S.fs[k] o.vs[k] res=0):=by unfold Hid Gate.yN;rw [if_neg (fun h=>h2 h.2)]
      clear h1 h2
      go_wp2_with fail
      exact ⟨⟨k+1,s,by omega,by go_num,rfl,by rw [HSt.out,HFw.out,HQ.out.1];omega,HBo.out _⟩,zw hlt⟩
    ·have e1:(S.fs[k].kd == 1)=false:=by simpa using h1
     have HFw:Hid (Gate.yN S.fs[k] o.vs[k] res=0):=by unfold Hid Gate.yN;rw [if_neg (fun h=>h1 h.1)]
     clear h1
     go_wp2_with fail
     exact ⟨⟨k+1,s,by omega,by go_num,rfl,by rw [HSt.out,HFw.out,HQ.out.1];omega,HBo.out _⟩,zw hlt⟩
   ·have e:k=S.fs.length:=by omega
    subst e
    have HE:Hid (Gate.qY l.ss o res=s):=by unfold Hid;rw [HW.out,HQ.out.1]
    clear hlt hk
    go_wp2_with fail
    go_ret
    exact ⟨zm HE.out.symm,HB1.out.trans (HQ.out.2.mono HB1.out.size)⟩)
end Go.Proofs.YtaickbhifenbjaaGreat
