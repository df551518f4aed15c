import Derived.Test.YtaickbhifenbjaaGreatM17
import Derived.Test.YtaickbhifenbjaaGreatM35
import Derived.Test.YtaickbhifenbjaaGreatM09
import Derived.Test.YtaickbhifenbjaaGreatM10
import Derived.Deep.RegionWith
import Derived.WideKeyEntry
import Derived.Test.YtaickbhifenbjaaGreatM34
set_option maxHeartbeats 4000000
namespace Go.Proofs.YtaickbhifenbjaaGreat
open Go.RowKit
theorem zgR (s:ByteArray):(0 < qX s/\zas s=qX s) \/ (¬ 0 < qX s/\zas s=0):=by
 unfold qX zas
 by_cases h:Gate.zaa s=true
 ·rw [if_pos h,if_pos h]
  have:=Gate.zcG s h
  omega
 ·rw [if_neg h,if_neg h]
  omega
theorem zjg (l:Lw) (la lb lc:Option Addr) (lca lcb lcc:Nat) (o:Ob) (oa oa':Option Addr) (ocap ocap':Nat) (res:ByteArray) (w:World) (hl:qp w l la lb lc) (ho:qG w o oa oa') (hc:¬ (Gate.zy l.ss o=true/\res.toList.isEmpty=false)) :
 Calls Tryz.prog 126 #[.agg (l.cells la lb lc lca lcb lcc),.agg #[.string o.kd,.string o.nm,.string o.tm,.slice oa o.vs.length ocap,.bool o.en,.slice oa' o.hs.length ocap',.int .i64 o.vr],.string res] w fun e w'=>e = .returned (.int .i64 (Gate.qY l.ss o res))/\Below w.heap.size w w':=by
 have HL:Hid (qp w l la lb lc):=hl
 have HO:Hid (qG w o oa oa'):=ho
 have HW:Hid (Gate.qY l.ss o res=0):=by unfold Hid Gate.qY;rw [if_neg hc]
 have HC:Hid (¬ (Gate.zy l.ss o=true/\res.toList.isEmpty=false)):=hc
 clear hl ho hc
 unfold Lw.cells
 by_cases hk:Gate.zy l.ss o=true
 ·have he:res.toList.isEmpty=true:=by
   cases h:res.toList.isEmpty with
   | true=>rfl
   | false=>exact absurd ⟨hk,h⟩ HC.out
  have HK:Hid (Gate.zy l.ss o=true):=hk
  clear hk
  go_enter Tryz.func126,Tryz.ntmps126
  go_wp2_with fail
  refine (jh _ _ l.ss o _ _ _ _ _ (HL.out.ss.mono (zC _ _ _)) (HO.out.mono (zC _ _ _)) HK.out).mono ?_
  rintro e w1 ⟨fa,fcap,rfl,hfl,hb⟩
  have HB1:Hid (Below w.heap.size w w1):=(zC w _ _).trans (hb.mono (by simp;omega))
  clear hfl hb
  go_wp2_with fail
  go_ret
  exact ⟨zm HW.out.symm,HB1.out⟩
 ·have HK:Hid (Gate.zy l.ss o=false):=by unfold Hid;simpa using hk
  clear hk
  go_enter Tryz.func126,Tryz.ntmps126
  go_wp2_with fail
  refine (zcI _ _ l.ss o _ _ _ _ _ (HL.out.ss.mono (zC _ _ _)) (HO.out.mono (zC _ _ _)) HK.out).mono ?_
  rintro e w1 ⟨v,rfl,hb⟩
  have HB1:Hid (Below w.heap.size w w1):=(zC w _ _).trans (hb.mono (by simp;omega))
  clear hb
  go_wp2_with fail
  go_ret
  exact ⟨zm HW.out.symm,HB1.out⟩
theorem zh4 (l:Lw) (la lb lc:Option Addr) (lca lcb lcc:Nat) (o:Ob) (oa oa':Option Addr) (ocap ocap':Nat) (res:ByteArray) (w:World) (hl:qp w l la lb lc) (ho:qG w o oa oa') (hc:Gate.zy l.ss o=true) (he:res.toList.isEmpty=false) (hlen:o.vs.length<=1048576) :
 Calls Tryz.prog 126 #[.agg (l.cells la lb lc lca lcb lcc),.agg #[.string o.kd,.string o.nm,.string o.tm,.slice oa o.vs.length ocap,.bool o.en,.slice oa' o.hs.length ocap',.int .i64 o.vr],.string res] w fun e w'=>e = .returned (.int .i64 (Gate.qY l.ss o res))/\Below w.heap.size w w':=by
 have HL:Hid (qp w l la lb lc):=hl
 have HO:Hid (qG w o oa oa'):=ho
 have HW:Hid (Gate.qY l.ss o res=(if res=o.kd then 1 else 0)+Gate.zdm (Gate.shapeOf l.ss o.kd).fs o.vs res (Gate.shapeOf l.ss o.kd).fs.length):=by unfold Hid Gate.qY;rw [if_pos ⟨hc,he⟩]
 have HC:Hid (Gate.zy l.ss o=true):=hc
 have HK:Hid (Gate.zH l.ss o.kd=true/\o.vs.length=(Gate.shapeOf l.ss o.kd).fs.length):=by unfold Gate.zy at hc;unfold Hid;simpa using hc
 have HN:Hid (o.vs.length<=1048576):=hlen
 clear hl ho hc hlen
 unfold Lw.cells
 go_enter Tryz.func126,Tryz.ntmps126
 go_wp2_with fail
 refine (jh _ _ l.ss o _ _ _ _ _ (HL.out.ss.mono (zC _ _ _)) (HO.out.mono (zC _ _ _)) HC.out).mono ?_
 rintro e w1 ⟨fa,fcap,rfl,hfl,hb⟩
 obtain ⟨hX0,hY0⟩:=jd w #[.slice la l.ss.length lca,.slice lb l.ms.length lcb,.slice lc l.ts.length lcc] #[.string o.kd,.string o.nm,.string o.tm,.slice oa o.vs.length ocap,.bool o.en,.slice oa' o.hs.length ocap',.int .i64 o.vr] 43 121
 have hY1:=za hY0 (by simp) hb
 have hz1:w.heap.size+1 < w1.heap.size:=by have:=hb.size;simp at this;omega
 have HB1:Hid (Below w.heap.size w w1):=(zC w _ _).trans (hb.mono (by simp;omega))
 have HFl:Hid (zR w1 fa (Gate.shapeOf l.ss o.kd).fs):=hfl.mono hb
 clear hfl hb hX0 hY0
 obtain ⟨S,HS⟩:∃ S,Hid (S=Gate.shapeOf l.ss o.kd):=⟨_,rfl⟩
 rw [<- HS.out] at HFl HK HW ⊢
 obtain ⟨n0,hn0⟩:∃ n0:Int,n0=if res=o.kd then 1 else 0:=⟨_,rfl⟩
 have hb0:0<=n0/\n0<=1:=by rw [hn0];split <;> omega
 rw [<- hn0] at HW
 have HN0:Hid (n0=if res=o.kd then 1 else 0):=hn0
 clear hn0
 by_cases hk:res=o.kd
 all_goals (
  first
  | (have hq:(res.toList == o.kd.toList)=true:=by rw [Gate.beq_toList];simpa using hk)
  | (have hq:(res.toList == o.kd.toList)=false:=by rw [Gate.beq_toList];simpa using hk)
  have HKE:=zir hk
  clear hk
  go_wp2_with fail
  go_loopw [9,10] (fun nv iv wr=>∃ (k:Nat) (s:Int),k<=S.fs.length/\iv = .int .i64 k/\nv = .int .i64 s/\Hid (s=n0+Gate.zdm S.fs o.vs res k/\Below w1.heap.size w1 wr)) (fun _ iv _=>S.fs.length - (intOf iv).toNat)
  case atStart=>exact ⟨0,n0,Nat.zero_le _,rfl,by have:=HN0.out;first | (rw [if_pos HKE.out] at this;rw [this]) | (rw [if_neg HKE.out] at this;rw [this]),by simp [Gate.zdm],Below.refl _ _⟩
  case round =>
   obtain ⟨k,s,hk,rfl,rfl,HQ⟩:=hrel
   have hsb:0<=s/\s<=1+k * 10000000:=by have h1:=HQ.out.1;have h2:=Gate.zcp S.fs o.vs res k;omega
   have hkn:k<=1048576:=by have:=HN.out;have:=HK.out.2;omega
   by_cases hlt:k < S.fs.length
   ·obtain ⟨b,off,rfl,hb,hr⟩:=HFl.out.rows (by intro e;rw [e] at hlt;simp at hlt)
    obtain ⟨wa,wcap,hf⟩:=hr k hlt
    obtain ⟨c0,c1,c2,c3,c4,c5,c6,c7,c8,c9,c10⟩:=(hf.mono hb HQ.out.2).load
    have hlv:k < o.vs.length:=by have:=HK.out.2;omega
    have hltI:(k:Int) < (S.fs.length:Int):=by omega
    have hlvI:(k:Int) < (o.vs.length:Int):=by omega
    obtain ⟨vb,voff,rfl,hvb,hvc0⟩:=HO.out.vals.cells (by intro e;rw [e] at hlv;simp at hlv)
    have hvc:=((HB1.out.trans (HQ.out.2.mono HB1.out.size)).cell (p:=⟨vb,voff+k,none⟩) hvb).trans (hvc0 k hlv)
    have hvb':vb < wr.heap.size:=Nat.lt_of_lt_of_le hvb (HB1.out.trans (HQ.out.2.mono HB1.out.size)).size
    have hb':b < wr.heap.size:=Nat.lt_of_lt_of_le hb HQ.out.2.size
    have hY:=za hY1 hz1 HQ.out.2
    have hz:w.heap.size+1 < wr.heap.size:=Nat.lt_of_lt_of_le hz1 HQ.out.2.size
    have HSt:Hid (Gate.zdm S.fs o.vs res (k+1)=Gate.zdm S.fs o.vs res k+Gate.yN S.fs[k] o.vs[k] res):=Gate.zm2 S.fs o.vs res k hlt hlv
    have HVs:Hid (o.vs[k].size<=maxLen):=HO.out.vals.small _ (List.getElem_mem _)
    have hnr:-1<=qX o.vs[k]/\qX o.vs[k]<=10000000:=by
     have h1:=zgR o.vs[k];have h2:=Gate.zdF o.vs[k]
     have h3:qX o.vs[k]=-1 \/ 0<=qX o.vs[k]:=by
      unfold qX;split
      ·rename_i h;exact Or.inr (Gate.zcG _ h)
      ·exact Or.inl rfl
     omega
    clear hf hr hvc0 c0 c2 c3 c4 c5 c6 c7 c8 c9
    go_wp2_with fail
    refine (zdi o.vs[k] _ HVs.out).mono ?_
    rintro e w2 ⟨rfl,rfl⟩
    by_cases h1:S.fs[k].kd=1
    ·have e1:(S.fs[k].kd == 1)=true:=by simpa using h1
     by_cases h2:S.fs[k].wg=res
     ·have e2:(S.fs[k].wg.toList == res.toList)=true:=by rw [Gate.beq_toList];simpa using h2
      have HFw:Hid (Gate.yN S.fs[k] o.vs[k] res=zas o.vs[k]):=by unfold Hid Gate.yN;rw [if_pos ⟨h1,h2⟩]
      clear h1 h2
      rcases zgR o.vs[k] with ⟨hp,hd⟩ | ⟨hp,hd⟩
      ·have HD:=zir hd
       have hpd:decide (0 < qX o.vs[k])=true:=by simpa using hp
       clear hd
       go_wp2_with fail
       first
        | exact ⟨⟨k+1,s+qX o.vs[k],by omega,by go_num,by go_num,by rw [HSt.out,HFw.out,HQ.out.1,HD.out];omega,HQ.out.2⟩,zw hlt⟩
        | (go_quiet (fail);go_wp2_with fail;exact ⟨⟨k+1,s+qX o.vs[k],by omega,by go_num,by go_num,by rw [HSt.out,HFw.out,HQ.out.1,HD.out];omega,below_drewN HQ.out.2 _⟩,zw hlt⟩)
      ·have HD:=zir hd
       have hpd:decide (0 < qX o.vs[k])=false:=by simpa using hp
       clear hd
       go_wp2_with fail
       first
        | exact ⟨⟨k+1,s,by omega,by go_num,rfl,by rw [HSt.out,HFw.out,HQ.out.1,HD.out];omega,HQ.out.2⟩,zw hlt⟩
        | (go_quiet (fail);go_wp2_with fail;exact ⟨⟨k+1,s,by omega,by go_num,rfl,by rw [HSt.out,HFw.out,HQ.out.1,HD.out];omega,below_drewN HQ.out.2 _⟩,zw hlt⟩)
     ·have e2:(S.fs[k].wg.toList == res.toList)=false:=by rw [Gate.beq_toList];simpa using h2
      have HFw:Hid (Gate.yN S.fs[k] o.vs[k] res=0):=by unfold Hid Gate.yN;rw [if_neg (fun h=>h2 h.2)]
      clear h1 h2
      go_wp2_with fail
      first
       | exact ⟨⟨k+1,s,by omega,by go_num,rfl,by rw [HSt.out,HFw.out,HQ.out.1];omega,HQ.out.2⟩,zw hlt⟩
       | (go_quiet (fail);go_wp2_with fail;exact ⟨⟨k+1,s,by omega,by go_num,rfl,by rw [HSt.out,HFw.out,HQ.out.1];omega,below_drewN HQ.out.2 _⟩,zw hlt⟩)
    ·have e1:(S.fs[k].kd == 1)=false:=by simpa using h1
     have HFw:Hid (Gate.yN S.fs[k] o.vs[k] res=0):=by unfold Hid Gate.yN;rw [if_neg (fun h=>h1 h.1)]
     clear h1
     go_wp2_with fail
     first
      | exact ⟨⟨k+1,s,by omega,by go_num,rfl,by rw [HSt.out,HFw.out,HQ.out.1];omega,HQ.out.2⟩,zw hlt⟩
      | (go_quiet (fail);go_wp2_with fail;exact ⟨⟨k+1,s,by omega,by go_num,rfl,by rw [HSt.out,HFw.out,HQ.out.1];omega,below_drewN HQ.out.2 _⟩,zw hlt⟩)
   ·have e:k=S.fs.length:=by omega
    subst e
    have HE:Hid (Gate.qY l.ss o res=s):=by unfold Hid;rw [HW.out,HQ.out.1]
    clear hlt hk
    go_wp2_with fail
    go_ret
    exact ⟨zm HE.out.symm,HB1.out.trans (HQ.out.2.mono HB1.out.size)⟩)
theorem zie (l:Lw) (la lb lc:Option Addr) (lca lcb lcc:Nat) (o:Ob) (oa oa':Option Addr) (ocap ocap':Nat) (res:ByteArray) (w:World) (hl:qp w l la lb lc) (ho:qG w o oa oa') (hlen:o.vs.length<=1048576) :
 Calls Tryz.prog 213 #[.agg (l.cells la lb lc lca lcb lcc),.agg #[.string o.kd,.string o.nm,.string o.tm,.slice oa o.vs.length ocap,.bool o.en,.slice oa' o.hs.length ocap',.int .i64 o.vr],.string res] w fun e w'=>e = .returned (.int .i64 (Gate.qY l.ss o res))/\Below w.heap.size w w':=by
 by_cases hc:Gate.zy l.ss o=true/\res.toList.isEmpty=false
 ·exact ziS l la lb lc lca lcb lcc o oa oa' ocap ocap' res w hl ho hc.1 hc.2 hlen
 ·exact ziY l la lb lc lca lcb lcc o oa oa' ocap ocap' res w hl ho hc
theorem zhW (l:Lw) (la lb lc:Option Addr) (lca lcb lcc:Nat) (o:Ob) (oa oa':Option Addr) (ocap ocap':Nat) (res:ByteArray) (w:World) (hl:qp w l la lb lc) (ho:qG w o oa oa') (hlen:o.vs.length<=1048576) :
 Calls Tryz.prog 126 #[.agg (l.cells la lb lc lca lcb lcc),.agg #[.string o.kd,.string o.nm,.string o.tm,.slice oa o.vs.length ocap,.bool o.en,.slice oa' o.hs.length ocap',.int .i64 o.vr],.string res] w fun e w'=>e = .returned (.int .i64 (Gate.qY l.ss o res))/\Below w.heap.size w w':=by
 by_cases hc:Gate.zy l.ss o=true/\res.toList.isEmpty=false
 ·exact zh4 l la lb lc lca lcb lcc o oa oa' ocap ocap' res w hl ho hc.1 hc.2 hlen
 ·exact zjg l la lb lc lca lcb lcc o oa oa' ocap ocap' res w hl ho hc
namespace Gate
def zoZ:Ob:=⟨ByteArray.empty,ByteArray.empty,ByteArray.empty,[],false,[],0⟩
def za6 (l:Lw) (team res:ByteArray) (o:Ob):Int:=if under l.ts 4 o.tm team=true then qY l.ss o res else 0
def jZ (l:Lw) (os:List Ob) (team res:ByteArray):Nat->Int
 | 0=>0
 | k+1=>jZ l os team res k+za6 l team res (os.getD k zoZ)
def used (l:Lw) (os:List Ob) (team res:ByteArray):Int:=jZ l os team res os.length
theorem znn (ss:List Shp) (o:Ob) (res:ByteArray):0<=qY ss o res/\qY ss o res<=1+o.sz * 10000000:=by
 have h0:o.vs.length<=o.sz:=by unfold Ob.sz zc0 qW;omega
 unfold qY
 split
 ·rename_i hc
  have hc1:=hc.1
  unfold zy at hc1
  simp only [Bool.and_eq_true,decide_eq_true_eq] at hc1
  have:=zcp (shapeOf ss o.kd).fs o.vs res (shapeOf ss o.kd).fs.length
  have h3:=hc1.2
  split <;> omega
 ·omega
theorem zjA (l:Lw) (team res:ByteArray) (o:Ob):0<=za6 l team res o/\za6 l team res o<=1+o.sz * 10000000:=by
 unfold za6
 split
 ·exact znn _ _ _
 ·omega
theorem zeO (l:Lw) (os:List Ob) (team res:ByteArray) (k:Nat) (h:k < os.length):jZ l os team res (k+1)=jZ l os team res k+za6 l team res os[k]:=by
 have e1:os.getD k zoZ=os[k]:=by simp [List.getD,h]
 simp only [jZ]
 rw [e1]
theorem zbE (l:Lw) (os:List Ob) (team res:ByteArray):∀ k,k<=os.length->0<=jZ l os team res k/\jZ l os team res k<=k+zaK (os.take k) * 10000000
 | 0,_=>by simp [jZ,zaK]
 | k+1,h=>by
  have h1:=zbE l os team res k (by omega)
  have h2:=zjA l team res os[k]
  have h3:zaK (os.take (k+1))=zaK (os.take k)+os[k].sz:=zaS Ob.sz os k h
  rw [zeO l os team res k h,h3]
  omega
end Gate
theorem zkn (l:Lw) (la lb lc:Option Addr) (lca lcb lcc:Nat) (b:Bk) (a0 a1 a2 a3:Option Addr) (c0 c1 c2 c3:Nat) (team res:ByteArray) (w:World) (hl:qp w l la lb lc) (hb:qA w b a0 a1 a2 a3) (hz:qE b.os<=1048576) :
 Calls Tryz.prog 195 #[.agg (l.cells la lb lc lca lcb lcc),.agg (b.cells a0 a1 a2 a3 c0 c1 c2 c3),.string team,.string res] w fun e w'=>e = .returned (.int .i64 (Gate.used l b.os team res))/\Below w.heap.size w w':=by
 have HL:Hid (qp w l la lb lc):=hl
 have HK:Hid (qA w b a0 a1 a2 a3):=hb
 have HZ:Hid (qE b.os<=1048576/\b.os.length<=1048576):=⟨hz,by unfold qE at hz;omega⟩
 clear hl hb hz
 unfold Lw.cells Bk.cells
 go_enter Tryz.func195,Tryz.ntmps195
 go_wp2_with fail
 obtain ⟨hX0,hY0⟩:=jd w #[.slice la l.ss.length lca,.slice lb l.ms.length lcb,.slice lc l.ts.length lcc] #[.int .i64 b.now,.int .i64 b.tick,.int .i64 b.given,.slice a0 b.os.length c0,.slice a1 b.gs.length c1,.slice a2 b.ls.length c2,.slice a3 b.ps.length c3] 43 50
 have HB0:Hid (Below w.heap.size w ((w.alloc (.cells #[.slice la l.ss.length lca,.slice lb l.ms.length lcb,.slice lc l.ts.length lcc] 43)).alloc (.cells #[.int .i64 b.now,.int .i64 b.tick,.int .i64 b.given,.slice a0 b.os.length c0,.slice a1 b.gs.length c1,.slice a2 b.ls.length c2,.slice a3 b.ps.length c3] 50))):=zC w _ _
 obtain ⟨W0,hW0⟩:∃ W0,W0=(w.alloc (.cells #[.slice la l.ss.length lca,.slice lb l.ms.length lcb,.slice lc l.ts.length lcc] 43)).alloc (.cells #[.int .i64 b.now,.int .i64 b.tick,.int .i64 b.given,.slice a0 b.os.length c0,.slice a1 b.gs.length c1,.slice a2 b.ls.length c2,.slice a3 b.ps.length c3] 50):=⟨_,rfl⟩
 have hz0:w.heap.size+1 < W0.heap.size:=by rw [hW0];simp
 rw [<- hW0] at HB0 hX0 hY0 ⊢
 clear hW0
 go_loopw [9,15] (fun nv iv wr=>∃ (k:Nat) (s:Int),k<=b.os.length/\iv = .int .i64 k/\nv = .int .i64 s/\Hid (s=Gate.jZ l b.os team res k/\Below W0.heap.size W0 wr)) (fun _ iv _=>b.os.length - (intOf iv).toNat)
 case atStart=>exact ⟨0,0,Nat.zero_le _,rfl,rfl,by simp [Gate.jZ],Below.refl _ _⟩
 case round =>
  obtain ⟨k,s,hk,rfl,rfl,HQ⟩:=hrel
  have hsb:0<=s/\s<=20000000000000:=by
   have h1:=HQ.out.1;have h2:=Gate.zbE l b.os team res k hk;have h3:=HZ.out
   have h4:zaK (b.os.take k)<=zaK b.os:=zcm Ob.sz b.os k
   unfold qE at h3
   omega
  have hkn:k<=1048576:=by have:=HZ.out.2;omega
  by_cases hlt:k < b.os.length
  ·obtain ⟨ob,off,v0,v1,q0,q1,rfl,hob,hsm,hl0,hl1,d0,d1,d2,d3,d4,d5,d6⟩:=HK.out.os.load (HB0.out.trans (HQ.out.2.mono HB0.out.size)) k hlt
   have hob':ob < wr.heap.size:=Nat.lt_of_lt_of_le hob (HB0.out.trans (HQ.out.2.mono HB0.out.size)).size
   have hltI:(k:Int) < (b.os.length:Int):=by omega
   have hX:=za hX0 (Nat.lt_of_succ_lt hz0) HQ.out.2
   have hz:w.heap.size+1 < wr.heap.size:=Nat.lt_of_lt_of_le hz0 HQ.out.2.size
   have hzX:w.heap.size < wr.heap.size:=Nat.lt_of_succ_lt hz
   have HSt:Hid (Gate.jZ l b.os team res (k+1)=Gate.jZ l b.os team res k+Gate.za6 l team res b.os[k]):=Gate.zeO l b.os team res k hlt
   have HOo:Hid (qG wr b.os[k] v0 v1):=⟨hsm,hl0,hl1⟩
   have HOl:Hid (b.os[k].vs.length<=1048576):=by
    have h3:=HZ.out.1
    have:=(zj5 (left:=1048576) (ms:=b.os) (by omega) (by omega)).2 k hlt
    exact this.1
   have hub:=Gate.zjA l team res b.os[k]
   have hwb:=Gate.zeY l.ss b.os[k] res HOl.out
   clear hsm hl0 hl1 hub
   go_wp2_with fail
   have hb1:Below wr.heap.size wr (wr.alloc (.cells #[.string b.os[k].kd,.string b.os[k].nm,.string b.os[k].tm,.slice v0 b.os[k].vs.length q0,.bool b.os[k].en,.slice v1 b.os[k].hs.length q1,.int .i64 b.os[k].vr] 121)):=(Below.refl _ _).alloc (Nat.le_refl _) _
   have hN:=zl wr #[.string b.os[k].kd,.string b.os[k].nm,.string b.os[k].tm,.slice v0 b.os[k].vs.length q0,.bool b.os[k].en,.slice v1 b.os[k].hs.length q1,.int .i64 b.os[k].vr] 121
   obtain ⟨w1,hw1⟩:∃ w1,w1=wr.alloc (.cells #[.string b.os[k].kd,.string b.os[k].nm,.string b.os[k].tm,.slice v0 b.os[k].vs.length q0,.bool b.os[k].en,.slice v1 b.os[k].hs.length q1,.int .i64 b.os[k].vr] 121):=⟨_,rfl⟩
   have hn1:wr.heap.size < w1.heap.size:=by rw [hw1];simp
   rw [<- hw1] at hb1 hN ⊢
   clear hw1 d0 d1 d2 d3 d4 d5 d6
   have HB1:Hid (Below W0.heap.size W0 w1):=HQ.out.2.trans (hb1.mono HQ.out.2.size)
   have hX1:=za hX (Nat.lt_of_succ_lt hz) hb1
   have HO1:Hid (qG w1 b.os[k] v0 v1):=HOo.out.mono hb1
   have hz1:w.heap.size+1 < w1.heap.size:=Nat.lt_trans hz hn1
   clear hb1 hX
   refine (jR _ _ l.ts b.os[k].tm team _ (HL.out.ts.mono (HB0.out.trans (HB1.out.mono HB0.out.size)))).mono ?_
   rintro e w2 ⟨rfl,hb2⟩
   have HB2:Hid (Below W0.heap.size W0 w2):=HB1.out.trans (hb2.mono HB1.out.size)
   have hX2:=za hX1 (Nat.lt_of_succ_lt hz1) hb2
   have hN2:=za hN hn1 hb2
   have HO2:Hid (qG w2 b.os[k] v0 v1):=HO1.out.mono hb2
   have hz2:w.heap.size+1 < w2.heap.size:=Nat.lt_of_lt_of_le hz1 hb2.size
   have hn2:wr.heap.size < w2.heap.size:=Nat.lt_of_lt_of_le hn1 hb2.size
   clear hb2 hX1 hN
   by_cases hu:Gate.under l.ts 4 b.os[k].tm team=true
   ·have HU:Hid (Gate.za6 l team res b.os[k]=Gate.qY l.ss b.os[k] res):=by unfold Hid Gate.za6;rw [if_pos hu]
    rw [hu]
    clear hu
    go_wp2_with fail
    refine (zie l _ _ _ _ _ _ b.os[k] _ _ _ _ res _ (HL.out.mono (HB0.out.trans (HB2.out.mono HB0.out.size))) HO2.out HOl.out).mono ?_
    rintro e w3 ⟨rfl,hb3⟩
    have HB3:Hid (Below W0.heap.size W0 w3):=HB2.out.trans (hb3.mono HB2.out.size)
    clear hb3
    go_wp2_with fail
    exact ⟨⟨k+1,s+Gate.qY l.ss b.os[k] res,by omega,by go_num,by go_num,by rw [HSt.out,HU.out,HQ.out.1],HB3.out⟩,zw hlt⟩
   ·have hu':Gate.under l.ts 4 b.os[k].tm team=false:=by simpa using hu
    have HU:Hid (Gate.za6 l team res b.os[k]=0):=by unfold Hid Gate.za6;rw [if_neg hu]
    rw [hu']
    clear hu hu'
    go_wp2_with fail
    exact ⟨⟨k+1,s,by omega,by go_num,rfl,by rw [HSt.out,HU.out,HQ.out.1];omega,HB2.out⟩,zw hlt⟩
  ·have e:k=b.os.length:=by omega
   subst e
   have HE:Hid (Gate.used l b.os team res=s):=by unfold Hid Gate.used;rw [HQ.out.1]
   clear hlt hk
   go_wp2_with fail
   go_ret
   exact ⟨zm HE.out.symm,HB0.out.trans (HQ.out.2.mono HB0.out.size)⟩
theorem yK.entry {kt mt:TypeId} (K:zhB kt) (hm:Tryz.prog.underlying mt=some (.map kt 3)) {w:World} {r:Nat} {f:ByteArray->ByteArray->Option Int} (h:yK w r f) (a b:ByteArray) (ha:a.size<=maxLen) (hb:b.size<=maxLen) (v0:Int) (hf:f a b=some v0) :
 ∃ st:Int,(Instr.mapEntry mt (.map (some r)) (q8 a b)).run Tryz.prog w = .ok (.tuple #[.int .i64 v0,.int .i64 st]) w /\
  ∀ v:Int,∃ w',(Instr.entryStore mt (.map (some r)) (.int .i64 st) (.int .i64 v)).run Tryz.prog w = .ok () w'/\yK w' r (fun p q=>if p=a/\q=b then some v else f p q)/\zgz r w w':=by
 obtain ⟨es,clock,hh,h1,h2,h3⟩:=h.ex
 obtain ⟨l,hl⟩:=K.key a b ha hb
 obtain ⟨s1,s2⟩:=h.stamps es clock hh
 have hkeys:∀ e ∈ es.toList,∃ l,keyOf Tryz.prog kt e.key=some l:=fun e he=>by
  obtain ⟨a',b',v,e1,ha',hb',_⟩:=h1 e he
  rw [e1];exact K.key a' b' ha' hb'
 have hc:=K.law.check w false hl
 have hs:=K.law.stays w hl
 rcases K.law.find w hl es.toList hkeys with ⟨g1,g2⟩ | ⟨j,e,g1,g2,g3⟩
 ·obtain ⟨x,hx,hk⟩:=h2 a b v0 hf
  exact absurd hk (g2 x hx)
 ·have hj:es[j]?=some e:=by simpa using g2
  have hv:e.val = .int .i64 v0:=by
   obtain ⟨a',b',v',e1,_,_,e2,e3⟩:=h1 e (List.mem_of_getElem? g2)
   rw [g3] at e1
   have hab:a=a'/\b=b':=by unfold q8 at e1;simpa using e1
   obtain ⟨rfl,rfl⟩:=hab
   rw [e3] at hf
   rw [e2,Option.some.inj hf]
  have hsame:es.modify j (fun e=>{ e with key:=q8 a b })=es:=by
   apply Array.ext'
   rw [Array.toList_modify]
   apply List.ext_getElem?
   intro i
   rw [List.getElem?_modify]
   by_cases e':j=i
   ·subst e'
    rw [g2]
    simp [<- g3]
   ·simp [e']
  have hset:{ w with heap:=w.heap.setIfInBounds r (.map es clock) }=w:=by
   have hr:r < w.heap.size:=(Array.getElem?_eq_some_iff.1 hh).1
   have:w.heap.setIfInBounds r (.map es clock)=w.heap:=by
    apply Array.ext_getElem?
    intro i
    by_cases e':r=i
    ·subst e';rw [Array.getElem?_setIfInBounds_self_of_lt hr,hh]
    ·rw [Array.getElem?_setIfInBounds_ne e']
   rw [this]
  refine ⟨(e.born:Int),?_,fun v=>?_⟩
  ·rw [hv] at g1
   simp [Instr.mapEntry,run_underlying hm,MapKept.run_getObj_map hh,hc,g1,hj,g3,hs,hsame,MapKept.run_setObj_map _ hh,Result.andThen,goInt,hset]
  ·obtain ⟨w',u1,u2,u3⟩:=h.upd K hm a b ha hb v
   refine ⟨w',?_,u2,u3⟩
   have hidx:es.findIdx? (fun e'=>((e'.born:Nat):Int) == ((e.born:Nat):Int))=some j:=by
    rw [WideElems.findIdx_arr]
    exact WideElems.findIdx_born s2 g2
   have hmod:es.modify j (fun e=>{ e with val:=.int .i64 v })=es.modify j (fun e'=>{ e' with key:=q8 a b,val:=.int .i64 v }):=by
    apply Array.ext'
    rw [Array.toList_modify,Array.toList_modify]
    apply List.ext_getElem?
    intro i
    rw [List.getElem?_modify,List.getElem?_modify]
    by_cases e':j=i
    ·subst e'
     rw [g2]
     simp [<- g3]
    ·simp [e']
   simp [Instr.mapUpdate,run_underlying hm,MapKept.run_getObj_map hh,hc,g1,hj,g3,hs,MapKept.run_setObj_map _ hh,Result.andThen] at u1
   simp [Instr.entryStore,MapKept.run_getObj_map hh,asInt,asIntOf,hidx,hmod,MapKept.run_setObj_map _ hh,Result.andThen]
   exact u1
structure zfE (b:Bk):Prop where
 one:∀ i j (hi:i < b.ls.length) (hj:j < b.ls.length),b.ls[i].tm=b.ls[j].tm->b.ls[i].rs=b.ls[j].rs->i=j
 has:∀ k (hk:k < b.ps.length),∃ j,∃ hj:j < b.ls.length,b.ls[j].tm=b.ps[k].tm/\b.ls[j].rs=b.ps[k].rs
 fr:∀ i (hi:i < b.ls.length),0<=b.ls[i].fr/\b.ls[i].fr<=1000000
 am:∀ i (hi:i < b.ps.length),0<=b.ps[i].am/\b.ps[i].am<=1000000
 ll:b.ls.length<=1000
 lp:b.ps.length<=1000
 sz:qE b.os<=1048576
def Gate.sumTo (l:Lw) (b:Bk) (g:Lg) (k:Nat):Int:=g.fr+Gate.used l b.os g.tm g.rs+Gate.zax b.ps g.tm g.rs k
theorem zdG (l:Lw) (b:Bk) (tm rs:ByteArray) (h:qE b.os<=1048576):0<=Gate.used l b.os tm rs/\Gate.used l b.os tm rs<=20000000000000:=by
 have h2:=Gate.zbE l b.os tm rs b.os.length (Nat.le_refl _)
 rw [List.take_of_length_le (Nat.le_refl _)] at h2
 unfold Gate.used
 unfold qE at h
 omega
theorem zfJ {r:Nat} {w w':World} (h:zgz r w w') {b o:Nat} (hb:b ≠ r):w'.cell? ⟨b,o,none⟩=w.cell? ⟨b,o,none⟩:=by
 unfold World.cell?
 rw [h.out b hb]
set_option maxRecDepth 20000 in
theorem zl8 (l:Lw) (la lb lc:Option Addr) (lca lcb lcc:Nat) (b:Bk) (a0 a1 a2 a3:Option Addr) (c0 c1 c2 c3:Nat) (w:World) (hl:qp w l la lb lc) (hb:qA w b a0 a1 a2 a3) (hs:zfE b) :
 Calls Tryz.prog 155 #[.agg #[.slice la l.ss.length lca,.slice lb l.ms.length lcb,.slice lc l.ts.length lcc],.agg #[.int .i64 b.now,.int .i64 b.tick,.int .i64 b.given,.slice a0 b.os.length c0,.slice a1 b.gs.length c1,.slice a2 b.ls.length c2,.slice a3 b.ps.length c3]] w fun e w'=>(∃ r f,e = .returned (.map (some r))/\w.heap.size<=r/\yK w' r f/\∀ i (hi:i < b.ls.length),f b.ls[i].tm b.ls[i].rs=some (Gate.sumTo l b b.ls[i] b.ps.length))/\Below w.heap.size w w':=by
 have HH:Hid (qp w l la lb lc/\qA w b a0 a1 a2 a3/\zfE b):=⟨hl,hb,hs⟩
 have hll:=hs.ll
 have hlp:=hs.lp
 have hmk:∀ w:World,(Instr.makeMap 219 none).run Tryz.prog w = .ok (.map (some w.heap.size)) (w.alloc (.map #[] 0)):=fun w=>by kernel_rfl
 clear hl hb hs
 go_enter Tryz.func155,Tryz.ntmps155
 go_wp2_with fail
 have HB0:Hid (Below w.heap.size w ((w.alloc (.cells #[.slice la l.ss.length lca,.slice lb l.ms.length lcb,.slice lc l.ts.length lcc] 43)).alloc (.cells #[.int .i64 b.now,.int .i64 b.tick,.int .i64 b.given,.slice a0 b.os.length c0,.slice a1 b.gs.length c1,.slice a2 b.ls.length c2,.slice a3 b.ps.length c3] 50))):=zC _ _ _
 have hX0:∀ j,((w.alloc (.cells #[.slice la l.ss.length lca,.slice lb l.ms.length lcb,.slice lc l.ts.length lcc] 43)).alloc (.cells #[.int .i64 b.now,.int .i64 b.tick,.int .i64 b.given,.slice a0 b.os.length c0,.slice a1 b.gs.length c1,.slice a2 b.ls.length c2,.slice a3 b.ps.length c3] 50)).cell? ⟨w.heap.size,j,none⟩=(#[.slice la l.ss.length lca,.slice lb l.ms.length lcb,.slice lc l.ts.length lcc]:Array Value)[j]?:=fun j=>cell_of_block (yw _ _ _).1
 have hX1:∀ j,((w.alloc (.cells #[.slice la l.ss.length lca,.slice lb l.ms.length lcb,.slice lc l.ts.length lcc] 43)).alloc (.cells #[.int .i64 b.now,.int .i64 b.tick,.int .i64 b.given,.slice a0 b.os.length c0,.slice a1 b.gs.length c1,.slice a2 b.ls.length c2,.slice a3 b.ps.length c3] 50)).cell? ⟨w.heap.size+1,j,none⟩=(#[.int .i64 b.now,.int .i64 b.tick,.int .i64 b.given,.slice a0 b.os.length c0,.slice a1 b.gs.length c1,.slice a2 b.ls.length c2,.slice a3 b.ps.length c3]:Array Value)[j]?:=fun j=>cell_of_block (yw _ _ _).2
 obtain ⟨W0,hW0⟩:∃ W0,W0=(w.alloc (.cells #[.slice la l.ss.length lca,.slice lb l.ms.length lcb,.slice lc l.ts.length lcc] 43)).alloc (.cells #[.int .i64 b.now,.int .i64 b.tick,.int .i64 b.given,.slice a0 b.os.length c0,.slice a1 b.gs.length c1,.slice a2 b.ls.length c2,.slice a3 b.ps.length c3] 50):=⟨_,rfl⟩
 have hsz:W0.heap.size=w.heap.size+1+1:=by rw [hW0];simp
 rw [<- hW0] at HB0 hX0 hX1 ⊢
 clear hW0
 have hz0:w.heap.size < W0.heap.size:=by omega
 have hz1:w.heap.size+1 < W0.heap.size:=by omega
 have HSZ:Hid (W0.heap.size=w.heap.size+1+1):=hsz
 clear hsz
 have hba:=(Below.refl W0.heap.size W0).alloc (Nat.le_refl _) (.map #[] 0)
 have hY1:=za hX1 hz1 hba
 have hzm:w.heap.size+1 < (W0.alloc (.map #[] 0)).heap.size:=Nat.lt_of_lt_of_le hz1 hba.size
 go_wp2_with fail
 clear hmk hY1 hzm hba
 go_loopw [14] (fun iv wr=>∃ k:Nat,k<=b.ls.length/\iv = .int .i64 k/\Hid ((∃ f,yK wr W0.heap.size f/\∀ i (hi:i < b.ls.length),i < k->f b.ls[i].tm b.ls[i].rs=some (Gate.sumTo l b b.ls[i] 0))/\Below W0.heap.size W0 wr)) (fun iv _=>b.ls.length - (intOf iv).toNat)
 case atStart=>exact ⟨0,Nat.zero_le _,rfl,⟨_,yK.new W0,fun i hi h=>absurd h (Nat.not_lt_zero _)⟩,(Below.refl _ _).alloc (Nat.le_refl _) _⟩
 case round =>
  obtain ⟨k,hk,rfl,HQ⟩:=hrel
  have hkn:k<=1000:=by omega
  by_cases hlt:k < b.ls.length
  ·obtain ⟨f,hf,hfk⟩:=HQ.out.1
   have hBr:=HQ.out.2
   have HBw:Hid (∀ W,Below W0.heap.size W0 W->Below w.heap.size w W):=fun W hW=>HB0.out.trans (hW.mono HB0.out.size)
   obtain ⟨ob,off,rfl,hob,d0,d1,d2,d3⟩:=HH.out.2.1.ls.load (HBw.out _ hBr) k hlt
   have hsm:=HH.out.2.1.ls.small k hlt
   have hltI:(k:Int) < (b.ls.length:Int):=by omega
   have hob':ob < wr.heap.size:=Nat.lt_of_lt_of_le hob (HBw.out _ hBr).size
   have hfr:=HH.out.2.2.fr k hlt
   have hus:=zdG l b b.ls[k].tm b.ls[k].rs HH.out.2.2.sz
   have hwr:IntKind.i64.wrap (b.ls[k].fr+Gate.used l b.os b.ls[k].tm b.ls[k].rs)=b.ls[k].fr+Gate.used l b.os b.ls[k].tm b.ls[k].rs:=by rw [IntKind.wrap_i64];omega
   have hS0:=za hX0 hz0 hBr
   have hS1:=za hX1 hz1 hBr
   have HM:Hid (yK wr W0.heap.size f/\Below W0.heap.size W0 wr):=⟨hf,hBr⟩
   have HFK:Hid (∀ i (hi:i < b.ls.length),i < k->f b.ls[i].tm b.ls[i].rs=some (Gate.sumTo l b b.ls[i] 0)):=hfk
   have hzl:w.heap.size < wr.heap.size:=Nat.lt_of_lt_of_le hz0 hBr.size
   have hzb:w.heap.size+1 < wr.heap.size:=Nat.lt_of_lt_of_le hz1 hBr.size
   clear hf hfk hBr HQ
   go_wp2_with fail
   have hba:=(Below.refl wr.heap.size wr).alloc (Nat.le_refl _) (.cells #[.string b.ls[k].tm,.string b.ls[k].rs,.int .i64 b.ls[k].mo,.int .i64 b.ls[k].fr] 126)
   have hT0:=za hS0 hzl hba
   have hT1:=za hS1 hzb hba
   have hT2:=zl wr #[.string b.ls[k].tm,.string b.ls[k].rs,.int .i64 b.ls[k].mo,.int .i64 b.ls[k].fr] 126
   have hzg:wr.heap.size < (wr.alloc (.cells #[.string b.ls[k].tm,.string b.ls[k].rs,.int .i64 b.ls[k].mo,.int .i64 b.ls[k].fr] 126)).heap.size:=by simp
   obtain ⟨W2,hW2⟩:∃ W2,W2=wr.alloc (.cells #[.string b.ls[k].tm,.string b.ls[k].rs,.int .i64 b.ls[k].mo,.int .i64 b.ls[k].fr] 126):=⟨_,rfl⟩
   rw [<- hW2] at hba hT0 hT1 hT2 hzg ⊢
   clear hW2 hS0 hS1 d0 d1 d2 d3
   have hS0:=za hT0 (Nat.lt_of_lt_of_le hzl hba.size) (Below.refl W2.heap.size W2).drew
   have hS1:=za hT1 (Nat.lt_of_lt_of_le hzb hba.size) (Below.refl W2.heap.size W2).drew
   have hS2:=za hT2 hzg (Below.refl W2.heap.size W2).drew
   have hb:=hba.trans ((Below.refl W2.heap.size W2).drew.mono hba.size)
   have hy0:w.heap.size < W2.drew.heap.size:=Nat.lt_of_lt_of_le hzl hb.size
   have hy1:w.heap.size+1 < W2.drew.heap.size:=Nat.lt_of_lt_of_le hzb hb.size
   have hy2:wr.heap.size < W2.drew.heap.size:=hzg
   have hne0:w.heap.size ≠ W0.heap.size:=by have:=HSZ.out;omega
   have hne1:w.heap.size+1 ≠ W0.heap.size:=by have:=HSZ.out;omega
   have hne2:wr.heap.size ≠ W0.heap.size:=by have:=HM.out.1.lt;omega
   have HNE:Hid (w.heap.size ≠ W0.heap.size/\w.heap.size+1 ≠ W0.heap.size/\wr.heap.size ≠ W0.heap.size):=⟨hne0,hne1,hne2⟩
   clear hne0 hne1 hne2
   clear hT0 hT1 hT2 hba
   go_region_held3 (fun w'=>(∀ j,w'.cell? ⟨w.heap.size,j,none⟩=(#[.slice la l.ss.length lca,.slice lb l.ms.length lcb,.slice lc l.ts.length lcc]:Array Value)[j]?)/\(∀ j,w'.cell? ⟨w.heap.size+1,j,none⟩=(#[.int .i64 b.now,.int .i64 b.tick,.int .i64 b.given,.slice a0 b.os.length c0,.slice a1 b.gs.length c1,.slice (some ⟨ob,off,none⟩) b.ls.length c2,.slice a3 b.ps.length c3]:Array Value)[j]?)/\(∀ j,w'.cell? ⟨wr.heap.size,j,none⟩=(#[.string b.ls[k].tm,.string b.ls[k].rs,.int .i64 b.ls[k].mo,.int .i64 b.ls[k].fr]:Array Value)[j]?)) (first | exact ⟨fun j=>by rw [hS0],fun j=>by rw [hS1],fun j=>by rw [hS2]⟩ | exact ⟨fun j=>by rw [hU0],fun j=>by rw [hU1],fun j=>by rw [hU2]⟩) (first
    | (go_at_call 156;refine (zbq b.ls[k] _).mono ?_;rintro e w5 ⟨rfl,hb5⟩;unfold q8;have hS0:=za hS0 hy0 hb5;have hS1:=za hS1 hy1 hb5;have hS2:=za hS2 hy2 hb5;have hy0:=Nat.lt_of_lt_of_le hy0 hb5.size;have hy1:=Nat.lt_of_lt_of_le hy1 hb5.size;have hy2:=Nat.lt_of_lt_of_le hy2 hb5.size;have hb:=hb.trans (hb5.mono hb.size);clear hb5)
    | (go_at_call 195;refine (zkn l la lb lc lca lcb lcc b a0 a1 (some ⟨ob,off,none⟩) a3 c0 c1 c2 c3 _ _ _ (by exact HH.out.1.mono ((HBw.out _ HM.out.2).trans (hb.mono (HBw.out _ HM.out.2).size))) (by exact HH.out.2.1.mono ((HBw.out _ HM.out.2).trans (hb.mono (HBw.out _ HM.out.2).size))) HH.out.2.2.sz).mono ?_;rintro e w6 ⟨rfl,hb6⟩;have hS0:=za hS0 hy0 hb6;have hS1:=za hS1 hy1 hb6;have hS2:=za hS2 hy2 hb6;have hb:=hb.trans (hb6.mono hb.size);have hf6:=HM.out.1.mono hb;obtain ⟨w7,hup,hf7,hp7⟩:=hf6.upd zcr Tryz.underlying219 b.ls[k].tm b.ls[k].rs hsm.tm hsm.rs (b.ls[k].fr+Gate.used l b.os b.ls[k].tm b.ls[k].rs);unfold q8 at hup;rw [HSZ.out] at hup;have hU0:=fun j=>(zfJ hp7 (o:=j) HNE.out.1).trans (hS0 j);have hU1:=fun j=>(zfJ hp7 (o:=j) HNE.out.2.1).trans (hS1 j);have hU2:=fun j=>(zfJ hp7 (o:=j) HNE.out.2.2).trans (hS2 j);clear hb6))
   go_wp2_with fail
   refine ⟨⟨k+1,by omega,by go_num,⟨_,hf7,fun i hi hik=>?_⟩,hp7.below (HM.out.2.trans (hb.mono HM.out.2.size)) (Nat.le_refl _)⟩,zw hlt⟩
   by_cases e:i=k
   ·subst e
    rw [if_pos ⟨rfl,rfl⟩]
    simp [Gate.sumTo,Gate.zax]
   ·rw [if_neg (fun h=>e (HH.out.2.2.one i k hi hlt h.1 h.2))]
    exact HFK.out i hi (by omega)
  ·have e:k=b.ls.length:=by omega
   have hBr:=HQ.out.2
   have hS1:=za hX1 hz1 hBr
   have hzb:w.heap.size+1 < wr.heap.size:=Nat.lt_of_lt_of_le hz1 hBr.size
   have HM:Hid (∃ f,yK wr W0.heap.size f/\∀ i (hi:i < b.ls.length),f b.ls[i].tm b.ls[i].rs=some (Gate.sumTo l b b.ls[i] 0)):=by
    obtain ⟨f,hf,hfk⟩:=HQ.out.1
    exact ⟨f,hf,fun i hi=>hfk i hi (by omega)⟩
   have HBr:Hid (Below W0.heap.size W0 wr):=hBr
   have HBw:Hid (∀ W,Below W0.heap.size W0 W->Below w.heap.size w W):=fun W hW=>HB0.out.trans (hW.mono HB0.out.size)
   clear hBr HQ hlt hk hkn
   subst e
   go_wp2_with fail
   clear hS1
   go_loopw [35] (fun iv ws=>∃ k:Nat,k<=b.ps.length/\iv = .int .i64 k/\Hid ((∃ f,yK ws W0.heap.size f/\∀ i (hi:i < b.ls.length),f b.ls[i].tm b.ls[i].rs=some (Gate.sumTo l b b.ls[i] k))/\Below W0.heap.size W0 ws)) (fun iv _=>b.ps.length - (intOf iv).toNat)
   case atStart=>exact ⟨0,Nat.zero_le _,rfl,HM.out,HBr.out⟩
   case round =>
    obtain ⟨k,hk,rfl,HQ⟩:=hrel
    have hkn:k<=1000:=by omega
    by_cases hlt:k < b.ps.length
    ·obtain ⟨f,hf,hfk⟩:=HQ.out.1
     have hBr:=HQ.out.2
     obtain ⟨ob,off,rfl,hob,d0,d1,d2,d3,d4⟩:=HH.out.2.1.ps.load (HBw.out _ hBr) k hlt
     have hsm:=HH.out.2.1.ps.small k hlt
     have hltI:(k:Int) < (b.ps.length:Int):=by omega
     have hob':ob < wr.heap.size:=Nat.lt_of_lt_of_le hob (HBw.out _ hBr).size
     obtain ⟨v,hv,hvb⟩:∃ v,f b.ps[k].tm b.ps[k].rs=some v/\0<=v/\v<=30000000000000:=by
      obtain ⟨j,hj,e1,e2⟩:=HH.out.2.2.has k hlt
      refine ⟨_,by rw [<- e1,<- e2];exact hfk j hj,?_⟩
      have h1:=HH.out.2.2.fr j hj
      have h2:=zdG l b b.ls[j].tm b.ls[j].rs HH.out.2.2.sz
      have h3:=Gate.zbf b.ps b.ls[j].tm b.ls[j].rs HH.out.2.2.am k hk
      unfold Gate.sumTo
      omega
     have ham:=HH.out.2.2.am k hlt
     have hwr:IntKind.i64.wrap (v+b.ps[k].am)=v+b.ps[k].am:=by rw [IntKind.wrap_i64];omega
     have HM2:Hid (yK wr W0.heap.size f/\Below W0.heap.size W0 wr/\f b.ps[k].tm b.ps[k].rs=some v/\∀ i (hi:i < b.ls.length),f b.ls[i].tm b.ls[i].rs=some (Gate.sumTo l b b.ls[i] k)):=⟨hf,hBr,hv,hfk⟩
     clear hf hfk hBr HQ hv hvb
     have HFIN:Hid (∀ i (hi:i < b.ls.length),(if b.ls[i].tm=b.ps[k].tm/\b.ls[i].rs=b.ps[k].rs then some (v+b.ps[k].am) else f b.ls[i].tm b.ls[i].rs)=some (Gate.sumTo l b b.ls[i] (k+1))):=by
      intro i hi
      obtain ⟨_,_,g1,g2⟩:=HM2.out
      have g3:=g2 i hi
      by_cases e:b.ls[i].tm=b.ps[k].tm/\b.ls[i].rs=b.ps[k].rs
      ·rw [if_pos e]
       have g4:v=Gate.sumTo l b b.ls[i] k:=by
        rw [e.1,e.2,g1] at g3
        exact Option.some.inj g3
       unfold Gate.sumTo at g4 ⊢
       rw [Gate.zep _ _ _ _ hlt,if_pos (by unfold Gate.zlA;simp [e.1,e.2]),g4]
       congr 1
       omega
      ·rw [if_neg e,g3]
       unfold Gate.sumTo
       rw [Gate.zep _ _ _ _ hlt,if_neg (by unfold Gate.zlA;simp only [Bool.and_eq_true,decide_eq_true_eq];exact fun h=>e ⟨h.1.symm,h.2.symm⟩)]
       congr 1
       omega
     go_wp2_with fail
     have hba:=(Below.refl wr.heap.size wr).alloc (Nat.le_refl _) (.cells #[.string b.ps[k].dr,.string b.ps[k].tm,.string b.ps[k].rs,.int .i64 b.ps[k].am,.int .i64 b.ps[k].un] 128)
     have hT2:=zl wr #[.string b.ps[k].dr,.string b.ps[k].tm,.string b.ps[k].rs,.int .i64 b.ps[k].am,.int .i64 b.ps[k].un] 128
     have hzg:wr.heap.size < (wr.alloc (.cells #[.string b.ps[k].dr,.string b.ps[k].tm,.string b.ps[k].rs,.int .i64 b.ps[k].am,.int .i64 b.ps[k].un] 128)).heap.size:=by simp
     obtain ⟨W2,hW2⟩:∃ W2,W2=wr.alloc (.cells #[.string b.ps[k].dr,.string b.ps[k].tm,.string b.ps[k].rs,.int .i64 b.ps[k].am,.int .i64 b.ps[k].un] 128):=⟨_,rfl⟩
     rw [<- hW2] at hba hT2 hzg ⊢
     clear hW2 d0 d1 d2 d3 d4
     have hS2:=za hT2 hzg (Below.refl W2.heap.size W2).drew
     have hb:=hba.trans ((Below.refl W2.heap.size W2).drew.mono hba.size)
     have hy2:wr.heap.size < W2.drew.heap.size:=hzg
     have HNE:Hid (wr.heap.size ≠ W0.heap.size):=by have:=HM2.out.1.lt;intro h;omega
     clear hT2 hba
     go_region_held3 (fun w'=>∀ j,w'.cell? ⟨wr.heap.size,j,none⟩=(#[.string b.ps[k].dr,.string b.ps[k].tm,.string b.ps[k].rs,.int .i64 b.ps[k].am,.int .i64 b.ps[k].un]:Array Value)[j]?) (first | exact fun j=>by rw [hS2] | exact fun j=>by rw [hU2]) (first
      | (go_at_call 154;refine (zc6 b.ps[k] _).mono ?_;rintro e w5 ⟨rfl,hb5⟩;have hS2:=za hS2 hy2 hb5;have hb:=hb.trans (hb5.mono hb.size);have hf5:=HM2.out.1.mono hb;have hlk:=hf5.look zcr Tryz.underlying219 b.ps[k].tm b.ps[k].rs hsm.tm hsm.rs false;rw [HM2.out.2.2.1] at hlk;obtain ⟨st,hen,hst⟩:=hf5.entry zcr Tryz.underlying219 b.ps[k].tm b.ps[k].rs hsm.tm hsm.rs v HM2.out.2.2.1;obtain ⟨w7,hup,hf7,hp7⟩:=hst (v+b.ps[k].am);unfold q8 at hlk hen ⊢;rw [HSZ.out] at hlk hen hup;simp only [Option.getD_some,Bool.false_eq_true,if_false] at hlk;have hU2:=fun j=>(zfJ hp7 (o:=j) HNE.out).trans (hS2 j);clear hb5 hst))
     all_goals first | (go_wp2_with fail;exact ⟨⟨k+1,by omega,by go_num,⟨_,hf7,HFIN.out⟩,hp7.below (HM2.out.2.1.trans (hb.mono HM2.out.2.1.size)) (Nat.le_refl _)⟩,zw hlt⟩) | exact ⟨⟨k+1,by omega,by go_num,⟨_,hf7,HFIN.out⟩,hp7.below (HM2.out.2.1.trans (hb.mono HM2.out.2.1.size)) (Nat.le_refl _)⟩,zw hlt⟩
    ·have e:k=b.ps.length:=by omega
     subst e
     have HE:Hid _:=HQ.out
     clear HQ hlt hk
     go_wp2_with fail
     go_ret
     obtain ⟨⟨f,h1,h2⟩,h3⟩:=HE.out
     rw [HSZ.out] at h1
     exact ⟨⟨_,f,rfl,by omega,h1,h2⟩,HBw.out _ h3⟩
end Go.Proofs.YtaickbhifenbjaaGreat
