import Derived.Test.YtihdafafigceiaaGreatM15
import Derived.Deep.QuietTactic
import Derived.BigQuiet
import Derived.Test.YtihdafafigceiaaGreatM14
import Derived.Deep.RegionHeld3
set_option maxHeartbeats 4000000
namespace Go.Proofs.YtihdafafigceiaaGreat
open Go.RowKit
theorem zoG {fs:List Fld} {k:Nat} (h:k < fs.length) (hh:Gate.hasName (fs.take k) fs[k].nm=true):(Gate.zQ fs fs[k].nm != (k:Int))=true:=by
 obtain ⟨j,hj,e⟩:=Gate.zjK fs _ k h hh
 rw [e,bne_iff_ne];omega
theorem zoz {fs:List Fld} {k:Nat} (h:k < fs.length) (hh:Gate.hasName (fs.take k) fs[k].nm=false):(Gate.zQ fs fs[k].nm != (k:Int))=false:=by
 rw [Gate.zdw fs _ k h hh rfl];simp
theorem zcf (r:Nat) (a0:Option Addr) (cap0:Nat) (ss:List Shp) (a:Option Addr) (cap:Nat) (fs:List Fld) (w:World) (hr:w.heap[r]?=some (.map yM 4)) (hss:yI w a0 ss) (hw:zP w a fs) :
 Calls Tryz.prog 173 #[.map (some r),.slice a0 ss.length cap0,.slice a fs.length cap] w fun e w'=>e = .returned (.bool (Gate.yT ss fs))/\Below w.heap.size w w':=by
 have hl:=hw.len
 unfold maxLen at hl
 have hrlt:r < w.heap.size:=(Array.getElem?_eq_some_iff.1 hr).1
 by_cases h6:fs.length<=6
 rotate_left
 ·have HF:Hid (Gate.yT ss fs=false):=by simp [Hid,Gate.yT,h6]
  clear hw hr hss
  go_enter Tryz.func173,Tryz.ntmps173
  go_wp2
  go_ret
  exact ⟨ze HF.out.symm,Below.refl _ _⟩
 have HG:Hid (Gate.yT ss fs=Gate.up (Gate.zdr ss fs) fs.length):=by simp [Hid,Gate.yT,h6]
 have h6I:(fs.length:Int)<=6:=by omega
 go_enter Tryz.func173,Tryz.ntmps173
 go_wp2
 go_loopw [14] (fun i wr=>∃ k:Nat,k<=fs.length/\i = .int .i64 k/\Gate.up (Gate.zdr ss fs) k=true/\Below w.heap.size w wr) (fun i _=>fs.length - (intOf i).toNat)
 case atStart=>exact ⟨0,Nat.zero_le _,rfl,rfl,Below.refl _ _⟩
 case round =>
  obtain ⟨k,hk,rfl,hup,hB⟩:=hrel
  have hsz:=hB.size
  by_cases hlt:k < fs.length
  ·obtain ⟨b,off,rfl,hb,hrw⟩:=hw.rows (by rintro rfl;simp at hlt)
   obtain ⟨wa,wcap,hf⟩:=hrw k hlt
   obtain ⟨c0,c1,c2,c3,c4,c5,c6,c7,c8,c9,c10⟩:=(hf.mono hb hB).load
   have hsm:=hf.small
   have hst:=hf.strs.mono hB
   have hfa:zP wr (some ⟨b,off,none⟩) fs:=hw.mono hB
   have hsa:yI wr a0 ss:=hss.mono hB
   have hra:wr.heap[r]?=some (.map yM 4):=(hB.block r hrlt).trans hr
   have HO:Hid (Gate.zdr ss fs k=(Gate.zy fs[k].nm && !Gate.hasName (fs.take k) fs[k].nm && Gate.yG ss fs[k])):=Gate.zhW ss fs k hlt
   have HS:Hid (Gate.zdr ss fs k=true->Gate.up (Gate.zdr ss fs) (k+1)=true):=fun h=>by rw [Gate.qZ,hup,h];rfl
   have HN:Hid (Gate.zdr ss fs k=false->Gate.yT ss fs=false):=fun h=>by rw [HG.out];exact Gate.zaD hlt h
   clear hw hrw hf hup hss hr
   by_cases hn:Gate.zy fs[k].nm=true
   rotate_left
   ·have HNm:Hid (Gate.zy fs[k].nm=false):=by simpa [Hid] using hn
    clear hn
    go_wp2_with fail
    refine (zf HNm.out (zF _ _ hsm.nm)).mono ?_
    rintro e w1 ⟨rfl,rfl⟩
    go_wp2_with fail
    go_ret
    exact ⟨ze (HN.out (by rw [HO.out,HNm.out];rfl)).symm,hB.alloc hsz _⟩
   have HNm:Hid (Gate.zy fs[k].nm=true):=hn
   clear hn
   by_cases hh:Gate.hasName (fs.take k) fs[k].nm=true
   ·have HH:Hid (Gate.hasName (fs.take k) fs[k].nm=true):=hh
    have hpl:=zoG hlt hh
    clear hh
    go_wp2_with fail
    refine (zf HNm.out (zF _ _ hsm.nm)).mono ?_
    rintro e w1 ⟨rfl,rfl⟩
    go_wp2_with fail
    refine (jk _ _ _ _ _ (hfa.mono ((Below.refl _ _).alloc (Nat.le_refl _) _))).mono ?_
    rintro e w2 ⟨rfl,hb2⟩
    have hB2:Below w.heap.size w w2:=(hB.alloc hsz _).trans (hb2.mono (by simp;omega))
    clear hb2
    go_wp2_with fail
    go_ret
    exact ⟨ze (HN.out (by rw [HO.out,HNm.out,HH.out];rfl)).symm,hB2⟩
   ·have HH:Hid (Gate.hasName (fs.take k) fs[k].nm=false):=by simpa [Hid] using hh
    have hpl:=zoz hlt HH.out
    clear hh
    by_cases hok:Gate.yG ss fs[k]=true
    all_goals
     first
      | (have HK:Hid (Gate.yG ss fs[k]=true):=hok)
      | (have HK:Hid (Gate.yG ss fs[k]=false):=by simpa [Hid] using hok)
     clear hok
     go_wp2_with fail
     refine (zf HNm.out (zF _ _ hsm.nm)).mono ?_
     rintro e w1 ⟨rfl,rfl⟩
     go_wp2_with fail
     refine (jk _ _ _ _ _ (hfa.mono ((Below.refl _ _).alloc (Nat.le_refl _) _))).mono ?_
     rintro e w2 ⟨rfl,hb2⟩
     have hX2:=za (zm wr _ _) (by simp) hb2
     have hz2:wr.heap.size < w2.heap.size:=by have:=hb2.size;simp at this;omega
     have hbr2:Below wr.heap.size wr w2:=((Below.refl _ _).alloc (Nat.le_refl _) _).trans (hb2.mono (by simp))
     have hB2:Below w.heap.size w w2:=hB.trans (hbr2.mono hsz)
     have hra2:w2.heap[r]?=some (.map yM 4):=(hbr2.block r (by omega)).trans hra
     clear hb2
     go_wp2_with fail
     refine (zf HK.out (zl3 _ _ _ _ _ _ _ _ _ _ _ _ _ _ _ _ _ _ hra2 hsm.df hsm.wg (hst.mono hbr2) (hsa.mono hbr2))).mono ?_
     rintro e w3 ⟨rfl,hb3⟩
     have hB3:Below w.heap.size w w3:=hB2.trans (hb3.mono (by omega))
     clear hb3 hX2
     go_wp2_with fail
    ·exact ⟨⟨k+1,by omega,by go_num,HS.out (by rw [HO.out,HNm.out,HH.out,HK.out];rfl),hB3⟩,by simp [intOf];omega⟩
    ·go_ret
     exact ⟨ze (HN.out (by rw [HO.out,HNm.out,HH.out,HK.out];rfl)).symm,hB3⟩
  ·have HF:Hid (Gate.yT ss fs=true):=by
    have e:k=fs.length:=by omega
    subst e;rw [HG.out];exact hup
   clear hup hw
   go_wp2
   go_ret
   exact ⟨ze HF.out.symm,hB⟩
theorem zdi (a:Option Addr) (cap:Nat) (ss:List Shp) (w:World) (hw:yI w a ss) :
 Calls Tryz.prog 135 #[.slice a ss.length cap] w fun e w'=>e = .returned (.bool (Gate.yg ss))/\Below w.heap.size w w':=by
 have hl:=hw.len
 unfold maxLen at hl
 by_cases h6:ss.length<=6
 rotate_left
 ·have HF:Hid (Gate.yg ss=false):=by simp [Hid,Gate.yg,h6]
  clear hw
  go_enter Tryz.func135,Tryz.ntmps135
  go_wp2
  go_ret
  exact ⟨ze HF.out.symm,Below.refl _ _⟩
 have HG:Hid (Gate.yg ss=Gate.up (Gate.yR ss) ss.length):=by simp [Hid,Gate.yg,h6]
 have h6I:(ss.length:Int)<=6:=by omega
 go_enter Tryz.func135,Tryz.ntmps135
 go_wp2_with fail
 refine (zcp _).mono ?_
 rintro e w0 ⟨rfl,hw0⟩
 have hB00:Below w.heap.size w w0:=by rw [hw0];exact (Below.refl _ _).alloc (Nat.le_refl _) _
 have hr0:w0.heap[w.heap.size]?=some (.map yM 4):=by rw [hw0];exact alloc_at _ _
 have hz0:w.heap.size < w0.heap.size:=by rw [hw0];simp
 clear hw0
 go_wp2_with fail
 go_loopw [12] (fun i wr=>∃ k:Nat,k<=ss.length/\i = .int .i64 k/\Gate.up (Gate.yR ss) k=true/\Below w0.heap.size w0 wr) (fun i _=>ss.length - (intOf i).toNat)
 case atStart=>exact ⟨0,Nat.zero_le _,rfl,rfl,Below.refl _ _⟩
 case round =>
  obtain ⟨k,hk,rfl,hup,hB⟩:=hrel
  have hsz:=hB.size
  by_cases hlt:k < ss.length
  ·obtain ⟨b,off,rfl,hb,hrw⟩:=hw.rows (by rintro rfl;simp at hlt)
   have hb0:b < w0.heap.size:=by omega
   have hall:yI wr (some ⟨b,off,none⟩) ss:=(hw.mono hB00).mono hB
   obtain ⟨fa,fcap,hs⟩:=hrw k hlt
   have hs':=(hs.mono hb hB00).mono hb0 hB
   have hck:=hs'.kind
   have hcl:=hs'.list
   have hfl:=hs'.zc8
   have hsm:=hs.small
   have hra:wr.heap[w.heap.size]?=some (.map yM 4):=(hB.block _ hz0).trans hr0
   have HS:Hid (Gate.yR ss k=true->Gate.up (Gate.yR ss) (k+1)=true):=fun h=>by rw [Gate.qZ,hup,h];rfl
   have HN:Hid (Gate.yR ss k=false->Gate.yg ss=false):=fun h=>by rw [HG.out];exact Gate.zaD hlt h
   have hltI:(k:Int) < (ss.length:Int):=by omega
   by_cases hn:Gate.zy ss[k].kd=true
   rotate_left
   ·have HNm:Hid (Gate.zy ss[k].kd=false):=by simpa [Hid] using hn
    have HF:Hid (Gate.yR ss k=false):=by
     unfold Hid Gate.yR;rw [Gate.getD_at ss k _ hlt,HNm.out];rfl
    clear hn hup hw hrw hs hs' hr0 hra
    go_wp2_with fail
    go_quiet ((go_at_call 140;exact Calls.quiet_of_same (zf HNm.out (zF _ _ hsm))))
    go_wp2_with fail
    go_ret
    exact ⟨ze (HN.out HF.out).symm,hB00.trans ((below_drewN (hB.alloc hsz _) _).mono (by omega))⟩
   have HNm:Hid (Gate.zy ss[k].kd=true):=hn
   clear hn
   by_cases hk0:k=0
   ·have HA:Hid (Gate.yR ss k=Gate.yT ss ss[k].fs):=by subst hk0;unfold Hid;rw [Gate.zeT ss hlt,HNm.out];rfl
    have hg:decide (0 < k)=false:=by simp;omega
    clear hup hw hrw hs hs' hr0 hk0
    by_cases hok:Gate.yT ss ss[k].fs=true
    ·have HK:Hid (Gate.yT ss ss[k].fs=true):=hok
     clear hok
     go_wp2_with fail
     go_quiet ((go_at_call 140;exact Calls.quiet_of_same (zf HNm.out (zF _ _ hsm))))
     go_wp2_with fail
     have hbr2:Below wr.heap.size wr ((wr.alloc (.cells #[.string ss[k].kd,.slice fa ss[k].fs.length fcap] 119)).drewN nq):=below_drewN ((Below.refl _ _).alloc (Nat.le_refl _) _) _
     refine (zf HK.out (zcf _ _ _ _ _ _ _ _ ((hbr2.block _ (by omega)).trans hra) (hall.mono hbr2) (hfl.mono hbr2))).mono ?_
     rintro e w3 ⟨rfl,hb3⟩
     have hB3:Below w0.heap.size w0 w3:=(hB.trans (hbr2.mono hsz)).trans (hb3.mono (by simp;omega))
     clear hb3 hbr2
     go_wp2_with fail
     exact ⟨⟨k+1,by omega,by go_num,HS.out (by rw [HA.out,HK.out]),hB3⟩,by simp [intOf];omega⟩
    ·have HK:Hid (Gate.yT ss ss[k].fs=false):=by simpa [Hid] using hok
     clear hok
     go_wp2_with fail
     go_quiet ((go_at_call 140;exact Calls.quiet_of_same (zf HNm.out (zF _ _ hsm))))
     go_wp2_with fail
     have hbr2:Below wr.heap.size wr ((wr.alloc (.cells #[.string ss[k].kd,.slice fa ss[k].fs.length fcap] 119)).drewN nq):=below_drewN ((Below.refl _ _).alloc (Nat.le_refl _) _) _
     refine (zf HK.out (zcf _ _ _ _ _ _ _ _ ((hbr2.block _ (by omega)).trans hra) (hall.mono hbr2) (hfl.mono hbr2))).mono ?_
     rintro e w3 ⟨rfl,hb3⟩
     have hB3:Below w0.heap.size w0 w3:=(hB.trans (hbr2.mono hsz)).trans (hb3.mono (by simp;omega))
     clear hb3 hbr2
     go_wp2_with fail
     go_ret
     exact ⟨ze (HN.out (by rw [HA.out,HK.out])).symm,hB00.trans (hB3.mono (by omega))⟩
   ·obtain ⟨m,rfl⟩:∃ m,k=m+1:=⟨k - 1,by omega⟩
    obtain ⟨fam,fcapm,hsm0⟩:=hrw m (by omega)
    have hcm:=((hsm0.mono hb hB00).mono hb0 hB).kind
    have HA:Hid (Gate.yR ss (m+1)=(Gate.less ss[m].kd ss[m+1].kd && Gate.yT ss ss[m+1].fs)):=by unfold Hid;rw [Gate.zfo ss m hlt,HNm.out];rfl
    have hmI:(m:Int) < 6:=by omega
    have hm0:(0:Int)<=(m:Int):=by omega
    have hbr:b < wr.heap.size:=by omega
    have hml:(m:Int) < (ss.length:Int):=by omega
    have hmw:IntKind.i64.wrap (m:Int)=m:=by rw [IntKind.wrap_i64];omega
    clear hup hw hrw hs hs' hr0 hk0 hsm0
    by_cases hls:Gate.less ss[m].kd ss[m+1].kd=true
    rotate_left
    ·have hls':Op.bytesLess ss[m].kd.toList ss[m+1].kd.toList=false:=by simpa [Gate.less] using hls
     have HLS:Hid (Gate.less ss[m].kd ss[m+1].kd=false):=hls'
     clear hls
     go_wp2_with fail
     go_quiet ((go_at_call 140;exact Calls.quiet_of_same (zf HNm.out (zF _ _ hsm))))
     go_wp2_with fail
     go_ret
     exact ⟨ze (HN.out (by rw [HA.out,HLS.out];rfl)).symm,hB00.trans ((below_drewN (hB.alloc hsz _) _).mono (by omega))⟩
    have hls':Op.bytesLess ss[m].kd.toList ss[m+1].kd.toList=true:=hls
    have HLS:Hid (Gate.less ss[m].kd ss[m+1].kd=true):=hls
    clear hls
    by_cases hok:Gate.yT ss ss[m+1].fs=true
    ·have HK:Hid (Gate.yT ss ss[m+1].fs=true):=hok
     clear hok
     go_wp2_with fail
     go_quiet ((go_at_call 140;exact Calls.quiet_of_same (zf HNm.out (zF _ _ hsm))))
     go_wp2_with fail
     have hbr2:Below wr.heap.size wr ((wr.alloc (.cells #[.string ss[m+1].kd,.slice fa ss[m+1].fs.length fcap] 119)).drewN nq):=below_drewN ((Below.refl _ _).alloc (Nat.le_refl _) _) _
     refine (zf HK.out (zcf _ _ _ _ _ _ _ _ ((hbr2.block _ (by omega)).trans hra) (hall.mono hbr2) (hfl.mono hbr2))).mono ?_
     rintro e w3 ⟨rfl,hb3⟩
     have hB3:Below w0.heap.size w0 w3:=(hB.trans (hbr2.mono hsz)).trans (hb3.mono (by simp;omega))
     clear hb3 hbr2
     go_wp2_with fail
     exact ⟨⟨m+1+1,by omega,by go_num,HS.out (by rw [HA.out,HLS.out,HK.out];rfl),hB3⟩,by simp [intOf];omega⟩
    ·have HK:Hid (Gate.yT ss ss[m+1].fs=false):=by simpa [Hid] using hok
     clear hok
     go_wp2_with fail
     go_quiet ((go_at_call 140;exact Calls.quiet_of_same (zf HNm.out (zF _ _ hsm))))
     go_wp2_with fail
     have hbr2:Below wr.heap.size wr ((wr.alloc (.cells #[.string ss[m+1].kd,.slice fa ss[m+1].fs.length fcap] 119)).drewN nq):=below_drewN ((Below.refl _ _).alloc (Nat.le_refl _) _) _
     refine (zf HK.out (zcf _ _ _ _ _ _ _ _ ((hbr2.block _ (by omega)).trans hra) (hall.mono hbr2) (hfl.mono hbr2))).mono ?_
     rintro e w3 ⟨rfl,hb3⟩
     have hB3:Below w0.heap.size w0 w3:=(hB.trans (hbr2.mono hsz)).trans (hb3.mono (by simp;omega))
     clear hb3 hbr2
     go_wp2_with fail
     go_ret
     exact ⟨ze (HN.out (by rw [HA.out,HLS.out,HK.out];rfl)).symm,hB00.trans (hB3.mono (by omega))⟩
  ·have HF:Hid (Gate.yg ss=true):=by
    have e:k=ss.length:=by omega
    subst e;rw [HG.out];exact hup
   clear hup hw
   go_wp2
   go_ret
   exact ⟨ze HF.out.symm,hB00.trans (hB.mono (by omega))⟩
namespace Gate
theorem jh (fs:List Fld) (v:ByteArray):(zQ fs v=-1/\fs.find? (fun f=>decide (f.nm=v))=none) \/ ∃ i,∃ h:i < fs.length,zQ fs v=(i:Int)/\fs[i].nm=v/\fs.find? (fun f=>decide (f.nm=v))=some fs[i]:=by
 cases hf:fs.findIdx? (fun f=>decide (f.nm=v)) with
 | none =>
  left
  refine ⟨by unfold zQ;rw [hf],?_⟩
  rw [List.findIdx?_eq_none_iff] at hf
  rw [List.find?_eq_none]
  intro x hx
  have:=hf x hx
  simpa using this
 | some i =>
  right
  rw [List.findIdx?_eq_some_iff_getElem] at hf
  obtain ⟨hi,h1,h2⟩:=hf
  refine ⟨i,hi,?_,by simpa using h1,?_⟩
  ·unfold zQ
   have:fs.findIdx? (fun f=>decide (f.nm=v))=some i:=by rw [List.findIdx?_eq_some_iff_getElem];exact ⟨hi,h1,h2⟩
   rw [this]
  ·rw [List.find?_eq_some_iff_append]
   refine ⟨h1,fs.take i,fs.drop (i+1),?_,?_⟩
   ·conv=>lhs;rw [<- List.take_append_drop i fs,List.drop_eq_getElem_cons hi]
   ·intro a ha
    obtain ⟨k,hk,rfl⟩:=List.mem_iff_getElem.1 ha
    have hk':k < i:=by simp at hk;omega
    have:=h2 k hk'
    simpa using this
def plain (fs:List Fld) (v:ByteArray):Bool:=match fs.find? (fun f=>decide (f.nm=v)) with | some f=>decide (f.kd ≠ 4) | none=>false
def za8 (fs:List Fld) (v:ByteArray):Fld:=(fs.find? fun f=>decide (f.nm=v)).getD zbv
theorem zam {fs:List Fld} {v:ByteArray} (h:fs.find? (fun f=>decide (f.nm=v))=none):plain fs v=false:=by unfold plain;rw [h]
theorem ziH {fs:List Fld} {v:ByteArray} {f:Fld} (h:fs.find? (fun f=>decide (f.nm=v))=some f):plain fs v=decide (f.kd ≠ 4):=by unfold plain;rw [h]
end Gate
theorem zo5 (k:Int):Ending.returned (.bool (k != 4))=Ending.returned (.bool (decide (k ≠ 4))):=by
 by_cases h:k=4
 ·subst h;rfl
 ·have h1:(k != 4)=true:=by rw [bne_iff_ne];exact h
  rw [h1,decide_eq_true h]
theorem zcu (a:Option Addr) (cap:Nat) (fs:List Fld) (v:ByteArray) (w:World) (hw:zP w a fs) :
 Calls Tryz.prog 178 #[.slice a fs.length cap,.string v] w fun e w'=>e = .returned (.bool (Gate.plain fs v))/\Below w.heap.size w w':=by
 have hl:=hw.len
 unfold maxLen at hl
 rcases Gate.jh fs v with ⟨h1,h2⟩ | ⟨i,hi,h1,h2,h3⟩
 ·have HP:Hid (Gate.plain fs v=false):=Gate.zam h2
  go_enter Tryz.func178,Tryz.ntmps178
  go_wp2_with fail
  have h:=jk a cap fs v w hw
  rw [h1] at h
  refine h.mono ?_
  rintro e w1 ⟨rfl,hb1⟩
  clear h
  go_wp2_with fail
  go_ret
  exact ⟨by rw [HP.out];rfl,hb1⟩
 ·have HP:Hid (Gate.plain fs v=decide (fs[i].kd ≠ 4)):=Gate.ziH h3
  obtain ⟨b,off,rfl,hb,hr⟩:=hw.rows (by rintro rfl;simp at hi)
  obtain ⟨wa,wcap,hf0⟩:=hr i hi
  go_enter Tryz.func178,Tryz.ntmps178
  go_wp2_with fail
  have h:=jk (some ⟨b,off,none⟩) cap fs v w hw
  rw [h1] at h
  refine h.mono ?_
  rintro e w1 ⟨rfl,hb1⟩
  obtain ⟨c0,c1,c2,c3,c4,c5,c6,c7,c8,c9,c10⟩:=(hf0.mono hb hb1).load
  have hiI:(i:Int) < (fs.length:Int):=by omega
  have hge:decide ((i:Int) ≥ 0)=true:=by simp
  have hb1w:b < w1.heap.size:=Nat.lt_of_lt_of_le hb hb1.size
  clear h hw hr hf0 h3 h2 h1
  go_wp2_with fail
  go_ret
  exact ⟨by rw [HP.out];exact zo5 fs[i].kd,hb1⟩
namespace Gate
def jN (fs:List Fld) (m:Mnd) (v:ByteArray):Bool:=!decide (v=m.fd) && plain fs v
def yC (fs:List Fld) (m:Mnd):Bool:=!((!isSet m.wh && isSet m.wi) || (isSet m.pt == isSet m.fr)) && (!isSet m.pt || zez (za8 fs m.fd) m.pt)
def zaT (fs:List Fld) (m:Mnd):Bool:=plain fs m.fd && (zJ m).all (jN fs m) && yC fs m
end Gate
set_option maxRecDepth 20000 in
theorem znj (r:Nat) (a:Option Addr) (cap:Nat) (fs:List Fld) (m:Mnd) (w:World) (hr:w.heap[r]?=some (.map yM 4)) (hw:zP w a fs) (hm:m.Small) :
 Calls Tryz.prog 138 #[.map (some r),.slice a fs.length cap,.agg m.cells] w fun e w'=>e = .returned (.bool (Gate.zaT fs m))/\Below w.heap.size w w':=by
 have hcells:m.cells=#[.string m.kd,.string m.fd,.string m.wh,.string m.wi,.string m.pt,.string m.fr]:=rfl
 have HW:Hid (zP w a fs):=hw
 have HR:Hid (w.heap[r]?=some (.map yM 4)):=hr
 have hl:=hw.len
 unfold maxLen at hl
 clear hw hr
 rw [hcells]
 have hba:=(Below.refl w.heap.size w).alloc (Nat.le_refl _) (.cells #[.string m.kd,.string m.fd,.string m.wh,.string m.wi,.string m.pt,.string m.fr] 121)
 by_cases hp:Gate.plain fs m.fd=true
 rotate_left
 ·have hpf:Gate.plain fs m.fd=false:=by simpa using hp
  have HF:Hid (Gate.zaT fs m=false):=by unfold Hid Gate.zaT;rw [hpf];rfl
  go_enter Tryz.func138,Tryz.ntmps138
  go_wp2_with fail
  have h:=zcu a cap fs m.fd _ (HW.out.mono hba)
  rw [hpf] at h
  refine h.mono ?_
  rintro e w1 ⟨rfl,hb1⟩
  have HB1:Hid (Below w.heap.size w w1):=hba.trans (hb1.mono hba.size)
  clear h hba hb1
  go_wp2_with fail
  go_ret
  exact ⟨by rw [HF.out];rfl,HB1.out⟩
 have HP:Hid (Gate.plain fs m.fd=true):=hp
 go_enter Tryz.func138,Tryz.ntmps138
 go_wp2_with fail
 have h:=zcu a cap fs m.fd _ (HW.out.mono hba)
 rw [hp] at h
 refine h.mono ?_
 rintro e w1 ⟨rfl,hb1⟩
 have HB1:Hid (Below w.heap.size w w1):=hba.trans (hb1.mono hba.size)
 have hX1:=za (zm w _ _) (by simp) hb1
 have hz1:w.heap.size < w1.heap.size:=by have:=hb1.size;simp at this;omega
 clear h hba hb1 hp
 go_wp2_with fail
 refine (zeV m w1).mono ?_
 rintro e w2 ⟨nv,rfl,hn,hb2⟩
 obtain ⟨na,ncap,rfl⟩:=qp hn
 have HN2:Hid (w2.ownsRow w1.heap.size 9 1 (.slice na (Gate.zJ m).length ncap) (Gate.zJ m).length ((Gate.zJ m).map Value.string)):=hn
 have HB2:Hid (Below w.heap.size w w2):=HB1.out.trans (hb2.mono HB1.out.size)
 have hX2:=za hX1 hz1 hb2
 have HX2:Hid (∀ j,w2.cell? ⟨w.heap.size,j,none⟩=(#[.string m.kd,.string m.fd,.string m.wh,.string m.wi,.string m.pt,.string m.fr]:Array Value)[j]?):=hX2
 have hz2:w.heap.size < w2.heap.size:=Nat.lt_of_lt_of_le hz1 hb2.size
 have HNL:Hid ((Gate.zJ m).length<=2):=Gate.zdY _
 clear hn hb2 hX1 hX2
 go_wp2_with fail
 go_loopw [17] (fun iv wr=>∃ k:Nat,k<=(Gate.zJ m).length/\iv = .int .i64 k/\((Gate.zJ m).take k).all (Gate.jN fs m)=true/\Below w2.heap.size w2 wr) (fun iv _=>(Gate.zJ m).length - (intOf iv).toNat)
 case atStart=>exact ⟨0,Nat.zero_le _,rfl,rfl,Below.refl _ _⟩
 case round =>
  obtain ⟨k,hk,rfl,hall,hB⟩:=hrel
  have HB:Hid (Below w2.heap.size w2 wr/\Below w.heap.size w wr):=⟨hB,HB2.out.trans (hB.mono HB2.out.size)⟩
  have HA:Hid (((Gate.zJ m).take k).all (Gate.jN fs m)=true):=hall
  have hXr:=za HX2.out hz2 hB
  have hzr:w.heap.size < wr.heap.size:=Nat.lt_of_lt_of_le hz2 hB.size
  clear hall hB
  by_cases hlt:k < (Gate.zJ m).length
  ·have hltI:(k:Int) < ((Gate.zJ m).length:Int):=by omega
   obtain ⟨g,rfl,hcell⟩:∃ g,na=some ⟨g,0,none⟩/\wr.cell? ⟨g,k,none⟩=some (.string (Gate.zJ m)[k]):=by
    have hrow:=yZ HN2.out HB.out.1
    obtain ⟨_,⟨h0,h1⟩ | ⟨g,cap,cur,h0,h1⟩⟩:=id hrow
    ·rw [h1] at hlt;exact absurd hlt (by omega)
    ·cases h0
     refine ⟨g,rfl,?_⟩
     rw [hrow.cellAt k (by omega)]
     simp [hlt]
   have HTK:Hid (((Gate.zJ m).take (k+1)).all (Gate.jN fs m)=Gate.jN fs m (Gate.zJ m)[k]):=by
    unfold Hid;rw [List.take_succ_eq_append_getElem hlt,List.all_append,HA.out];simp
   have HNO:Hid (Gate.jN fs m (Gate.zJ m)[k]=false->Gate.zaT fs m=false):=by
    intro h
    have:(Gate.zJ m).all (Gate.jN fs m)=false:=by
     rw [List.all_eq_false];exact ⟨_,List.getElem_mem hlt,by rw [h];simp⟩
    unfold Gate.zaT;rw [this];simp
   revert HTK HNO hcell
   generalize (Gate.zJ m)[k]=x
   intro hcell HTK HNO
   by_cases hx:x=m.fd
   ·have hbe:(x.toList == m.fd.toList)=true:=by rw [Gate.beq_toList];simpa using hx
    have HF:Hid (Gate.zaT fs m=false):=HNO.out (by unfold Gate.jN;simp [hx])
    clear hx
    go_wp2_with fail
    go_ret
    exact ⟨by rw [HF.out];rfl,HB.out.2⟩
   ·have hbe:(x.toList == m.fd.toList)=false:=by rw [Gate.beq_toList];simpa using hx
    have HNX:Hid (Gate.jN fs m x=Gate.plain fs x):=by unfold Hid Gate.jN;simp [hx]
    clear hx
    go_wp2_with fail
    have h:=zcu a cap fs x wr (HW.out.mono HB.out.2)
    by_cases hp:Gate.plain fs x=true
    ·rw [hp] at h
     refine h.mono ?_
     rintro e w3 ⟨rfl,hb3⟩
     have HP3:Hid (((Gate.zJ m).take (k+1)).all (Gate.jN fs m)=true/\Below w2.heap.size w2 w3):=⟨by rw [HTK.out,HNX.out];exact hp,HB.out.1.trans (hb3.mono HB.out.1.size)⟩
     clear h hp hb3
     go_wp2_with fail
     exact ⟨⟨k+1,by omega,by rw [wrap_one (by have:=HNL.out;omega)],HP3.out.1,HP3.out.2⟩,jo hlt (by have:=HNL.out;omega)⟩
    ·have hpf:Gate.plain fs x=false:=by simpa using hp
     rw [hpf] at h
     refine h.mono ?_
     rintro e w3 ⟨rfl,hb3⟩
     have HF:Hid (Gate.zaT fs m=false/\Below w.heap.size w w3):=⟨HNO.out (by rw [HNX.out];exact hpf),HB.out.2.trans (hb3.mono HB.out.2.size)⟩
     clear h hp hb3
     go_wp2_with fail
     go_ret
     exact ⟨by rw [HF.out.1];rfl,HF.out.2⟩
  ·have e:k=(Gate.zJ m).length:=by omega
   have hall:=HA.out
   rw [e,List.take_of_length_le (Nat.le_refl _)] at hall
   have HM:Hid (Gate.zaT fs m=Gate.yC fs m):=by unfold Hid Gate.zaT;rw [HP.out,hall];simp
   subst e
   clear hall HA
   have HD:Hid (decide ((((Gate.zJ m).length:Nat):Int) < ((Gate.zJ m).length:Int))=false):=by unfold Hid;simp
   obtain ⟨fi,hfi,hix,hfind⟩:∃ fi,∃ h:fi < fs.length,Gate.zQ fs m.fd=(fi:Int)/\fs.find? (fun f=>decide (f.nm=m.fd))=some fs[fi]:=by
    rcases Gate.jh fs m.fd with ⟨_,h2⟩ | ⟨fi,hfi,h1,_,h3⟩
    ·have:=HP.out;rw [Gate.zam h2] at this;cases this
    ·exact ⟨fi,hfi,h1,h3⟩
   have HFO:Hid (Gate.za8 fs m.fd=fs[fi]):=by unfold Hid Gate.za8;rw [hfind];rfl
   have HFP:Hid (∀ W,Below w.heap.size w W->Calls Tryz.prog 181 #[.slice a fs.length cap,.string m.fd] W fun e w'=>e = .returned (.int .i64 (fi:Int))/\Below W.heap.size W w'):=by
    intro W hb
    have h:=jk a cap fs m.fd W (HW.out.mono hb)
    rw [hix] at h
    exact h
   have hfiI:(fi:Int) < (fs.length:Int):=by omega
   have HSM:Hid (m.pt.size<=maxLen):=hm.pt
   have hrl:r < w.heap.size:=(Array.getElem?_eq_some_iff.1 HR.out).1
   clear hfind hix
   rcases hwh:m.wh.toList.isEmpty with _ | _ <;> rcases hwi:m.wi.toList.isEmpty with _ | _ <;> rcases hpt:m.pt.toList.isEmpty with _ | _ <;> rcases hfr:m.fr.toList.isEmpty with _ | _
   all_goals first
    | (have HT:Hid (Gate.yC fs m=false):=(by unfold Hid Gate.yC Gate.isSet;simp [hwh,hwi,hpt,hfr]);go_wp2_with fail;go_ret;exact ⟨by rw [HM.out,HT.out];rfl,HB.out.2⟩)
    | (have HT:Hid (Gate.yC fs m=true):=(by unfold Hid Gate.yC Gate.isSet;simp [hwh,hwi,hpt,hfr]);go_wp2_with fail;go_quiet (fail);go_wp2_with fail;go_ret;exact ⟨by rw [HM.out,HT.out];rfl,below_drewN HB.out.2 _⟩)
    | skip
   all_goals
    have HT:Hid (Gate.yC fs m=Gate.zez fs[fi] m.pt):=by unfold Hid Gate.yC;rw [HFO.out];unfold Gate.isSet;simp [hwh,hwi,hpt,hfr]
    obtain ⟨fb,foff,rfl,hfb,hrows⟩:=HW.out.rows (by rintro rfl;simp at hfi)
    obtain ⟨wa,wcap,hf0⟩:=hrows fi hfi
    have HFI:Hid (∀ W,Below w.heap.size w W->zd0 W fb (foff+fi * 11) fs[fi] wa wcap):=fun W hb=>hf0.mono hfb hb
    have HBD:Hid (Below w.heap.size w wr.drew):=HB.out.2.drew
    have hbc:Below w.heap.size w wr.drew:=HBD.out
    have hXc:=za HX2.out hz2 (HB.out.1.drew)
    have hL:=(HFI.out _ hbc).load
    have hbW:Below w2.heap.size w2 wr.drew:=HB.out.1.drew
    clear hrows hf0
    go_wp2_with fail
    go_region_held3 (fun w'=>(∀ j,w'.cell? ⟨w.heap.size,j,none⟩=(#[.string m.kd,.string m.fd,.string m.wh,.string m.wi,.string m.pt,.string m.fr]:Array Value)[j]?)/\w'.cell? ⟨fb,foff+fi * 11,none⟩=some (.string fs[fi].nm)/\w'.cell? ⟨fb,foff+fi * 11+1,none⟩=some (.int .i64 fs[fi].kd)/\w'.cell? ⟨fb,foff+fi * 11+2,none⟩=some (.int .i64 fs[fi].ls)/\w'.cell? ⟨fb,foff+fi * 11+3,none⟩=some (.int .i64 fs[fi].ms)/\w'.cell? ⟨fb,foff+fi * 11+4,none⟩=some (.slice wa fs[fi].ws.length wcap)/\w'.cell? ⟨fb,foff+fi * 11+5,none⟩=some (.string fs[fi].to)/\w'.cell? ⟨fb,foff+fi * 11+6,none⟩=some (.int .i64 fs[fi].rl)/\w'.cell? ⟨fb,foff+fi * 11+7,none⟩=some (.bool fs[fi].mu)/\w'.cell? ⟨fb,foff+fi * 11+8,none⟩=some (.bool fs[fi].fx)/\w'.cell? ⟨fb,foff+fi * 11+9,none⟩=some (.string fs[fi].df)/\w'.cell? ⟨fb,foff+fi * 11+10,none⟩=some (.string fs[fi].wg)) (exact ⟨hXc,hL⟩) (first
     | (go_at_call 181;refine (HFP.out _ hbc).mono ?_;rintro e w5 ⟨rfl,hb5⟩;have hbW:=hbW.trans (hb5.mono hbW.size);have hbc:=hbc.trans (hb5.mono hbc.size);have hXc:=za HX2.out hz2 hbW;have hL:=(HFI.out _ hbc).load;clear hb5)
     | (go_at_call 180;refine (zeQ r _ _ _ _ _ _ _ _ _ _ _ _ _ _ _ (by exact (hbc.block r hrl).trans HR.out) HSM.out (by exact (HFI.out _ hbc).strs)).mono ?_;rintro e w5 ⟨rfl,hb5⟩;have hbW:=hbW.trans (hb5.mono hbW.size);have hbc:=hbc.trans (hb5.mono hbc.size);have hXc:=za HX2.out hz2 hbW;have hL:=(HFI.out _ hbc).load;clear hb5))
    go_wp2_with fail
    go_ret
    exact ⟨by rw [HM.out,HT.out];rfl,hbc⟩
end Go.Proofs.YtihdafafigceiaaGreat
