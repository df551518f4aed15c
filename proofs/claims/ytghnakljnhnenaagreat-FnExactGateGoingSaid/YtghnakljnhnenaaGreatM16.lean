import Derived.Test.YtghnakljnhnenaaGreatM15
set_option maxHeartbeats 4000000
namespace Go.Proofs.YtghnakljnhnenaaGreat
open Go.RowKit
theorem zdm (a:Option Addr) (cap:Nat) (ss:List Shp) (w:World) (hw:yI w a ss) :
 Calls Tryz.prog 140 #[.slice a ss.length cap] w fun e w'=>e = .returned (.bool (Gate.zQ ss))/\Below w.heap.size w w':=by
 have hl:=hw.len;unfold maxLen at hl
 by_cases h6:ss.length<=6
 rotate_left
 ·have HF:Hid (Gate.zQ ss=false):=by simp [Hid,Gate.zQ,h6]
  clear hw;go_enter Tryz.func140,Tryz.ntmps140
  go_wp2
  go_ret;exact ⟨ze HF.out.symm,bRf _ _⟩
 have HG:Hid (Gate.zQ ss=Gate.up (Gate.yR ss) ss.length):=by simp [Hid,Gate.zQ,h6]
 have h6I:(ss.length:Int)<=6:=by omega
 go_enter Tryz.func140,Tryz.ntmps140;go_wp2_with fail
 refine (zcG _).mono ?_;rintro e w0 ⟨rfl,hw0⟩;have hB00:Below w.heap.size w w0:=by rw [hw0];exact bAl _ _
 have hr0:w0.heap[w.heap.size]?=some (.map yM 4):=by rw [hw0];exact alloc_at _ _
 have hz0:w.heap.size < w0.heap.size:=by rw [hw0];simp
 clear hw0;go_wp2_with fail
 go_loopw [12] (fun i wr=>∃ k:Nat,k<=ss.length/\i = .int .i64 k/\Gate.up (Gate.yR ss) k=true/\Below w0.heap.size w0 wr) (fun i _=>ss.length - (intOf i).toNat)
 case atStart=>exact ⟨0,Nat.zero_le _,rfl,rfl,bRf _ _⟩
 case round =>
  obtain ⟨k,hk,rfl,hup,hB⟩:=hrel;have hsz:=hB.size
  by_cases hlt:k < ss.length
  ·obtain ⟨b,off,rfl,hb,hrw⟩:=hw.rows (by rintro rfl;simp at hlt)
   have hb0:b < w0.heap.size:=by omega
   have hall:yI wr (some ⟨b,off,none⟩) ss:=(hw.mono hB00).mono hB;obtain ⟨fa,fcap,hs⟩:=hrw k hlt;have hs':=(hs.mono hb hB00).mono hb0 hB;have hck:=hs'.kind;have hcl:=hs'.list;have hfl:=hs'.zdk;have hsm:=hs.small;have hra:wr.heap[w.heap.size]?=some (.map yM 4):=(hB.block _ hz0).trans hr0;have HS:Hid (Gate.yR ss k=true->Gate.up (Gate.yR ss) (k+1)=true):=fun h=>by rw [Gate.q9,hup,h];rfl
   have HN:Hid (Gate.yR ss k=false->Gate.zQ ss=false):=fun h=>by rw [HG.out];exact Gate.zaR hlt h
   have hltI:(k:Int) < (ss.length:Int):=by omega
   by_cases hn:Gate.zy ss[k].kd=true
   rotate_left
   ·have HNm:Hid (Gate.zy ss[k].kd=false):=by simpa [Hid] using hn
    have HF:Hid (Gate.yR ss k=false):=by
     unfold Hid Gate.yR;rw [Gate.getD_at ss k _ hlt,HNm.out];rfl
    clear hn hup hw hrw hs hs' hr0 hra;go_wp2_with fail
    go_quiet ((go_at_call 145;exact Calls.quiet_of_same (zf HNm.out (zG _ _ hsm))))
    go_wp2_with fail
    go_ret;exact ⟨ze (HN.out HF.out).symm,hB00.trans ((below_drewN (hB.alloc hsz _) _).mono (by omega))⟩
   have HNm:Hid (Gate.zy ss[k].kd=true):=hn;clear hn
   by_cases hk0:k=0
   ·have HA:Hid (Gate.yR ss k=Gate.yU ss ss[k].fs):=by subst hk0;unfold Hid;rw [Gate.zfb ss hlt,HNm.out];rfl
    have hg:decide (0 < k)=false:=by simp;omega
    clear hup hw hrw hs hs' hr0 hk0
    by_cases hok:Gate.yU ss ss[k].fs=true
    ·have HK:Hid (Gate.yU ss ss[k].fs=true):=hok
     clear hok;go_wp2_with fail
     go_quiet ((go_at_call 145;exact Calls.quiet_of_same (zf HNm.out (zG _ _ hsm))))
     go_wp2_with fail
     have hbr2:Below wr.heap.size wr ((wr.alloc (.cells #[.string ss[k].kd,.slice fa ss[k].fs.length fcap] 123)).drewN nq):=below_drewN (bAl _ _) _;refine (zf HK.out (zcr _ _ _ _ _ _ _ _ ((hbr2.block _ (by omega)).trans hra) (hall.mono hbr2) (hfl.mono hbr2))).mono ?_;rintro e w3 ⟨rfl,hb3⟩;have hB3:Below w0.heap.size w0 w3:=(hB.trans (hbr2.mono hsz)).trans (hb3.mono (by simp;omega));clear hb3 hbr2;go_wp2_with fail
     exact ⟨⟨k+1,by omega,by go_num,HS.out (by rw [HA.out,HK.out]),hB3⟩,by simp [intOf];omega⟩
    ·have HK:Hid (Gate.yU ss ss[k].fs=false):=by simpa [Hid] using hok
     clear hok;go_wp2_with fail
     go_quiet ((go_at_call 145;exact Calls.quiet_of_same (zf HNm.out (zG _ _ hsm))))
     go_wp2_with fail
     have hbr2:Below wr.heap.size wr ((wr.alloc (.cells #[.string ss[k].kd,.slice fa ss[k].fs.length fcap] 123)).drewN nq):=below_drewN (bAl _ _) _;refine (zf HK.out (zcr _ _ _ _ _ _ _ _ ((hbr2.block _ (by omega)).trans hra) (hall.mono hbr2) (hfl.mono hbr2))).mono ?_;rintro e w3 ⟨rfl,hb3⟩;have hB3:Below w0.heap.size w0 w3:=(hB.trans (hbr2.mono hsz)).trans (hb3.mono (by simp;omega));clear hb3 hbr2;go_wp2_with fail
     go_ret;exact ⟨ze (HN.out (by rw [HA.out,HK.out])).symm,hB00.trans (hB3.mono (by omega))⟩
   ·obtain ⟨m,rfl⟩:∃ m,k=m+1:=⟨k - 1,by omega⟩
    obtain ⟨fam,fcapm,hsm0⟩:=hrw m (by omega);have hcm:=((hsm0.mono hb hB00).mono hb0 hB).kind;have HA:Hid (Gate.yR ss (m+1)=(Gate.less ss[m].kd ss[m+1].kd && Gate.yU ss ss[m+1].fs)):=by unfold Hid;rw [Gate.zgb ss m hlt,HNm.out];rfl
    have hmI:(m:Int) < 6:=by omega
    have hm0:(0:Int)<=(m:Int):=by omega
    have hbr:b < wr.heap.size:=by omega
    have hml:(m:Int) < (ss.length:Int):=by omega
    have hmw:IntKind.i64.wrap (m:Int)=m:=by rw [IntKind.wrap_i64];omega
    clear hup hw hrw hs hs' hr0 hk0 hsm0
    by_cases hls:Gate.less ss[m].kd ss[m+1].kd=true
    rotate_left
    ·have hls':Op.bytesLess ss[m].kd.toList ss[m+1].kd.toList=false:=by simpa [Gate.less] using hls
     have HLS:Hid (Gate.less ss[m].kd ss[m+1].kd=false):=hls';clear hls;go_wp2_with fail
     go_quiet ((go_at_call 145;exact Calls.quiet_of_same (zf HNm.out (zG _ _ hsm))))
     go_wp2_with fail
     go_ret;exact ⟨ze (HN.out (by rw [HA.out,HLS.out];rfl)).symm,hB00.trans ((below_drewN (hB.alloc hsz _) _).mono (by omega))⟩
    have hls':Op.bytesLess ss[m].kd.toList ss[m+1].kd.toList=true:=hls;have HLS:Hid (Gate.less ss[m].kd ss[m+1].kd=true):=hls;clear hls
    by_cases hok:Gate.yU ss ss[m+1].fs=true
    ·have HK:Hid (Gate.yU ss ss[m+1].fs=true):=hok
     clear hok;go_wp2_with fail
     go_quiet ((go_at_call 145;exact Calls.quiet_of_same (zf HNm.out (zG _ _ hsm))))
     go_wp2_with fail
     have hbr2:Below wr.heap.size wr ((wr.alloc (.cells #[.string ss[m+1].kd,.slice fa ss[m+1].fs.length fcap] 123)).drewN nq):=below_drewN (bAl _ _) _;refine (zf HK.out (zcr _ _ _ _ _ _ _ _ ((hbr2.block _ (by omega)).trans hra) (hall.mono hbr2) (hfl.mono hbr2))).mono ?_;rintro e w3 ⟨rfl,hb3⟩;have hB3:Below w0.heap.size w0 w3:=(hB.trans (hbr2.mono hsz)).trans (hb3.mono (by simp;omega));clear hb3 hbr2;go_wp2_with fail
     exact ⟨⟨m+1+1,by omega,by go_num,HS.out (by rw [HA.out,HLS.out,HK.out];rfl),hB3⟩,by simp [intOf];omega⟩
    ·have HK:Hid (Gate.yU ss ss[m+1].fs=false):=by simpa [Hid] using hok
     clear hok;go_wp2_with fail
     go_quiet ((go_at_call 145;exact Calls.quiet_of_same (zf HNm.out (zG _ _ hsm))))
     go_wp2_with fail
     have hbr2:Below wr.heap.size wr ((wr.alloc (.cells #[.string ss[m+1].kd,.slice fa ss[m+1].fs.length fcap] 123)).drewN nq):=below_drewN (bAl _ _) _;refine (zf HK.out (zcr _ _ _ _ _ _ _ _ ((hbr2.block _ (by omega)).trans hra) (hall.mono hbr2) (hfl.mono hbr2))).mono ?_;rintro e w3 ⟨rfl,hb3⟩;have hB3:Below w0.heap.size w0 w3:=(hB.trans (hbr2.mono hsz)).trans (hb3.mono (by simp;omega));clear hb3 hbr2;go_wp2_with fail
     go_ret;exact ⟨ze (HN.out (by rw [HA.out,HLS.out,HK.out];rfl)).symm,hB00.trans (hB3.mono (by omega))⟩
  ·have HF:Hid (Gate.zQ ss=true):=by
    have e:k=ss.length:=by omega
    subst e;rw [HG.out];exact hup
   clear hup hw
   go_wp2
   go_ret;exact ⟨ze HF.out.symm,hB00.trans (hB.mono (by omega))⟩
namespace Gate
theorem jm (fs:List Fld) (v:ByteArray):(zR fs v=-1/\fs.find? (fun f=>decide (f.nm=v))=none) \/ ∃ i,∃ h:i < fs.length,zR fs v=(i:Int)/\fs[i].nm=v/\fs.find? (fun f=>decide (f.nm=v))=some fs[i]:=by
 cases hf:fs.findIdx? (fun f=>decide (f.nm=v)) with
 | none =>
  left
  refine ⟨by unfold zR;rw [hf],?_⟩;rw [List.findIdx?_eq_none_iff] at hf;rw [List.find?_eq_none];intro x hx
  have:=hf x hx
  simpa using this
 | some i =>
  right
  rw [List.findIdx?_eq_some_iff_getElem] at hf;obtain ⟨hi,h1,h2⟩:=hf;refine ⟨i,hi,?_,by simpa using h1,?_⟩
  ·unfold zR
   have:fs.findIdx? (fun f=>decide (f.nm=v))=some i:=by rw [List.findIdx?_eq_some_iff_getElem];exact ⟨hi,h1,h2⟩
   rw [this]
  ·rw [List.find?_eq_some_iff_append]
   refine ⟨h1,fs.take i,fs.drop (i+1),?_,?_⟩
   ·conv=>lhs;rw [<- List.take_append_drop i fs,List.drop_eq_getElem_cons hi]
   ·intro a ha
    obtain ⟨k,hk,rfl⟩:=List.mem_iff_getElem.1 ha;have hk':k < i:=by simp at hk;omega
    have:=h2 k hk'
    simpa using this
def plain (fs:List Fld) (v:ByteArray):Bool:=match fs.find? (fun f=>decide (f.nm=v)) with | some f=>decide (f.kd ≠ 4) | none=>false
def zbk (fs:List Fld) (v:ByteArray):Fld:=(fs.find? fun f=>decide (f.nm=v)).getD zbC
theorem zau {fs:List Fld} {v:ByteArray} (h:fs.find? (fun f=>decide (f.nm=v))=none):plain fs v=false:=by unfold plain;rw [h]
theorem zjC {fs:List Fld} {v:ByteArray} {f:Fld} (h:fs.find? (fun f=>decide (f.nm=v))=some f):plain fs v=decide (f.kd ≠ 4):=by unfold plain;rw [h]
end Gate
theorem zp4 (k:Int):Ending.returned (.bool (k != 4))=Ending.returned (.bool (decide (k ≠ 4))):=by
 by_cases h:k=4
 ·subst h;rfl
 ·have h1:(k != 4)=true:=by rw [bne_iff_ne];exact h
  rw [h1,decide_eq_true h]
theorem zcB (a:Option Addr) (cap:Nat) (fs:List Fld) (v:ByteArray) (w:World) (hw:zP w a fs) :
 Calls Tryz.prog 182 #[.slice a fs.length cap,.string v] w fun e w'=>e = .returned (.bool (Gate.plain fs v))/\Below w.heap.size w w':=by
 have hl:=hw.len;unfold maxLen at hl
 rcases Gate.jm fs v with ⟨h1,h2⟩ | ⟨i,hi,h1,h2,h3⟩
 ·have HP:Hid (Gate.plain fs v=false):=Gate.zau h2
  go_enter Tryz.func182,Tryz.ntmps182;go_wp2_with fail
  have h:=jl a cap fs v w hw;rw [h1] at h;refine h.mono ?_;rintro e w1 ⟨rfl,hb1⟩;clear h;go_wp2_with fail
  go_ret;exact ⟨by rw [HP.out];rfl,hb1⟩
 ·have HP:Hid (Gate.plain fs v=decide (fs[i].kd ≠ 4)):=Gate.zjC h3
  obtain ⟨b,off,rfl,hb,hr⟩:=hw.rows (by rintro rfl;simp at hi);obtain ⟨wa,wcap,hf0⟩:=hr i hi;go_enter Tryz.func182,Tryz.ntmps182;go_wp2_with fail
  have h:=jl (some ⟨b,off,none⟩) cap fs v w hw;rw [h1] at h;refine h.mono ?_;rintro e w1 ⟨rfl,hb1⟩;obtain ⟨c0,c1,c2,c3,c4,c5,c6,c7,c8,c9,c10⟩:=(hf0.mono hb hb1).load;have hiI:(i:Int) < (fs.length:Int):=by omega
  have hge:decide ((i:Int) ≥ 0)=true:=by simp
  have hb1w:b < w1.heap.size:=nLt hb hb1.size;clear h hw hr hf0 h3 h2 h1;go_wp2_with fail
  go_ret;exact ⟨by rw [HP.out];exact zp4 fs[i].kd,hb1⟩
namespace Gate
def jM (fs:List Fld) (m:Mnd) (v:ByteArray):Bool:=!decide (v=m.fd) && plain fs v
def yC (fs:List Fld) (m:Mnd):Bool:=!((!isSet m.wh && isSet m.wi) || (isSet m.pt == isSet m.fr)) && (!isSet m.pt || zeK (zbk fs m.fd) m.pt)
def za2 (fs:List Fld) (m:Mnd):Bool:=plain fs m.fd && (zK m).all (jM fs m) && yC fs m
end Gate
set_option maxRecDepth 20000 in
theorem znU (r:Nat) (a:Option Addr) (cap:Nat) (fs:List Fld) (m:Mnd) (w:World) (hr:w.heap[r]?=some (.map yM 4)) (hw:zP w a fs) (hm:m.Small) :
 Calls Tryz.prog 143 #[.map (some r),.slice a fs.length cap,.agg m.cells] w fun e w'=>e = .returned (.bool (Gate.za2 fs m))/\Below w.heap.size w w':=by
 have hcells:m.cells=#[.string m.kd,.string m.fd,.string m.wh,.string m.wi,.string m.pt,.string m.fr]:=rfl;have HW:Hid (zP w a fs):=hw;have HR:Hid (w.heap[r]?=some (.map yM 4)):=hr;have hl:=hw.len;unfold maxLen at hl;clear hw hr;rw [hcells];have hba:=(bRf w.heap.size w).alloc (Nat.le_refl _) (.cells #[.string m.kd,.string m.fd,.string m.wh,.string m.wi,.string m.pt,.string m.fr] 125)
 by_cases hp:Gate.plain fs m.fd=true
 rotate_left
 ·have hpf:Gate.plain fs m.fd=false:=by simpa using hp
  have HF:Hid (Gate.za2 fs m=false):=by unfold Hid Gate.za2;rw [hpf];rfl
  go_enter Tryz.func143,Tryz.ntmps143;go_wp2_with fail
  have h:=zcB a cap fs m.fd _ (HW.out.mono hba);rw [hpf] at h;refine h.mono ?_;rintro e w1 ⟨rfl,hb1⟩;have HB1:Hid (Below w.heap.size w w1):=hba.trans (hb1.mono hba.size);clear h hba hb1;go_wp2_with fail
  go_ret;exact ⟨by rw [HF.out];rfl,HB1.out⟩
 have HP:Hid (Gate.plain fs m.fd=true):=hp;go_enter Tryz.func143,Tryz.ntmps143;go_wp2_with fail
 have h:=zcB a cap fs m.fd _ (HW.out.mono hba);rw [hp] at h;refine h.mono ?_;rintro e w1 ⟨rfl,hb1⟩;have HB1:Hid (Below w.heap.size w w1):=hba.trans (hb1.mono hba.size);have hX1:=za (zm w _ _) (by simp) hb1;have hz1:w.heap.size < w1.heap.size:=by have:=hb1.size;simp at this;omega
 clear h hba hb1 hp;go_wp2_with fail
 refine (ze7 m w1).mono ?_;rintro e w2 ⟨nv,rfl,hn,hb2⟩;obtain ⟨na,ncap,rfl⟩:=yV hn;have HN2:Hid (w2.ownsRow w1.heap.size 9 1 (.slice na (Gate.zK m).length ncap) (Gate.zK m).length ((Gate.zK m).map Value.string)):=hn;have HB2:Hid (Below w.heap.size w w2):=HB1.out.trans (hb2.mono HB1.out.size);have hX2:=za hX1 hz1 hb2;have HX2:Hid (∀ j,w2.cell? ⟨w.heap.size,j,none⟩=(#[.string m.kd,.string m.fd,.string m.wh,.string m.wi,.string m.pt,.string m.fr]:Array Value)[j]?):=hX2;have hz2:w.heap.size < w2.heap.size:=nLt hz1 hb2.size;have HNL:Hid ((Gate.zK m).length<=2):=Gate.zdN _;clear hn hb2 hX1 hX2;go_wp2_with fail
 go_loopw [17] (fun iv wr=>∃ k:Nat,k<=(Gate.zK m).length/\iv = .int .i64 k/\((Gate.zK m).take k).all (Gate.jM fs m)=true/\Below w2.heap.size w2 wr) (fun iv _=>(Gate.zK m).length - (intOf iv).toNat)
 case atStart=>exact ⟨0,Nat.zero_le _,rfl,rfl,bRf _ _⟩
 case round =>
  obtain ⟨k,hk,rfl,hall,hB⟩:=hrel;have HB:Hid (Below w2.heap.size w2 wr/\Below w.heap.size w wr):=⟨hB,HB2.out.trans (hB.mono HB2.out.size)⟩
  have HA:Hid (((Gate.zK m).take k).all (Gate.jM fs m)=true):=hall;have hXr:=za HX2.out hz2 hB;have hzr:w.heap.size < wr.heap.size:=nLt hz2 hB.size;clear hall hB
  by_cases hlt:k < (Gate.zK m).length
  ·have hltI:(k:Int) < ((Gate.zK m).length:Int):=by omega
   obtain ⟨g,rfl,hcell⟩:∃ g,na=some ⟨g,0,none⟩/\wr.cell? ⟨g,k,none⟩=some (.string (Gate.zK m)[k]):=by
    have hrow:=yO HN2.out HB.out.1;obtain ⟨_,⟨h0,h1⟩ | ⟨g,cap,cur,h0,h1⟩⟩:=id hrow
    ·rw [h1] at hlt;exact absurd hlt (by omega)
    ·cases h0
     refine ⟨g,rfl,?_⟩;rw [hrow.cellAt k (by omega)]
     simp [hlt]
   have HTK:Hid (((Gate.zK m).take (k+1)).all (Gate.jM fs m)=Gate.jM fs m (Gate.zK m)[k]):=by
    unfold Hid;rw [tSe hlt,List.all_append,HA.out];simp
   have HNO:Hid (Gate.jM fs m (Gate.zK m)[k]=false->Gate.za2 fs m=false):=by
    intro h
    have:(Gate.zK m).all (Gate.jM fs m)=false:=by
     rw [List.all_eq_false];exact ⟨_,List.getElem_mem hlt,by rw [h];simp⟩
    unfold Gate.za2;rw [this];simp
   revert HTK HNO hcell
   generalize (Gate.zK m)[k]=x
   intro hcell HTK HNO
   by_cases hx:x=m.fd
   ·have hbe:(x.toList == m.fd.toList)=true:=by rw [Gate.beq_toList];simpa using hx
    have HF:Hid (Gate.za2 fs m=false):=HNO.out (by unfold Gate.jM;simp [hx]);clear hx;go_wp2_with fail
    go_ret;exact ⟨by rw [HF.out];rfl,HB.out.2⟩
   ·have hbe:(x.toList == m.fd.toList)=false:=by rw [Gate.beq_toList];simpa using hx
    have HNX:Hid (Gate.jM fs m x=Gate.plain fs x):=by unfold Hid Gate.jM;simp [hx]
    clear hx;go_wp2_with fail
    have h:=zcB a cap fs x wr (HW.out.mono HB.out.2)
    by_cases hp:Gate.plain fs x=true
    ·rw [hp] at h
     refine h.mono ?_;rintro e w3 ⟨rfl,hb3⟩;have HP3:Hid (((Gate.zK m).take (k+1)).all (Gate.jM fs m)=true/\Below w2.heap.size w2 w3):=⟨by rw [HTK.out,HNX.out];exact hp,HB.out.1.trans (hb3.mono HB.out.1.size)⟩
     clear h hp hb3;go_wp2_with fail
     exact ⟨⟨k+1,by omega,by rw [wrap_one (by have:=HNL.out;omega)],HP3.out.1,HP3.out.2⟩,jr hlt (by have:=HNL.out;omega)⟩
    ·have hpf:Gate.plain fs x=false:=by simpa using hp
     rw [hpf] at h;refine h.mono ?_;rintro e w3 ⟨rfl,hb3⟩;have HF:Hid (Gate.za2 fs m=false/\Below w.heap.size w w3):=⟨HNO.out (by rw [HNX.out];exact hpf),HB.out.2.trans (hb3.mono HB.out.2.size)⟩
     clear h hp hb3;go_wp2_with fail
     go_ret;exact ⟨by rw [HF.out.1];rfl,HF.out.2⟩
  ·have e:k=(Gate.zK m).length:=by omega
   have hall:=HA.out;rw [e,tOl (Nat.le_refl _)] at hall;have HM:Hid (Gate.za2 fs m=Gate.yC fs m):=by unfold Hid Gate.za2;rw [HP.out,hall];simp
   subst e;clear hall HA;have HD:Hid (decide ((((Gate.zK m).length:Nat):Int) < ((Gate.zK m).length:Int))=false):=by unfold Hid;simp
   obtain ⟨fi,hfi,hix,hfind⟩:∃ fi,∃ h:fi < fs.length,Gate.zR fs m.fd=(fi:Int)/\fs.find? (fun f=>decide (f.nm=m.fd))=some fs[fi]:=by
    rcases Gate.jm fs m.fd with ⟨_,h2⟩ | ⟨fi,hfi,h1,_,h3⟩
    ·have:=HP.out;rw [Gate.zau h2] at this;cases this
    ·exact ⟨fi,hfi,h1,h3⟩
   have HFO:Hid (Gate.zbk fs m.fd=fs[fi]):=by unfold Hid Gate.zbk;rw [hfind];rfl
   have HFP:Hid (∀ W,Below w.heap.size w W->Calls Tryz.prog 185 #[.slice a fs.length cap,.string m.fd] W fun e w'=>e = .returned (.int .i64 (fi:Int))/\Below W.heap.size W w'):=by
    intro W hb;have h:=jl a cap fs m.fd W (HW.out.mono hb);rw [hix] at h;exact h
   have hfiI:(fi:Int) < (fs.length:Int):=by omega
   have HSM:Hid (m.pt.size<=maxLen):=hm.pt;have hrl:r < w.heap.size:=(gES HR.out).1;clear hfind hix
   rcases hwh:m.wh.toList.isEmpty with _ | _ <;> rcases hwi:m.wi.toList.isEmpty with _ | _ <;> rcases hpt:m.pt.toList.isEmpty with _ | _ <;> rcases hfr:m.fr.toList.isEmpty with _ | _
   all_goals first
    | (have HT:Hid (Gate.yC fs m=false):=(by unfold Hid Gate.yC Gate.isSet;simp [hwh,hwi,hpt,hfr]);go_wp2_with fail;go_ret;exact ⟨by rw [HM.out,HT.out];rfl,HB.out.2⟩)
    | (have HT:Hid (Gate.yC fs m=true):=(by unfold Hid Gate.yC Gate.isSet;simp [hwh,hwi,hpt,hfr]);go_wp2_with fail;go_quiet (fail);go_wp2_with fail;go_ret;exact ⟨by rw [HM.out,HT.out];rfl,below_drewN HB.out.2 _⟩)
    | skip
   all_goals
    have HT:Hid (Gate.yC fs m=Gate.zeK fs[fi] m.pt):=by unfold Hid Gate.yC;rw [HFO.out];unfold Gate.isSet;simp [hwh,hwi,hpt,hfr]
    obtain ⟨fb,foff,rfl,hfb,hrows⟩:=HW.out.rows (by rintro rfl;simp at hfi);obtain ⟨wa,wcap,hf0⟩:=hrows fi hfi;have HFI:Hid (∀ W,Below w.heap.size w W->zel W fb (foff+fi * 11) fs[fi] wa wcap):=fun W hb=>hf0.mono hfb hb
    have HBD:Hid (Below w.heap.size w wr.drew):=HB.out.2.drew;have hbc:Below w.heap.size w wr.drew:=HBD.out;have hXc:=za HX2.out hz2 (HB.out.1.drew);have hL:=(HFI.out _ hbc).load;have hbW:Below w2.heap.size w2 wr.drew:=HB.out.1.drew;clear hrows hf0;go_wp2_with fail
    go_region_held3 (fun w'=>(∀ j,w'.cell? ⟨w.heap.size,j,none⟩=(#[.string m.kd,.string m.fd,.string m.wh,.string m.wi,.string m.pt,.string m.fr]:Array Value)[j]?)/\w'.cell? ⟨fb,foff+fi * 11,none⟩=some (.string fs[fi].nm)/\w'.cell? ⟨fb,foff+fi * 11+1,none⟩=some (.int .i64 fs[fi].kd)/\w'.cell? ⟨fb,foff+fi * 11+2,none⟩=some (.int .i64 fs[fi].ls)/\w'.cell? ⟨fb,foff+fi * 11+3,none⟩=some (.int .i64 fs[fi].ms)/\w'.cell? ⟨fb,foff+fi * 11+4,none⟩=some (.slice wa fs[fi].ws.length wcap)/\w'.cell? ⟨fb,foff+fi * 11+5,none⟩=some (.string fs[fi].to)/\w'.cell? ⟨fb,foff+fi * 11+6,none⟩=some (.int .i64 fs[fi].rl)/\w'.cell? ⟨fb,foff+fi * 11+7,none⟩=some (.bool fs[fi].mu)/\w'.cell? ⟨fb,foff+fi * 11+8,none⟩=some (.bool fs[fi].fx)/\w'.cell? ⟨fb,foff+fi * 11+9,none⟩=some (.string fs[fi].df)/\w'.cell? ⟨fb,foff+fi * 11+10,none⟩=some (.string fs[fi].wg)) (exact ⟨hXc,hL⟩) (first
     | (go_at_call 185;refine (HFP.out _ hbc).mono ?_;rintro e w5 ⟨rfl,hb5⟩;have hbW:=hbW.trans (hb5.mono hbW.size);have hbc:=hbc.trans (hb5.mono hbc.size);have hXc:=za HX2.out hz2 hbW;have hL:=(HFI.out _ hbc).load;clear hb5)
     | (go_at_call 184;refine (zfk r _ _ _ _ _ _ _ _ _ _ _ _ _ _ _ (by exact (hbc.block r hrl).trans HR.out) HSM.out (by exact (HFI.out _ hbc).strs)).mono ?_;rintro e w5 ⟨rfl,hb5⟩;have hbW:=hbW.trans (hb5.mono hbW.size);have hbc:=hbc.trans (hb5.mono hbc.size);have hXc:=za HX2.out hz2 hbW;have hL:=(HFI.out _ hbc).load;clear hb5))
    go_wp2_with fail
    go_ret;exact ⟨by rw [HM.out,HT.out];rfl,hbc⟩
end Go.Proofs.YtghnakljnhnenaaGreat
namespace Go.Proofs.YtghnakljnhnenaaGreat.Gate
theorem zg4 {ss:List Shp} (h:zQ ss=true) (i:Nat) (hi:i < ss.length):yR ss i=true:=by
 unfold zQ at h;rw [Bool.and_eq_true] at h;exact ze6 hi h.2
theorem zod {ss:List Shp} (h:zQ ss=true):∀ (j:Nat) (hj:j < ss.length) (i:Nat) (hi:i < j),less (ss[i]'(by omega)).kd ss[j].kd=true:=by
 intro j
 induction j with
 | zero=>intro _ i hi;omega
 | succ j ih =>
  intro hj i hi;have h1:=zg4 h (j+1) hj;rw [zgb ss j hj] at h1;simp only [Bool.and_eq_true] at h1;have h2:=h1.1.2
  rcases Nat.lt_or_ge i j with hlt | hge
  ·exact zbj _ _ _ (ih (by omega) i hlt) h2
  ·have e:i=j:=by omega
   subst e;exact h2
theorem zec {ss:List Shp} (h:zQ ss=true) (i:Nat) (hi:i < ss.length):shapeOf ss ss[i].kd=ss[i]:=by
 refine zfm ss _ i hi ?_ rfl;unfold zF;rw [List.any_eq_false];intro x hx;obtain ⟨k,hk,rfl⟩:=List.mem_iff_getElem.1 hx;have hk':k < i:=by simp at hk;omega
 have h1:=zod h i hi k hk';simp only [List.getElem_take,decide_eq_true_eq];intro e;unfold less at h1;rw [e,zbY] at h1
 cases h1
theorem zft {ss:List Shp} (h:zQ ss=true) (i:Nat) (hi:i < ss.length):ss[i].fs.length<=6:=by
 have h1:=zg4 h i hi;unfold yR at h1;rw [getD_at ss i _ hi] at h1;simp only [Bool.and_eq_true] at h1;have h2:=h1.2;unfold yU at h2;simp only [Bool.and_eq_true,decide_eq_true_eq] at h2;exact h2.1
def jP (ss:List Shp) (m:Mnd):Bool:=zF ss m.kd && za2 (shapeOf ss m.kd).fs m
def rowOk (ms:List Mnd) (s:Shp):Bool:=(zI (zl s ms) s.fs.length).1
def yt (ss:List Shp) (ms:List Mnd):Bool:=decide (ms.length<=12) && zQ ss && ms.all (jP ss) && ss.all (rowOk ms)
theorem ziY {ss:List Shp} {ms:List Mnd} (h:zQ ss=true) (hm:ms.all (jP ss)=true) (i:Nat) (hi:i < ss.length):∀ q,q < ss[i].fs.length->∀ x ∈ zY ss[i] ms q,0<=x/\x < ss[i].fs.length:=by
 intro q _ x hx;unfold zY at hx;obtain ⟨m,hmm,hx⟩:=List.mem_flatMap.1 hx
 by_cases ht:turns m ss[i] q=true
 ·rw [if_pos ht] at hx
  obtain ⟨v,hv,rfl⟩:=List.mem_map.1 hx;unfold turns at ht;simp only [Bool.and_eq_true,decide_eq_true_eq] at ht;have h1:=List.all_eq_true.1 hm m hmm;unfold jP at h1;rw [ht.1,zec h i hi] at h1;simp only [Bool.and_eq_true] at h1;have h2:=h1.2;unfold za2 at h2;simp only [Bool.and_eq_true] at h2;have h3:=List.all_eq_true.1 h2.1.2 v hv;unfold jM at h3;simp only [Bool.and_eq_true] at h3
  rcases jm ss[i].fs v with ⟨_,h5⟩ | ⟨k,hk,h4,_⟩
  ·rw [zau h5] at h3;exact absurd h3.2 (by simp)
  ·rw [h4];omega
 ·rw [if_neg ht] at hx;cases hx
end Go.Proofs.YtghnakljnhnenaaGreat.Gate
