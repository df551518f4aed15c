import Derived.Test.YtghnakljnhnenaaGreatM17
set_option maxHeartbeats 4000000
namespace Go.Proofs.YtghnakljnhnenaaGreat
open Go.RowKit
set_option maxRecDepth 20000 in
theorem zll (a:Option Addr) (cap:Nat) (ss:List Shp) (m:Mnd) (w:World) (hw:yI w a ss) (hm:m.Small) (hk:Gate.zF ss m.kd=true) :
 Calls Tryz.prog 126 #[.slice a ss.length cap,.agg m.cells] w fun e w'=>e = .returned (.bool (Gate.yx (Gate.shapeOf ss m.kd).fs m))/\Below w.heap.size w w':=by
 have hl:=hw.len;unfold maxLen at hl;unfold Mnd.cells;have hba:=(bRf w.heap.size w).alloc (Nat.le_refl _) (.cells #[.string m.kd,.string m.fd,.string m.wh,.string m.wi,.string m.pt,.string m.fr] 125);go_enter Tryz.func126,Tryz.ntmps126;go_wp2_with fail
 refine (jJ _ _ _ _ _ (hw.mono hba) hk).mono ?_;rintro e w1 ⟨ix,hix,rfl,hsh,rfl⟩;have HSh:Hid (Gate.shapeOf ss m.kd=ss[ix]):=hsh;obtain ⟨b,off,rfl,hb,hr⟩:=hw.rows (by rintro rfl;simp at hix);obtain ⟨fa,fcap,hs⟩:=hr ix hix;have hcl:=hs.list;have HFL:Hid (zP w fa ss[ix].fs):=hs.zdk;have hixI:(ix:Int) < (ss.length:Int):=by omega
 have hix0:decide ((ix:Int) < 0)=false:=by simp
 have hbw:b < w.heap.size:=hb;have HBA:Hid (Below w.heap.size w (w.alloc (.cells #[.string m.kd,.string m.fd,.string m.wh,.string m.wi,.string m.pt,.string m.fr] 125))):=hba;clear hr hs hsh hk hw hba;go_wp2_with fail
 rcases hp0:Gate.plain ss[ix].fs m.fd with _ | _
 ·skip
  have HT:Hid (Gate.yx ss[ix].fs m=false):=by unfold Hid Gate.yx Gate.yC Gate.isSet;simp [*]
  have h:=zB fa fcap ss[ix].fs m.fd _ (HFL.out.mono HBA.out);rw [hp0] at h;refine h.mono ?_;rintro e wc0 ⟨rfl,hb0⟩;have HBc0:Hid (Below w.heap.size w wc0):=HBA.out.trans (hb0.mono HBA.out.size);have hXc0:=za (zm w _ _) (by simp) hb0;have hzc0:w.heap.size < wc0.heap.size:=nLt (by simp) hb0.size;clear h hb0;go_wp2_with fail
  go_ret;exact ⟨by rw [HSh.out,HT.out];rfl,HBc0.out⟩
 ·skip
  rcases hwh:m.wh.toList.isEmpty with _ | _
  ·skip
   rcases hp1:Gate.plain ss[ix].fs m.wh with _ | _
   ·skip
    have HT:Hid (Gate.yx ss[ix].fs m=false):=by unfold Hid Gate.yx Gate.yC Gate.isSet;simp [*]
    have h:=zB fa fcap ss[ix].fs m.fd _ (HFL.out.mono HBA.out);rw [hp0] at h;refine h.mono ?_;rintro e wc0 ⟨rfl,hb0⟩;have HBc0:Hid (Below w.heap.size w wc0):=HBA.out.trans (hb0.mono HBA.out.size);have hXc0:=za (zm w _ _) (by simp) hb0;have hzc0:w.heap.size < wc0.heap.size:=nLt (by simp) hb0.size;clear h hb0;go_wp2_with fail
    have h:=zB fa fcap ss[ix].fs m.wh _ (HFL.out.mono HBc0.out);rw [hp1] at h;refine h.mono ?_;rintro e wc1 ⟨rfl,hb1⟩;have HBc1:Hid (Below w.heap.size w wc1):=HBc0.out.trans (hb1.mono HBc0.out.size);have hXc1:=za (hXc0) hzc0 hb1;have hzc1:w.heap.size < wc1.heap.size:=nLt hzc0 hb1.size;clear h hb1 hXc0;go_wp2_with fail
    go_ret;exact ⟨by rw [HSh.out,HT.out];rfl,HBc1.out⟩
   ·skip
    rcases hfr:m.fr.toList.isEmpty with _ | _
    ·skip
     rcases hp2:Gate.plain ss[ix].fs m.fr with _ | _
     ·skip
      have HT:Hid (Gate.yx ss[ix].fs m=false):=by unfold Hid Gate.yx Gate.yC Gate.isSet;simp [*]
      have h:=zB fa fcap ss[ix].fs m.fd _ (HFL.out.mono HBA.out);rw [hp0] at h;refine h.mono ?_;rintro e wc0 ⟨rfl,hb0⟩;have HBc0:Hid (Below w.heap.size w wc0):=HBA.out.trans (hb0.mono HBA.out.size);have hXc0:=za (zm w _ _) (by simp) hb0;have hzc0:w.heap.size < wc0.heap.size:=nLt (by simp) hb0.size;clear h hb0;go_wp2_with fail
      have h:=zB fa fcap ss[ix].fs m.wh _ (HFL.out.mono HBc0.out);rw [hp1] at h;refine h.mono ?_;rintro e wc1 ⟨rfl,hb1⟩;have HBc1:Hid (Below w.heap.size w wc1):=HBc0.out.trans (hb1.mono HBc0.out.size);have hXc1:=za (hXc0) hzc0 hb1;have hzc1:w.heap.size < wc1.heap.size:=nLt hzc0 hb1.size;clear h hb1 hXc0;go_wp2_with fail
      have h:=zB fa fcap ss[ix].fs m.fr _ (HFL.out.mono HBc1.out);rw [hp2] at h;refine h.mono ?_;rintro e wc2 ⟨rfl,hb2⟩;have HBc2:Hid (Below w.heap.size w wc2):=HBc1.out.trans (hb2.mono HBc1.out.size);have hXc2:=za (hXc1) hzc1 hb2;have hzc2:w.heap.size < wc2.heap.size:=nLt hzc1 hb2.size;clear h hb2 hXc1;go_wp2_with fail
      go_ret;exact ⟨by rw [HSh.out,HT.out];rfl,HBc2.out⟩
     ·skip
      by_cases e1:m.wh=m.fd
      ·have he1:(m.wh.toList == m.fd.toList)=true:=by rw [Gate.beq_toList];simpa using e1
       have HT:Hid (Gate.yx ss[ix].fs m=false):=by unfold Hid Gate.yx Gate.yC Gate.isSet;simp [*]
       clear e1;have h:=zB fa fcap ss[ix].fs m.fd _ (HFL.out.mono HBA.out);rw [hp0] at h;refine h.mono ?_;rintro e wc0 ⟨rfl,hb0⟩;have HBc0:Hid (Below w.heap.size w wc0):=HBA.out.trans (hb0.mono HBA.out.size);have hXc0:=za (zm w _ _) (by simp) hb0;have hzc0:w.heap.size < wc0.heap.size:=nLt (by simp) hb0.size;clear h hb0;go_wp2_with fail
       have h:=zB fa fcap ss[ix].fs m.wh _ (HFL.out.mono HBc0.out);rw [hp1] at h;refine h.mono ?_;rintro e wc1 ⟨rfl,hb1⟩;have HBc1:Hid (Below w.heap.size w wc1):=HBc0.out.trans (hb1.mono HBc0.out.size);have hXc1:=za (hXc0) hzc0 hb1;have hzc1:w.heap.size < wc1.heap.size:=nLt hzc0 hb1.size;clear h hb1 hXc0;go_wp2_with fail
       have h:=zB fa fcap ss[ix].fs m.fr _ (HFL.out.mono HBc1.out);rw [hp2] at h;refine h.mono ?_;rintro e wc2 ⟨rfl,hb2⟩;have HBc2:Hid (Below w.heap.size w wc2):=HBc1.out.trans (hb2.mono HBc1.out.size);have hXc2:=za (hXc1) hzc1 hb2;have hzc2:w.heap.size < wc2.heap.size:=nLt hzc1 hb2.size;clear h hb2 hXc1;go_wp2_with fail
       go_ret;exact ⟨by rw [HSh.out,HT.out];rfl,HBc2.out⟩
      have he1:(m.wh.toList == m.fd.toList)=false:=by rw [Gate.beq_toList];simpa using e1
      by_cases e2:m.fr=m.fd
      ·have he2:(m.fr.toList == m.fd.toList)=true:=by rw [Gate.beq_toList];simpa using e2
       have HT:Hid (Gate.yx ss[ix].fs m=false):=by unfold Hid Gate.yx Gate.yC Gate.isSet;simp [*]
       clear e2;have h:=zB fa fcap ss[ix].fs m.fd _ (HFL.out.mono HBA.out);rw [hp0] at h;refine h.mono ?_;rintro e wc0 ⟨rfl,hb0⟩;have HBc0:Hid (Below w.heap.size w wc0):=HBA.out.trans (hb0.mono HBA.out.size);have hXc0:=za (zm w _ _) (by simp) hb0;have hzc0:w.heap.size < wc0.heap.size:=nLt (by simp) hb0.size;clear h hb0;go_wp2_with fail
       have h:=zB fa fcap ss[ix].fs m.wh _ (HFL.out.mono HBc0.out);rw [hp1] at h;refine h.mono ?_;rintro e wc1 ⟨rfl,hb1⟩;have HBc1:Hid (Below w.heap.size w wc1):=HBc0.out.trans (hb1.mono HBc0.out.size);have hXc1:=za (hXc0) hzc0 hb1;have hzc1:w.heap.size < wc1.heap.size:=nLt hzc0 hb1.size;clear h hb1 hXc0;go_wp2_with fail
       have h:=zB fa fcap ss[ix].fs m.fr _ (HFL.out.mono HBc1.out);rw [hp2] at h;refine h.mono ?_;rintro e wc2 ⟨rfl,hb2⟩;have HBc2:Hid (Below w.heap.size w wc2):=HBc1.out.trans (hb2.mono HBc1.out.size);have hXc2:=za (hXc1) hzc1 hb2;have hzc2:w.heap.size < wc2.heap.size:=nLt hzc1 hb2.size;clear h hb2 hXc1;go_wp2_with fail
       go_ret;exact ⟨by rw [HSh.out,HT.out];rfl,HBc2.out⟩
      have he2:(m.fr.toList == m.fd.toList)=false:=by rw [Gate.beq_toList];simpa using e2
      rcases hwi:m.wi.toList.isEmpty with _ | _
      ·skip
       rcases hpt:m.pt.toList.isEmpty with _ | _
       ·skip
        have HT:Hid (Gate.yx ss[ix].fs m=false):=by unfold Hid Gate.yx Gate.yC Gate.isSet;simp [*]
        have h:=zB fa fcap ss[ix].fs m.fd _ (HFL.out.mono HBA.out);rw [hp0] at h;refine h.mono ?_;rintro e wc0 ⟨rfl,hb0⟩;have HBc0:Hid (Below w.heap.size w wc0):=HBA.out.trans (hb0.mono HBA.out.size);have hXc0:=za (zm w _ _) (by simp) hb0;have hzc0:w.heap.size < wc0.heap.size:=nLt (by simp) hb0.size;clear h hb0;go_wp2_with fail
        have h:=zB fa fcap ss[ix].fs m.wh _ (HFL.out.mono HBc0.out);rw [hp1] at h;refine h.mono ?_;rintro e wc1 ⟨rfl,hb1⟩;have HBc1:Hid (Below w.heap.size w wc1):=HBc0.out.trans (hb1.mono HBc0.out.size);have hXc1:=za (hXc0) hzc0 hb1;have hzc1:w.heap.size < wc1.heap.size:=nLt hzc0 hb1.size;clear h hb1 hXc0;go_wp2_with fail
        have h:=zB fa fcap ss[ix].fs m.fr _ (HFL.out.mono HBc1.out);rw [hp2] at h;refine h.mono ?_;rintro e wc2 ⟨rfl,hb2⟩;have HBc2:Hid (Below w.heap.size w wc2):=HBc1.out.trans (hb2.mono HBc1.out.size);have hXc2:=za (hXc1) hzc1 hb2;have hzc2:w.heap.size < wc2.heap.size:=nLt hzc1 hb2.size;clear h hb2 hXc1;go_wp2_with fail
        go_ret;exact ⟨by rw [HSh.out,HT.out];rfl,HBc2.out⟩
       ·skip
        have HT:Hid (Gate.yx ss[ix].fs m=true):=by unfold Hid Gate.yx Gate.yC Gate.isSet;simp [*]
        have h:=zB fa fcap ss[ix].fs m.fd _ (HFL.out.mono HBA.out);rw [hp0] at h;refine h.mono ?_;rintro e wc0 ⟨rfl,hb0⟩;have HBc0:Hid (Below w.heap.size w wc0):=HBA.out.trans (hb0.mono HBA.out.size);have hXc0:=za (zm w _ _) (by simp) hb0;have hzc0:w.heap.size < wc0.heap.size:=nLt (by simp) hb0.size;clear h hb0;go_wp2_with fail
        have h:=zB fa fcap ss[ix].fs m.wh _ (HFL.out.mono HBc0.out);rw [hp1] at h;refine h.mono ?_;rintro e wc1 ⟨rfl,hb1⟩;have HBc1:Hid (Below w.heap.size w wc1):=HBc0.out.trans (hb1.mono HBc0.out.size);have hXc1:=za (hXc0) hzc0 hb1;have hzc1:w.heap.size < wc1.heap.size:=nLt hzc0 hb1.size;clear h hb1 hXc0;go_wp2_with fail
        have h:=zB fa fcap ss[ix].fs m.fr _ (HFL.out.mono HBc1.out);rw [hp2] at h;refine h.mono ?_;rintro e wc2 ⟨rfl,hb2⟩;have HBc2:Hid (Below w.heap.size w wc2):=HBc1.out.trans (hb2.mono HBc1.out.size);have hXc2:=za (hXc1) hzc1 hb2;have hzc2:w.heap.size < wc2.heap.size:=nLt hzc1 hb2.size;clear h hb2 hXc1;go_wp2_with fail
        go_quiet (fail)
        go_wp2_with fail
        go_ret;exact ⟨by rw [HSh.out,HT.out];rfl,below_drewN HBc2.out _⟩
      ·skip
       rcases hpt:m.pt.toList.isEmpty with _ | _
       ·skip
        have HT:Hid (Gate.yx ss[ix].fs m=false):=by unfold Hid Gate.yx Gate.yC Gate.isSet;simp [*]
        have h:=zB fa fcap ss[ix].fs m.fd _ (HFL.out.mono HBA.out);rw [hp0] at h;refine h.mono ?_;rintro e wc0 ⟨rfl,hb0⟩;have HBc0:Hid (Below w.heap.size w wc0):=HBA.out.trans (hb0.mono HBA.out.size);have hXc0:=za (zm w _ _) (by simp) hb0;have hzc0:w.heap.size < wc0.heap.size:=nLt (by simp) hb0.size;clear h hb0;go_wp2_with fail
        have h:=zB fa fcap ss[ix].fs m.wh _ (HFL.out.mono HBc0.out);rw [hp1] at h;refine h.mono ?_;rintro e wc1 ⟨rfl,hb1⟩;have HBc1:Hid (Below w.heap.size w wc1):=HBc0.out.trans (hb1.mono HBc0.out.size);have hXc1:=za (hXc0) hzc0 hb1;have hzc1:w.heap.size < wc1.heap.size:=nLt hzc0 hb1.size;clear h hb1 hXc0;go_wp2_with fail
        have h:=zB fa fcap ss[ix].fs m.fr _ (HFL.out.mono HBc1.out);rw [hp2] at h;refine h.mono ?_;rintro e wc2 ⟨rfl,hb2⟩;have HBc2:Hid (Below w.heap.size w wc2):=HBc1.out.trans (hb2.mono HBc1.out.size);have hXc2:=za (hXc1) hzc1 hb2;have hzc2:w.heap.size < wc2.heap.size:=nLt hzc1 hb2.size;clear h hb2 hXc1;go_wp2_with fail
        go_ret;exact ⟨by rw [HSh.out,HT.out];rfl,HBc2.out⟩
       ·skip
        have HT:Hid (Gate.yx ss[ix].fs m=true):=by unfold Hid Gate.yx Gate.yC Gate.isSet;simp [*]
        have h:=zB fa fcap ss[ix].fs m.fd _ (HFL.out.mono HBA.out);rw [hp0] at h;refine h.mono ?_;rintro e wc0 ⟨rfl,hb0⟩;have HBc0:Hid (Below w.heap.size w wc0):=HBA.out.trans (hb0.mono HBA.out.size);have hXc0:=za (zm w _ _) (by simp) hb0;have hzc0:w.heap.size < wc0.heap.size:=nLt (by simp) hb0.size;clear h hb0;go_wp2_with fail
        have h:=zB fa fcap ss[ix].fs m.wh _ (HFL.out.mono HBc0.out);rw [hp1] at h;refine h.mono ?_;rintro e wc1 ⟨rfl,hb1⟩;have HBc1:Hid (Below w.heap.size w wc1):=HBc0.out.trans (hb1.mono HBc0.out.size);have hXc1:=za (hXc0) hzc0 hb1;have hzc1:w.heap.size < wc1.heap.size:=nLt hzc0 hb1.size;clear h hb1 hXc0;go_wp2_with fail
        have h:=zB fa fcap ss[ix].fs m.fr _ (HFL.out.mono HBc1.out);rw [hp2] at h;refine h.mono ?_;rintro e wc2 ⟨rfl,hb2⟩;have HBc2:Hid (Below w.heap.size w wc2):=HBc1.out.trans (hb2.mono HBc1.out.size);have hXc2:=za (hXc1) hzc1 hb2;have hzc2:w.heap.size < wc2.heap.size:=nLt hzc1 hb2.size;clear h hb2 hXc1;go_wp2_with fail
        go_quiet (fail)
        go_wp2_with fail
        go_ret;exact ⟨by rw [HSh.out,HT.out];rfl,below_drewN HBc2.out _⟩
    ·skip
     by_cases e1:m.wh=m.fd
     ·have he1:(m.wh.toList == m.fd.toList)=true:=by rw [Gate.beq_toList];simpa using e1
      have HT:Hid (Gate.yx ss[ix].fs m=false):=by unfold Hid Gate.yx Gate.yC Gate.isSet;simp [*]
      clear e1;have h:=zB fa fcap ss[ix].fs m.fd _ (HFL.out.mono HBA.out);rw [hp0] at h;refine h.mono ?_;rintro e wc0 ⟨rfl,hb0⟩;have HBc0:Hid (Below w.heap.size w wc0):=HBA.out.trans (hb0.mono HBA.out.size);have hXc0:=za (zm w _ _) (by simp) hb0;have hzc0:w.heap.size < wc0.heap.size:=nLt (by simp) hb0.size;clear h hb0;go_wp2_with fail
      have h:=zB fa fcap ss[ix].fs m.wh _ (HFL.out.mono HBc0.out);rw [hp1] at h;refine h.mono ?_;rintro e wc1 ⟨rfl,hb1⟩;have HBc1:Hid (Below w.heap.size w wc1):=HBc0.out.trans (hb1.mono HBc0.out.size);have hXc1:=za (hXc0) hzc0 hb1;have hzc1:w.heap.size < wc1.heap.size:=nLt hzc0 hb1.size;clear h hb1 hXc0;go_wp2_with fail
      go_ret;exact ⟨by rw [HSh.out,HT.out];rfl,HBc1.out⟩
     have he1:(m.wh.toList == m.fd.toList)=false:=by rw [Gate.beq_toList];simpa using e1
     by_cases e2:m.fr=m.fd
     ·have he2:(m.fr.toList == m.fd.toList)=true:=by rw [Gate.beq_toList];simpa using e2
      have HT:Hid (Gate.yx ss[ix].fs m=false):=by unfold Hid Gate.yx Gate.yC Gate.isSet;simp [*]
      clear e2;have h:=zB fa fcap ss[ix].fs m.fd _ (HFL.out.mono HBA.out);rw [hp0] at h;refine h.mono ?_;rintro e wc0 ⟨rfl,hb0⟩;have HBc0:Hid (Below w.heap.size w wc0):=HBA.out.trans (hb0.mono HBA.out.size);have hXc0:=za (zm w _ _) (by simp) hb0;have hzc0:w.heap.size < wc0.heap.size:=nLt (by simp) hb0.size;clear h hb0;go_wp2_with fail
      have h:=zB fa fcap ss[ix].fs m.wh _ (HFL.out.mono HBc0.out);rw [hp1] at h;refine h.mono ?_;rintro e wc1 ⟨rfl,hb1⟩;have HBc1:Hid (Below w.heap.size w wc1):=HBc0.out.trans (hb1.mono HBc0.out.size);have hXc1:=za (hXc0) hzc0 hb1;have hzc1:w.heap.size < wc1.heap.size:=nLt hzc0 hb1.size;clear h hb1 hXc0;go_wp2_with fail
      go_ret;exact ⟨by rw [HSh.out,HT.out];rfl,HBc1.out⟩
     have he2:(m.fr.toList == m.fd.toList)=false:=by rw [Gate.beq_toList];simpa using e2
     rcases hwi:m.wi.toList.isEmpty with _ | _
     ·skip
      rcases hpt:m.pt.toList.isEmpty with _ | _
      ·skip
       have HT:Hid (Gate.yx ss[ix].fs m=Gate.zeK (Gate.zbk ss[ix].fs m.fd) m.pt):=by unfold Hid Gate.yx Gate.yC Gate.isSet;simp [*]
       have h:=zB fa fcap ss[ix].fs m.fd _ (HFL.out.mono HBA.out);rw [hp0] at h;refine h.mono ?_;rintro e wc0 ⟨rfl,hb0⟩;have HBc0:Hid (Below w.heap.size w wc0):=HBA.out.trans (hb0.mono HBA.out.size);have hXc0:=za (zm w _ _) (by simp) hb0;have hzc0:w.heap.size < wc0.heap.size:=nLt (by simp) hb0.size;clear h hb0;go_wp2_with fail
       have h:=zB fa fcap ss[ix].fs m.wh _ (HFL.out.mono HBc0.out);rw [hp1] at h;refine h.mono ?_;rintro e wc1 ⟨rfl,hb1⟩;have HBc1:Hid (Below w.heap.size w wc1):=HBc0.out.trans (hb1.mono HBc0.out.size);have hXc1:=za (hXc0) hzc0 hb1;have hzc1:w.heap.size < wc1.heap.size:=nLt hzc0 hb1.size;clear h hb1 hXc0;go_wp2_with fail
       obtain ⟨fi,hfi,hixx,hfind⟩:∃ fi,∃ h:fi < ss[ix].fs.length,Gate.zR ss[ix].fs m.fd=(fi:Int)/\ss[ix].fs.find? (fun f=>decide (f.nm=m.fd))=some ss[ix].fs[fi]:=by
        rcases Gate.jm ss[ix].fs m.fd with ⟨_,h2⟩ | ⟨fi,hfi,h1,_,h3⟩
        ·rw [Gate.zau h2] at hp0;cases hp0
        ·exact ⟨fi,hfi,h1,h3⟩
       have HFO:Hid (Gate.zbk ss[ix].fs m.fd=ss[ix].fs[fi]):=by unfold Hid Gate.zbk;rw [hfind];rfl
       obtain ⟨fb,foff,rfl,hfb,hrows⟩:=HFL.out.rows (by intro e;rw [e] at hfi;simp at hfi);obtain ⟨wa,wcap,hf0⟩:=hrows fi hfi;have HFI:Hid (∀ W,Below w.heap.size w W->zel W fb (foff+fi * 11) ss[ix].fs[fi] wa wcap):=fun W hb=>hf0.mono hfb hb
       have hfiI:(fi:Int) < (ss[ix].fs.length:Int):=by omega
       have hbc:Below w.heap.size w wc1.drew:=HBc1.out.drew;have HXw:Hid (∀ j,wc1.cell? ⟨w.heap.size,j,none⟩=(#[.string m.kd,.string m.fd,.string m.wh,.string m.wi,.string m.pt,.string m.fr]:Array Value)[j]?):=hXc1;have hbW:Below wc1.heap.size wc1 wc1.drew:=(bRf _ _).drew;have hXc:=za HXw.out hzc1 hbW;have hL:=(HFI.out _ hbc).load
       have HFX:Hid (∀ W,Below w.heap.size w W->Calls Tryz.prog 171 #[.slice (some ⟨fb,foff,none⟩) ss[ix].fs.length fcap,.string m.fd] W fun e w'=>e = .returned (.int .i64 (fi:Int))/\w'=W):=by
        intro W hb;have h:=qx (some ⟨fb,foff,none⟩) fcap ss[ix].fs m.fd W (HFL.out.mono hb);rw [hixx] at h;exact h
       have HPT:Hid (m.pt.size<=maxLen):=hm.pt;clear hrows hf0 hfind hixx
       go_region_held3 (fun w'=>(∀ j,w'.cell? ⟨w.heap.size,j,none⟩=(#[.string m.kd,.string m.fd,.string m.wh,.string m.wi,.string m.pt,.string m.fr]:Array Value)[j]?)/\w'.cell? ⟨fb,foff+fi * 11,none⟩=some (.string ss[ix].fs[fi].nm)/\w'.cell? ⟨fb,foff+fi * 11+1,none⟩=some (.int .i64 ss[ix].fs[fi].kd)/\w'.cell? ⟨fb,foff+fi * 11+2,none⟩=some (.int .i64 ss[ix].fs[fi].ls)/\w'.cell? ⟨fb,foff+fi * 11+3,none⟩=some (.int .i64 ss[ix].fs[fi].ms)/\w'.cell? ⟨fb,foff+fi * 11+4,none⟩=some (.slice wa ss[ix].fs[fi].ws.length wcap)/\w'.cell? ⟨fb,foff+fi * 11+5,none⟩=some (.string ss[ix].fs[fi].to)/\w'.cell? ⟨fb,foff+fi * 11+6,none⟩=some (.int .i64 ss[ix].fs[fi].rl)/\w'.cell? ⟨fb,foff+fi * 11+7,none⟩=some (.bool ss[ix].fs[fi].mu)/\w'.cell? ⟨fb,foff+fi * 11+8,none⟩=some (.bool ss[ix].fs[fi].fx)/\w'.cell? ⟨fb,foff+fi * 11+9,none⟩=some (.string ss[ix].fs[fi].df)/\w'.cell? ⟨fb,foff+fi * 11+10,none⟩=some (.string ss[ix].fs[fi].wg)) (exact ⟨hXc,hL⟩) (first
        | (go_at_call 171;refine (HFX.out _ hbc).mono ?_;rintro e w5 ⟨rfl,rfl⟩)
        | (go_at_call 130;refine (yS _ _ _ _ _ _ _ _ _ _ _ _ _ _ _ HPT.out (by exact (HFI.out _ hbc).strs)).mono ?_;rintro e w5 ⟨rfl,hb5⟩;have hbW:=hbW.trans (hb5.mono hbW.size);have hbc:=hbc.trans (hb5.mono hbc.size);have hXc:=za HXw.out hzc1 hbW;have hL:=(HFI.out _ hbc).load;clear hb5))
       go_wp2_with fail
       go_ret;exact ⟨by rw [HSh.out,HT.out,HFO.out];rfl,hbc⟩
      ·skip
       have HT:Hid (Gate.yx ss[ix].fs m=false):=by unfold Hid Gate.yx Gate.yC Gate.isSet;simp [*]
       have h:=zB fa fcap ss[ix].fs m.fd _ (HFL.out.mono HBA.out);rw [hp0] at h;refine h.mono ?_;rintro e wc0 ⟨rfl,hb0⟩;have HBc0:Hid (Below w.heap.size w wc0):=HBA.out.trans (hb0.mono HBA.out.size);have hXc0:=za (zm w _ _) (by simp) hb0;have hzc0:w.heap.size < wc0.heap.size:=nLt (by simp) hb0.size;clear h hb0;go_wp2_with fail
       have h:=zB fa fcap ss[ix].fs m.wh _ (HFL.out.mono HBc0.out);rw [hp1] at h;refine h.mono ?_;rintro e wc1 ⟨rfl,hb1⟩;have HBc1:Hid (Below w.heap.size w wc1):=HBc0.out.trans (hb1.mono HBc0.out.size);have hXc1:=za (hXc0) hzc0 hb1;have hzc1:w.heap.size < wc1.heap.size:=nLt hzc0 hb1.size;clear h hb1 hXc0;go_wp2_with fail
       go_ret;exact ⟨by rw [HSh.out,HT.out];rfl,HBc1.out⟩
     ·skip
      rcases hpt:m.pt.toList.isEmpty with _ | _
      ·skip
       have HT:Hid (Gate.yx ss[ix].fs m=Gate.zeK (Gate.zbk ss[ix].fs m.fd) m.pt):=by unfold Hid Gate.yx Gate.yC Gate.isSet;simp [*]
       have h:=zB fa fcap ss[ix].fs m.fd _ (HFL.out.mono HBA.out);rw [hp0] at h;refine h.mono ?_;rintro e wc0 ⟨rfl,hb0⟩;have HBc0:Hid (Below w.heap.size w wc0):=HBA.out.trans (hb0.mono HBA.out.size);have hXc0:=za (zm w _ _) (by simp) hb0;have hzc0:w.heap.size < wc0.heap.size:=nLt (by simp) hb0.size;clear h hb0;go_wp2_with fail
       have h:=zB fa fcap ss[ix].fs m.wh _ (HFL.out.mono HBc0.out);rw [hp1] at h;refine h.mono ?_;rintro e wc1 ⟨rfl,hb1⟩;have HBc1:Hid (Below w.heap.size w wc1):=HBc0.out.trans (hb1.mono HBc0.out.size);have hXc1:=za (hXc0) hzc0 hb1;have hzc1:w.heap.size < wc1.heap.size:=nLt hzc0 hb1.size;clear h hb1 hXc0;go_wp2_with fail
       obtain ⟨fi,hfi,hixx,hfind⟩:∃ fi,∃ h:fi < ss[ix].fs.length,Gate.zR ss[ix].fs m.fd=(fi:Int)/\ss[ix].fs.find? (fun f=>decide (f.nm=m.fd))=some ss[ix].fs[fi]:=by
        rcases Gate.jm ss[ix].fs m.fd with ⟨_,h2⟩ | ⟨fi,hfi,h1,_,h3⟩
        ·rw [Gate.zau h2] at hp0;cases hp0
        ·exact ⟨fi,hfi,h1,h3⟩
       have HFO:Hid (Gate.zbk ss[ix].fs m.fd=ss[ix].fs[fi]):=by unfold Hid Gate.zbk;rw [hfind];rfl
       obtain ⟨fb,foff,rfl,hfb,hrows⟩:=HFL.out.rows (by intro e;rw [e] at hfi;simp at hfi);obtain ⟨wa,wcap,hf0⟩:=hrows fi hfi;have HFI:Hid (∀ W,Below w.heap.size w W->zel W fb (foff+fi * 11) ss[ix].fs[fi] wa wcap):=fun W hb=>hf0.mono hfb hb
       have hfiI:(fi:Int) < (ss[ix].fs.length:Int):=by omega
       have hbc:Below w.heap.size w wc1.drew:=HBc1.out.drew;have HXw:Hid (∀ j,wc1.cell? ⟨w.heap.size,j,none⟩=(#[.string m.kd,.string m.fd,.string m.wh,.string m.wi,.string m.pt,.string m.fr]:Array Value)[j]?):=hXc1;have hbW:Below wc1.heap.size wc1 wc1.drew:=(bRf _ _).drew;have hXc:=za HXw.out hzc1 hbW;have hL:=(HFI.out _ hbc).load
       have HFX:Hid (∀ W,Below w.heap.size w W->Calls Tryz.prog 171 #[.slice (some ⟨fb,foff,none⟩) ss[ix].fs.length fcap,.string m.fd] W fun e w'=>e = .returned (.int .i64 (fi:Int))/\w'=W):=by
        intro W hb;have h:=qx (some ⟨fb,foff,none⟩) fcap ss[ix].fs m.fd W (HFL.out.mono hb);rw [hixx] at h;exact h
       have HPT:Hid (m.pt.size<=maxLen):=hm.pt;clear hrows hf0 hfind hixx
       go_region_held3 (fun w'=>(∀ j,w'.cell? ⟨w.heap.size,j,none⟩=(#[.string m.kd,.string m.fd,.string m.wh,.string m.wi,.string m.pt,.string m.fr]:Array Value)[j]?)/\w'.cell? ⟨fb,foff+fi * 11,none⟩=some (.string ss[ix].fs[fi].nm)/\w'.cell? ⟨fb,foff+fi * 11+1,none⟩=some (.int .i64 ss[ix].fs[fi].kd)/\w'.cell? ⟨fb,foff+fi * 11+2,none⟩=some (.int .i64 ss[ix].fs[fi].ls)/\w'.cell? ⟨fb,foff+fi * 11+3,none⟩=some (.int .i64 ss[ix].fs[fi].ms)/\w'.cell? ⟨fb,foff+fi * 11+4,none⟩=some (.slice wa ss[ix].fs[fi].ws.length wcap)/\w'.cell? ⟨fb,foff+fi * 11+5,none⟩=some (.string ss[ix].fs[fi].to)/\w'.cell? ⟨fb,foff+fi * 11+6,none⟩=some (.int .i64 ss[ix].fs[fi].rl)/\w'.cell? ⟨fb,foff+fi * 11+7,none⟩=some (.bool ss[ix].fs[fi].mu)/\w'.cell? ⟨fb,foff+fi * 11+8,none⟩=some (.bool ss[ix].fs[fi].fx)/\w'.cell? ⟨fb,foff+fi * 11+9,none⟩=some (.string ss[ix].fs[fi].df)/\w'.cell? ⟨fb,foff+fi * 11+10,none⟩=some (.string ss[ix].fs[fi].wg)) (exact ⟨hXc,hL⟩) (first
        | (go_at_call 171;refine (HFX.out _ hbc).mono ?_;rintro e w5 ⟨rfl,rfl⟩)
        | (go_at_call 130;refine (yS _ _ _ _ _ _ _ _ _ _ _ _ _ _ _ HPT.out (by exact (HFI.out _ hbc).strs)).mono ?_;rintro e w5 ⟨rfl,hb5⟩;have hbW:=hbW.trans (hb5.mono hbW.size);have hbc:=hbc.trans (hb5.mono hbc.size);have hXc:=za HXw.out hzc1 hbW;have hL:=(HFI.out _ hbc).load;clear hb5))
       go_wp2_with fail
       go_ret;exact ⟨by rw [HSh.out,HT.out,HFO.out];rfl,hbc⟩
      ·skip
       have HT:Hid (Gate.yx ss[ix].fs m=false):=by unfold Hid Gate.yx Gate.yC Gate.isSet;simp [*]
       have h:=zB fa fcap ss[ix].fs m.fd _ (HFL.out.mono HBA.out);rw [hp0] at h;refine h.mono ?_;rintro e wc0 ⟨rfl,hb0⟩;have HBc0:Hid (Below w.heap.size w wc0):=HBA.out.trans (hb0.mono HBA.out.size);have hXc0:=za (zm w _ _) (by simp) hb0;have hzc0:w.heap.size < wc0.heap.size:=nLt (by simp) hb0.size;clear h hb0;go_wp2_with fail
       have h:=zB fa fcap ss[ix].fs m.wh _ (HFL.out.mono HBc0.out);rw [hp1] at h;refine h.mono ?_;rintro e wc1 ⟨rfl,hb1⟩;have HBc1:Hid (Below w.heap.size w wc1):=HBc0.out.trans (hb1.mono HBc0.out.size);have hXc1:=za (hXc0) hzc0 hb1;have hzc1:w.heap.size < wc1.heap.size:=nLt hzc0 hb1.size;clear h hb1 hXc0;go_wp2_with fail
       go_ret;exact ⟨by rw [HSh.out,HT.out];rfl,HBc1.out⟩
  ·skip
   rcases hfr:m.fr.toList.isEmpty with _ | _
   ·skip
    rcases hp2:Gate.plain ss[ix].fs m.fr with _ | _
    ·skip
     have HT:Hid (Gate.yx ss[ix].fs m=false):=by unfold Hid Gate.yx Gate.yC Gate.isSet;simp [*]
     have h:=zB fa fcap ss[ix].fs m.fd _ (HFL.out.mono HBA.out);rw [hp0] at h;refine h.mono ?_;rintro e wc0 ⟨rfl,hb0⟩;have HBc0:Hid (Below w.heap.size w wc0):=HBA.out.trans (hb0.mono HBA.out.size);have hXc0:=za (zm w _ _) (by simp) hb0;have hzc0:w.heap.size < wc0.heap.size:=nLt (by simp) hb0.size;clear h hb0;go_wp2_with fail
     have h:=zB fa fcap ss[ix].fs m.fr _ (HFL.out.mono HBc0.out);rw [hp2] at h;refine h.mono ?_;rintro e wc1 ⟨rfl,hb1⟩;have HBc1:Hid (Below w.heap.size w wc1):=HBc0.out.trans (hb1.mono HBc0.out.size);have hXc1:=za (hXc0) hzc0 hb1;have hzc1:w.heap.size < wc1.heap.size:=nLt hzc0 hb1.size;clear h hb1 hXc0;go_wp2_with fail
     go_ret;exact ⟨by rw [HSh.out,HT.out];rfl,HBc1.out⟩
    ·skip
     by_cases e1:m.wh=m.fd
     ·have he1:(m.wh.toList == m.fd.toList)=true:=by rw [Gate.beq_toList];simpa using e1
      have HT:Hid (Gate.yx ss[ix].fs m=false):=by unfold Hid Gate.yx Gate.yC Gate.isSet;simp [*]
      clear e1;have h:=zB fa fcap ss[ix].fs m.fd _ (HFL.out.mono HBA.out);rw [hp0] at h;refine h.mono ?_;rintro e wc0 ⟨rfl,hb0⟩;have HBc0:Hid (Below w.heap.size w wc0):=HBA.out.trans (hb0.mono HBA.out.size);have hXc0:=za (zm w _ _) (by simp) hb0;have hzc0:w.heap.size < wc0.heap.size:=nLt (by simp) hb0.size;clear h hb0;go_wp2_with fail
      have h:=zB fa fcap ss[ix].fs m.fr _ (HFL.out.mono HBc0.out);rw [hp2] at h;refine h.mono ?_;rintro e wc1 ⟨rfl,hb1⟩;have HBc1:Hid (Below w.heap.size w wc1):=HBc0.out.trans (hb1.mono HBc0.out.size);have hXc1:=za (hXc0) hzc0 hb1;have hzc1:w.heap.size < wc1.heap.size:=nLt hzc0 hb1.size;clear h hb1 hXc0;go_wp2_with fail
      go_ret;exact ⟨by rw [HSh.out,HT.out];rfl,HBc1.out⟩
     have he1:(m.wh.toList == m.fd.toList)=false:=by rw [Gate.beq_toList];simpa using e1
     by_cases e2:m.fr=m.fd
     ·have he2:(m.fr.toList == m.fd.toList)=true:=by rw [Gate.beq_toList];simpa using e2
      have HT:Hid (Gate.yx ss[ix].fs m=false):=by unfold Hid Gate.yx Gate.yC Gate.isSet;simp [*]
      clear e2;have h:=zB fa fcap ss[ix].fs m.fd _ (HFL.out.mono HBA.out);rw [hp0] at h;refine h.mono ?_;rintro e wc0 ⟨rfl,hb0⟩;have HBc0:Hid (Below w.heap.size w wc0):=HBA.out.trans (hb0.mono HBA.out.size);have hXc0:=za (zm w _ _) (by simp) hb0;have hzc0:w.heap.size < wc0.heap.size:=nLt (by simp) hb0.size;clear h hb0;go_wp2_with fail
      have h:=zB fa fcap ss[ix].fs m.fr _ (HFL.out.mono HBc0.out);rw [hp2] at h;refine h.mono ?_;rintro e wc1 ⟨rfl,hb1⟩;have HBc1:Hid (Below w.heap.size w wc1):=HBc0.out.trans (hb1.mono HBc0.out.size);have hXc1:=za (hXc0) hzc0 hb1;have hzc1:w.heap.size < wc1.heap.size:=nLt hzc0 hb1.size;clear h hb1 hXc0;go_wp2_with fail
      go_ret;exact ⟨by rw [HSh.out,HT.out];rfl,HBc1.out⟩
     have he2:(m.fr.toList == m.fd.toList)=false:=by rw [Gate.beq_toList];simpa using e2
     rcases hwi:m.wi.toList.isEmpty with _ | _
     ·skip
      have HT:Hid (Gate.yx ss[ix].fs m=false):=by unfold Hid Gate.yx Gate.yC Gate.isSet;simp [*]
      have h:=zB fa fcap ss[ix].fs m.fd _ (HFL.out.mono HBA.out);rw [hp0] at h;refine h.mono ?_;rintro e wc0 ⟨rfl,hb0⟩;have HBc0:Hid (Below w.heap.size w wc0):=HBA.out.trans (hb0.mono HBA.out.size);have hXc0:=za (zm w _ _) (by simp) hb0;have hzc0:w.heap.size < wc0.heap.size:=nLt (by simp) hb0.size;clear h hb0;go_wp2_with fail
      have h:=zB fa fcap ss[ix].fs m.fr _ (HFL.out.mono HBc0.out);rw [hp2] at h;refine h.mono ?_;rintro e wc1 ⟨rfl,hb1⟩;have HBc1:Hid (Below w.heap.size w wc1):=HBc0.out.trans (hb1.mono HBc0.out.size);have hXc1:=za (hXc0) hzc0 hb1;have hzc1:w.heap.size < wc1.heap.size:=nLt hzc0 hb1.size;clear h hb1 hXc0;go_wp2_with fail
      go_ret;exact ⟨by rw [HSh.out,HT.out];rfl,HBc1.out⟩
     ·skip
      rcases hpt:m.pt.toList.isEmpty with _ | _
      ·skip
       have HT:Hid (Gate.yx ss[ix].fs m=false):=by unfold Hid Gate.yx Gate.yC Gate.isSet;simp [*]
       have h:=zB fa fcap ss[ix].fs m.fd _ (HFL.out.mono HBA.out);rw [hp0] at h;refine h.mono ?_;rintro e wc0 ⟨rfl,hb0⟩;have HBc0:Hid (Below w.heap.size w wc0):=HBA.out.trans (hb0.mono HBA.out.size);have hXc0:=za (zm w _ _) (by simp) hb0;have hzc0:w.heap.size < wc0.heap.size:=nLt (by simp) hb0.size;clear h hb0;go_wp2_with fail
       have h:=zB fa fcap ss[ix].fs m.fr _ (HFL.out.mono HBc0.out);rw [hp2] at h;refine h.mono ?_;rintro e wc1 ⟨rfl,hb1⟩;have HBc1:Hid (Below w.heap.size w wc1):=HBc0.out.trans (hb1.mono HBc0.out.size);have hXc1:=za (hXc0) hzc0 hb1;have hzc1:w.heap.size < wc1.heap.size:=nLt hzc0 hb1.size;clear h hb1 hXc0;go_wp2_with fail
       go_ret;exact ⟨by rw [HSh.out,HT.out];rfl,HBc1.out⟩
      ·skip
       have HT:Hid (Gate.yx ss[ix].fs m=true):=by unfold Hid Gate.yx Gate.yC Gate.isSet;simp [*]
       have h:=zB fa fcap ss[ix].fs m.fd _ (HFL.out.mono HBA.out);rw [hp0] at h;refine h.mono ?_;rintro e wc0 ⟨rfl,hb0⟩;have HBc0:Hid (Below w.heap.size w wc0):=HBA.out.trans (hb0.mono HBA.out.size);have hXc0:=za (zm w _ _) (by simp) hb0;have hzc0:w.heap.size < wc0.heap.size:=nLt (by simp) hb0.size;clear h hb0;go_wp2_with fail
       have h:=zB fa fcap ss[ix].fs m.fr _ (HFL.out.mono HBc0.out);rw [hp2] at h;refine h.mono ?_;rintro e wc1 ⟨rfl,hb1⟩;have HBc1:Hid (Below w.heap.size w wc1):=HBc0.out.trans (hb1.mono HBc0.out.size);have hXc1:=za (hXc0) hzc0 hb1;have hzc1:w.heap.size < wc1.heap.size:=nLt hzc0 hb1.size;clear h hb1 hXc0;go_wp2_with fail
       go_quiet (fail)
       go_wp2_with fail
       go_ret;exact ⟨by rw [HSh.out,HT.out];rfl,below_drewN HBc1.out _⟩
   ·skip
    by_cases e1:m.wh=m.fd
    ·have he1:(m.wh.toList == m.fd.toList)=true:=by rw [Gate.beq_toList];simpa using e1
     have HT:Hid (Gate.yx ss[ix].fs m=false):=by unfold Hid Gate.yx Gate.yC Gate.isSet;simp [*]
     clear e1;have h:=zB fa fcap ss[ix].fs m.fd _ (HFL.out.mono HBA.out);rw [hp0] at h;refine h.mono ?_;rintro e wc0 ⟨rfl,hb0⟩;have HBc0:Hid (Below w.heap.size w wc0):=HBA.out.trans (hb0.mono HBA.out.size);have hXc0:=za (zm w _ _) (by simp) hb0;have hzc0:w.heap.size < wc0.heap.size:=nLt (by simp) hb0.size;clear h hb0;go_wp2_with fail
     go_ret;exact ⟨by rw [HSh.out,HT.out];rfl,HBc0.out⟩
    have he1:(m.wh.toList == m.fd.toList)=false:=by rw [Gate.beq_toList];simpa using e1
    by_cases e2:m.fr=m.fd
    ·have he2:(m.fr.toList == m.fd.toList)=true:=by rw [Gate.beq_toList];simpa using e2
     have HT:Hid (Gate.yx ss[ix].fs m=false):=by unfold Hid Gate.yx Gate.yC Gate.isSet;simp [*]
     clear e2;have h:=zB fa fcap ss[ix].fs m.fd _ (HFL.out.mono HBA.out);rw [hp0] at h;refine h.mono ?_;rintro e wc0 ⟨rfl,hb0⟩;have HBc0:Hid (Below w.heap.size w wc0):=HBA.out.trans (hb0.mono HBA.out.size);have hXc0:=za (zm w _ _) (by simp) hb0;have hzc0:w.heap.size < wc0.heap.size:=nLt (by simp) hb0.size;clear h hb0;go_wp2_with fail
     go_ret;exact ⟨by rw [HSh.out,HT.out];rfl,HBc0.out⟩
    have he2:(m.fr.toList == m.fd.toList)=false:=by rw [Gate.beq_toList];simpa using e2
    rcases hwi:m.wi.toList.isEmpty with _ | _
    ·skip
     have HT:Hid (Gate.yx ss[ix].fs m=false):=by unfold Hid Gate.yx Gate.yC Gate.isSet;simp [*]
     have h:=zB fa fcap ss[ix].fs m.fd _ (HFL.out.mono HBA.out);rw [hp0] at h;refine h.mono ?_;rintro e wc0 ⟨rfl,hb0⟩;have HBc0:Hid (Below w.heap.size w wc0):=HBA.out.trans (hb0.mono HBA.out.size);have hXc0:=za (zm w _ _) (by simp) hb0;have hzc0:w.heap.size < wc0.heap.size:=nLt (by simp) hb0.size;clear h hb0;go_wp2_with fail
     go_ret;exact ⟨by rw [HSh.out,HT.out];rfl,HBc0.out⟩
    ·skip
     rcases hpt:m.pt.toList.isEmpty with _ | _
     ·skip
      have HT:Hid (Gate.yx ss[ix].fs m=Gate.zeK (Gate.zbk ss[ix].fs m.fd) m.pt):=by unfold Hid Gate.yx Gate.yC Gate.isSet;simp [*]
      have h:=zB fa fcap ss[ix].fs m.fd _ (HFL.out.mono HBA.out);rw [hp0] at h;refine h.mono ?_;rintro e wc0 ⟨rfl,hb0⟩;have HBc0:Hid (Below w.heap.size w wc0):=HBA.out.trans (hb0.mono HBA.out.size);have hXc0:=za (zm w _ _) (by simp) hb0;have hzc0:w.heap.size < wc0.heap.size:=nLt (by simp) hb0.size;clear h hb0;go_wp2_with fail
      obtain ⟨fi,hfi,hixx,hfind⟩:∃ fi,∃ h:fi < ss[ix].fs.length,Gate.zR ss[ix].fs m.fd=(fi:Int)/\ss[ix].fs.find? (fun f=>decide (f.nm=m.fd))=some ss[ix].fs[fi]:=by
       rcases Gate.jm ss[ix].fs m.fd with ⟨_,h2⟩ | ⟨fi,hfi,h1,_,h3⟩
       ·rw [Gate.zau h2] at hp0;cases hp0
       ·exact ⟨fi,hfi,h1,h3⟩
      have HFO:Hid (Gate.zbk ss[ix].fs m.fd=ss[ix].fs[fi]):=by unfold Hid Gate.zbk;rw [hfind];rfl
      obtain ⟨fb,foff,rfl,hfb,hrows⟩:=HFL.out.rows (by intro e;rw [e] at hfi;simp at hfi);obtain ⟨wa,wcap,hf0⟩:=hrows fi hfi;have HFI:Hid (∀ W,Below w.heap.size w W->zel W fb (foff+fi * 11) ss[ix].fs[fi] wa wcap):=fun W hb=>hf0.mono hfb hb
      have hfiI:(fi:Int) < (ss[ix].fs.length:Int):=by omega
      have hbc:Below w.heap.size w wc0.drew:=HBc0.out.drew;have HXw:Hid (∀ j,wc0.cell? ⟨w.heap.size,j,none⟩=(#[.string m.kd,.string m.fd,.string m.wh,.string m.wi,.string m.pt,.string m.fr]:Array Value)[j]?):=hXc0;have hbW:Below wc0.heap.size wc0 wc0.drew:=(bRf _ _).drew;have hXc:=za HXw.out hzc0 hbW;have hL:=(HFI.out _ hbc).load
      have HFX:Hid (∀ W,Below w.heap.size w W->Calls Tryz.prog 171 #[.slice (some ⟨fb,foff,none⟩) ss[ix].fs.length fcap,.string m.fd] W fun e w'=>e = .returned (.int .i64 (fi:Int))/\w'=W):=by
       intro W hb;have h:=qx (some ⟨fb,foff,none⟩) fcap ss[ix].fs m.fd W (HFL.out.mono hb);rw [hixx] at h;exact h
      have HPT:Hid (m.pt.size<=maxLen):=hm.pt;clear hrows hf0 hfind hixx
      go_region_held3 (fun w'=>(∀ j,w'.cell? ⟨w.heap.size,j,none⟩=(#[.string m.kd,.string m.fd,.string m.wh,.string m.wi,.string m.pt,.string m.fr]:Array Value)[j]?)/\w'.cell? ⟨fb,foff+fi * 11,none⟩=some (.string ss[ix].fs[fi].nm)/\w'.cell? ⟨fb,foff+fi * 11+1,none⟩=some (.int .i64 ss[ix].fs[fi].kd)/\w'.cell? ⟨fb,foff+fi * 11+2,none⟩=some (.int .i64 ss[ix].fs[fi].ls)/\w'.cell? ⟨fb,foff+fi * 11+3,none⟩=some (.int .i64 ss[ix].fs[fi].ms)/\w'.cell? ⟨fb,foff+fi * 11+4,none⟩=some (.slice wa ss[ix].fs[fi].ws.length wcap)/\w'.cell? ⟨fb,foff+fi * 11+5,none⟩=some (.string ss[ix].fs[fi].to)/\w'.cell? ⟨fb,foff+fi * 11+6,none⟩=some (.int .i64 ss[ix].fs[fi].rl)/\w'.cell? ⟨fb,foff+fi * 11+7,none⟩=some (.bool ss[ix].fs[fi].mu)/\w'.cell? ⟨fb,foff+fi * 11+8,none⟩=some (.bool ss[ix].fs[fi].fx)/\w'.cell? ⟨fb,foff+fi * 11+9,none⟩=some (.string ss[ix].fs[fi].df)/\w'.cell? ⟨fb,foff+fi * 11+10,none⟩=some (.string ss[ix].fs[fi].wg)) (exact ⟨hXc,hL⟩) (first
       | (go_at_call 171;refine (HFX.out _ hbc).mono ?_;rintro e w5 ⟨rfl,rfl⟩)
       | (go_at_call 130;refine (yS _ _ _ _ _ _ _ _ _ _ _ _ _ _ _ HPT.out (by exact (HFI.out _ hbc).strs)).mono ?_;rintro e w5 ⟨rfl,hb5⟩;have hbW:=hbW.trans (hb5.mono hbW.size);have hbc:=hbc.trans (hb5.mono hbc.size);have hXc:=za HXw.out hzc0 hbW;have hL:=(HFI.out _ hbc).load;clear hb5))
      go_wp2_with fail
      go_ret;exact ⟨by rw [HSh.out,HT.out,HFO.out];rfl,hbc⟩
     ·skip
      have HT:Hid (Gate.yx ss[ix].fs m=false):=by unfold Hid Gate.yx Gate.yC Gate.isSet;simp [*]
      have h:=zB fa fcap ss[ix].fs m.fd _ (HFL.out.mono HBA.out);rw [hp0] at h;refine h.mono ?_;rintro e wc0 ⟨rfl,hb0⟩;have HBc0:Hid (Below w.heap.size w wc0):=HBA.out.trans (hb0.mono HBA.out.size);have hXc0:=za (zm w _ _) (by simp) hb0;have hzc0:w.heap.size < wc0.heap.size:=nLt (by simp) hb0.size;clear h hb0;go_wp2_with fail
      go_ret;exact ⟨by rw [HSh.out,HT.out];rfl,HBc0.out⟩
namespace Gate
def qE (kd fld:ByteArray) (row:List ByteArray) (m:Mnd):Bool:=!(decide (m.kd=kd) && decide (m.fd=fld)) || ((!isSet m.wh || has row m.wh) && (!isSet m.fr || has row m.fr))
def zcj (ms:List Mnd) (kd fld:ByteArray) (row:List ByteArray):Bool:=ms.all (qE kd fld row)
end Gate
set_option maxRecDepth 20000 in
theorem zmR (a ra:Option Addr) (cap rcap:Nat) (ms:List Mnd) (kd fld:ByteArray) (row:List ByteArray) (w:World) (hm:yY w a ms) (hr:zD w ra row) (hml:ms.length<=12) :
 Calls Tryz.prog 173 #[.slice a ms.length cap,.string kd,.string fld,.slice ra row.length rcap] w fun e w'=>e = .returned (.bool (Gate.zcj ms kd fld row))/\Below w.heap.size w w':=by
 have HM:Hid (yY w a ms/\zD w ra row):=⟨hm,hr⟩
 clear hm hr;go_enter Tryz.func173,Tryz.ntmps173;go_wp2_with fail
 go_loopw [9] (fun iv wr=>∃ k:Nat,k<=ms.length/\iv = .int .i64 k/\(ms.take k).all (Gate.qE kd fld row)=true/\Below w.heap.size w wr) (fun iv _=>ms.length - (intOf iv).toNat)
 case atStart=>exact ⟨0,Nat.zero_le _,rfl,rfl,bRf _ _⟩
 case round =>
  obtain ⟨k,hk,rfl,hall,hB⟩:=hrel;have HB:Hid (Below w.heap.size w wr):=hB;have HA:Hid ((ms.take k).all (Gate.qE kd fld row)=true):=hall
  by_cases hlt:k < ms.length
  ·obtain ⟨b,off,rfl,hb,c0,c1,c2,c3,c4,c5⟩:=HM.out.1.load hB k hlt
   have hltI:(k:Int) < (ms.length:Int):=by omega
   have HTK:Hid ((ms.take (k+1)).all (Gate.qE kd fld row)=Gate.qE kd fld row ms[k]):=by
    unfold Hid;rw [tSe hlt,List.all_append,HA.out];simp
   have HNO:Hid (Gate.qE kd fld row ms[k]=false->Gate.zcj ms kd fld row=false):=by
    intro h;unfold Gate.zcj;rw [List.all_eq_false];exact ⟨_,List.getElem_mem hlt,by rw [h];simp⟩
   have HBA:Hid (Below w.heap.size w (wr.alloc (.cells #[.string ms[k].kd,.string ms[k].fd,.string ms[k].wh,.string ms[k].wi,.string ms[k].pt,.string ms[k].fr] 125))):=hB.alloc hB.size _;clear hall hB HA
   by_cases e1:ms[k].kd=kd
   rotate_left
   ·have he1:(ms[k].kd.toList == kd.toList)=false:=by rw [Gate.beq_toList];simpa using e1
    have HY:Hid (Gate.qE kd fld row ms[k]=true):=by unfold Hid Gate.qE;simp [e1]
    clear e1;go_wp2_with fail
    exact ⟨⟨k+1,by omega,by go_num,by rw [HTK.out];exact HY.out,HBA.out⟩,zn hlt⟩
   have he1:(ms[k].kd.toList == kd.toList)=true:=by rw [Gate.beq_toList];simpa using e1
   by_cases e2:ms[k].fd=fld
   rotate_left
   ·have he2:(ms[k].fd.toList == fld.toList)=false:=by rw [Gate.beq_toList];simpa using e2
    have HY:Hid (Gate.qE kd fld row ms[k]=true):=by unfold Hid Gate.qE;simp [e2]
    clear e1 e2;go_wp2_with fail
    exact ⟨⟨k+1,by omega,by go_num,by rw [HTK.out];exact HY.out,HBA.out⟩,zn hlt⟩
   have he2:(ms[k].fd.toList == fld.toList)=true:=by rw [Gate.beq_toList];simpa using e2
   have HRD:Hid (Gate.qE kd fld row ms[k]=((!Gate.isSet ms[k].wh || Gate.has row ms[k].wh) && (!Gate.isSet ms[k].fr || Gate.has row ms[k].fr))):=by unfold Hid Gate.qE;simp [e1,e2]
   clear e1 e2
   rcases hwh:ms[k].wh.toList.isEmpty with _ | _ <;> rcases hfr:ms[k].fr.toList.isEmpty with _ | _
   all_goals go_wp2_with fail
   ·skip
    have h:=zcz ra rcap row ms[k].wh _ (HM.out.2.mono HBA.out)
    rcases hh1:Gate.has row ms[k].wh with _ | _
    ·rw [hh1] at h
     refine h.mono ?_;rintro e w3 ⟨rfl,rfl⟩;have HF:Hid (Gate.zcj ms kd fld row=false):=HNO.out (by rw [HRD.out];unfold Gate.isSet;simp [*]);clear h;go_wp2_with fail
     go_ret;exact ⟨by rw [HF.out];rfl,HBA.out⟩
    ·rw [hh1] at h
     refine h.mono ?_;rintro e w3 ⟨rfl,rfl⟩;clear h;go_wp2_with fail
     have h:=zcz ra rcap row ms[k].fr _ (HM.out.2.mono HBA.out)
     rcases hh2:Gate.has row ms[k].fr with _ | _
     ·rw [hh2] at h
      refine h.mono ?_;rintro e w3 ⟨rfl,rfl⟩;have HF:Hid (Gate.zcj ms kd fld row=false):=HNO.out (by rw [HRD.out];unfold Gate.isSet;simp [*]);clear h;go_wp2_with fail
      go_ret;exact ⟨by rw [HF.out];rfl,HBA.out⟩
     ·rw [hh2] at h
      refine h.mono ?_;rintro e w3 ⟨rfl,rfl⟩;clear h;go_wp2_with fail
      have HY:Hid (Gate.qE kd fld row ms[k]=true):=by unfold Hid;rw [HRD.out];unfold Gate.isSet;simp [*]
      exact ⟨⟨k+1,by omega,by go_num,by rw [HTK.out];exact HY.out,HBA.out⟩,zn hlt⟩
   ·skip
    have h:=zcz ra rcap row ms[k].wh _ (HM.out.2.mono HBA.out)
    rcases hh1:Gate.has row ms[k].wh with _ | _
    ·rw [hh1] at h
     refine h.mono ?_;rintro e w3 ⟨rfl,rfl⟩;have HF:Hid (Gate.zcj ms kd fld row=false):=HNO.out (by rw [HRD.out];unfold Gate.isSet;simp [*]);clear h;go_wp2_with fail
     go_ret;exact ⟨by rw [HF.out];rfl,HBA.out⟩
    ·rw [hh1] at h
     refine h.mono ?_;rintro e w3 ⟨rfl,rfl⟩;clear h;go_wp2_with fail
     have HY:Hid (Gate.qE kd fld row ms[k]=true):=by unfold Hid;rw [HRD.out];unfold Gate.isSet;simp [*]
     exact ⟨⟨k+1,by omega,by go_num,by rw [HTK.out];exact HY.out,HBA.out⟩,zn hlt⟩
   ·skip
    have h:=zcz ra rcap row ms[k].fr _ (HM.out.2.mono HBA.out)
    rcases hh2:Gate.has row ms[k].fr with _ | _
    ·rw [hh2] at h
     refine h.mono ?_;rintro e w3 ⟨rfl,rfl⟩;have HF:Hid (Gate.zcj ms kd fld row=false):=HNO.out (by rw [HRD.out];unfold Gate.isSet;simp [*]);clear h;go_wp2_with fail
     go_ret;exact ⟨by rw [HF.out];rfl,HBA.out⟩
    ·rw [hh2] at h
     refine h.mono ?_;rintro e w3 ⟨rfl,rfl⟩;clear h;go_wp2_with fail
     have HY:Hid (Gate.qE kd fld row ms[k]=true):=by unfold Hid;rw [HRD.out];unfold Gate.isSet;simp [*]
     exact ⟨⟨k+1,by omega,by go_num,by rw [HTK.out];exact HY.out,HBA.out⟩,zn hlt⟩
   ·skip
    have HY:Hid (Gate.qE kd fld row ms[k]=true):=by unfold Hid;rw [HRD.out];unfold Gate.isSet;simp [*]
    exact ⟨⟨k+1,by omega,by go_num,by rw [HTK.out];exact HY.out,HBA.out⟩,zn hlt⟩
  ·have e:k=ms.length:=by omega
   rw [e,tOl (Nat.le_refl _)] at hall;have HF:Hid (Gate.zcj ms kd fld row=true):=hall;subst e;clear hall HA hB;go_wp2_with fail
   go_ret;exact ⟨by rw [HF.out];rfl,HB.out⟩
theorem zlx {w:World} {lo:Nat} {a:Option Addr} {n cap:Nat} {row:List ByteArray} (h:w.ownsRow lo 9 1 (.slice a n cap) row.length (row.map Value.string)) (hl:row.length<=maxLen) (hs:∀ s ∈ row,s.size<=maxLen):zD w a row:=by
 refine ⟨hl,hs,fun hne=>?_⟩;obtain ⟨_,⟨h0,h1⟩ | ⟨g,cp,cur,h0,h1⟩⟩:=id h
 ·exact absurd (List.length_eq_zero_iff.1 h1) hne
 ·cases h0
  refine ⟨g,0,rfl,(h.lt g rfl).2,fun i hi=>?_⟩;rw [Nat.zero_add,h.cellAt i (by omega)]
  simp [hi]
namespace Gate
def zbc (s:Shp) (i:Nat):ByteArray:=(s.fs.getD i zbC).nm
def jy (s:Shp) (ms:List Mnd) (row:List ByteArray) (i:Nat):Bool:=!has row (zbc s i) && zcj ms s.kd (zbc s i) row
def zey (s:Shp) (ms:List Mnd) (row:List ByteArray):List ByteArray:=match (List.range s.fs.length).find? (jy s ms row) with | none=>row | some i=>row ++ [zbc s i]
def zT (s:Shp) (ms:List Mnd):Nat->List ByteArray
 | 0=>[]
 | k+1=>zey s ms (zT s ms k)
theorem zkS (s:Shp) (ms:List Mnd) (row:List ByteArray):(zey s ms row).length<=row.length+1:=by
 unfold zey;split
 ·omega
 ·simp
theorem zew (s:Shp) (ms:List Mnd):∀ k,(zT s ms k).length<=k
 | 0=>Nat.le_refl _
 | k+1=>Nat.le_trans (zkS s ms _) (by have:=zew s ms k;omega)
theorem zer (s:Shp) (ms:List Mnd):∀ k,∀ x ∈ zT s ms k,∃ i,i < s.fs.length/\x=zbc s i
 | 0,x,h=>by cases h
 | k+1,x,h=>by
  have h':x ∈ zey s ms (zT s ms k):=h;unfold zey at h'
  split at h'
  ·exact zer s ms k x h'
  ·rename_i i hi
   rw [List.mem_append,List.mem_singleton] at h'
   rcases h' with h' | h'
   ·exact zer s ms k x h'
   ·exact ⟨i,List.mem_range.1 (List.mem_of_find?_eq_some hi),h'⟩
end Gate
set_option maxRecDepth 20000 in
theorem zkH (fa ma:Option Addr) (fcap mcap:Nat) (s:Shp) (ms:List Mnd) (w:World) (hf:zP w fa s.fs) (hm:yY w ma ms) (hml:ms.length<=12) (hn:s.fs.length<=6) :
 Calls Tryz.prog 127 #[.agg #[.string s.kd,.slice fa s.fs.length fcap],.slice ma ms.length mcap] w fun e w'=>∃ v,e = .returned v/\w'.ownsRow w.heap.size 9 1 v (Gate.zT s ms s.fs.length).length ((Gate.zT s ms s.fs.length).map Value.string)/\Below w.heap.size w w':=by
 have HM:Hid (zP w fa s.fs/\yY w ma ms):=⟨hf,hm⟩
 have HSM:Hid (∀ k,∀ x ∈ Gate.zT s ms k,x.size<=maxLen):=by
  intro k x hx;obtain ⟨i,hi,rfl⟩:=Gate.zer s ms k x hx;unfold Gate.zbc;rw [Gate.getD_at _ _ _ hi];exact (hf.smalls.small i hi).1.nm
 obtain ⟨i0,hi0,hz0,hz1',hz2⟩:=info_parts Tryz.zcP;clear hf hm;go_enter Tryz.func127,Tryz.ntmps127;go_wp2_with fail
 have hnI:(s.fs.length:Int)<=6:=by omega
 go_loopw [5,6] (fun v0 iv wr=>∃ (k:Nat) (v:Value),v=v0/\k<=s.fs.length/\iv = .int .i64 k/\wr.ownsRow (w.heap.size+1) 9 1 v (Gate.zT s ms k).length ((Gate.zT s ms k).map Value.string)/\wr.heap[w.heap.size]?=some (.cells #[.string s.kd,.slice fa s.fs.length fcap] 123)/\Below w.heap.size w wr) (fun _ iv _=>s.fs.length - (intOf iv).toNat)
 case atStart=>exact ⟨0,_,rfl,Nat.zero_le _,rfl,⟨rfl,.inr ⟨w.heap.size+1,0,#[],rfl,Nat.le_refl _,(yh _ _ _).2,Nat.le_refl _,by simp [maxLen],rfl,rfl⟩⟩,(yh _ _ _).1,zA _ _ _⟩
 case round =>
  obtain ⟨k,v,hv,hk,rfl,hown,hbox,hB⟩:=hrel;subst hv;obtain ⟨va,vcap,rfl⟩:=yV hown;have HW:Hid (wr.ownsRow (w.heap.size+1) 9 1 (.slice va (Gate.zT s ms k).length vcap) (Gate.zT s ms k).length ((Gate.zT s ms k).map Value.string)/\wr.heap[w.heap.size]?=some (.cells #[.string s.kd,.slice fa s.fs.length fcap] 123)/\Below w.heap.size w wr):=⟨hown,hbox,hB⟩
  have hXr:∀ j,wr.cell? ⟨w.heap.size,j,none⟩=(#[.string s.kd,.slice fa s.fs.length fcap]:Array Value)[j]?:=fun j=>cell_of_block hbox
  have hzr:w.heap.size < wr.heap.size:=(gES hbox).1;have HGL:Hid ((Gate.zT s ms k).length<=6):=by have:=Gate.zew s ms k;show _<=_;omega
  clear hown hbox hB
  by_cases hlt:k < s.fs.length
  ·have hltI:(k:Int) < (s.fs.length:Int):=by omega
   go_wp2_with fail
   clear hXr;obtain ⟨wo,hwo⟩:∃ wo,wo=wr:=⟨_,rfl⟩
   have HWO:Hid (wo.ownsRow (w.heap.size+1) 9 1 (.slice va (Gate.zT s ms k).length vcap) (Gate.zT s ms k).length ((Gate.zT s ms k).map Value.string)/\wo.heap[w.heap.size]?=some (.cells #[.string s.kd,.slice fa s.fs.length fcap] 123)/\Below w.heap.size w wo/\w.heap.size < wo.heap.size):=by rw [hwo];exact ⟨HW.out.1,HW.out.2.1,HW.out.2.2,hzr⟩
   have HWE:Hid (wo=wr):=hwo;clear hwo HW hzr
   go_loopw [5,7] (fun v1 iv wq=>∃ i:Nat,i<=s.fs.length/\iv = .int .i64 i/\v1 = .slice va (Gate.zT s ms k).length vcap/\(∀ q,q < i->Gate.jy s ms (Gate.zT s ms k) q=false)/\Below wo.heap.size wo wq) (fun _ iv _=>s.fs.length - (intOf iv).toNat)
   case atStart=>exact ⟨0,Nat.zero_le _,rfl,rfl,fun q h=>absurd h (by omega),by rw [HWE.out];exact bRf _ _⟩
   case round =>
    obtain ⟨i,hi,rfl,rfl,hno,hBq⟩:=hrel;have HQ:Hid ((∀ q,q < i->Gate.jy s ms (Gate.zT s ms k) q=false)/\Below wo.heap.size wo wr/\wr.ownsRow (w.heap.size+1) 9 1 (.slice va (Gate.zT s ms k).length vcap) (Gate.zT s ms k).length ((Gate.zT s ms k).map Value.string)/\wr.heap[w.heap.size]?=some (.cells #[.string s.kd,.slice fa s.fs.length fcap] 123)/\Below w.heap.size w wr):=⟨hno,hBq,yO HWO.out.1 hBq,(hBq.block _ HWO.out.2.2.2).trans HWO.out.2.1,HWO.out.2.2.1.trans (hBq.mono HWO.out.2.2.1.size)⟩
    have hXq:=zbv HQ.out.2.2.2.1;have hzq:w.heap.size < wr.heap.size:=(gES HQ.out.2.2.2.1).1;clear hno hBq
    by_cases hil:i < s.fs.length
    ·have hilI:(i:Int) < (s.fs.length:Int):=by omega
     obtain ⟨fb,foff,rfl,hfb,hr⟩:=HM.out.1.rows (by intro e;rw [e] at hil;simp at hil);obtain ⟨wa,wcap,hf0⟩:=hr i hil;obtain ⟨c0,c1,c2,c3,c4,c5,c6,c7,c8,c9,c10⟩:=(hf0.mono hfb HQ.out.2.2.2.2).load;have HNM:Hid (Gate.zbc s i=s.fs[i].nm):=by unfold Hid Gate.zbc;rw [Gate.getD_at _ _ _ hil]
     have HST:Hid (zD wr va (Gate.zT s ms k)):=zlx HQ.out.2.2.1 (by have:=HGL.out;unfold maxLen;omega) (HSM.out k)
     have HFIND:Hid (Gate.jy s ms (Gate.zT s ms k) i=true->Gate.zT s ms (k+1)=Gate.zT s ms k ++ [s.fs[i].nm]):=by
      intro h
      show Gate.zey s ms (Gate.zT s ms k)=_
      unfold Gate.zey
      have:(List.range s.fs.length).find? (Gate.jy s ms (Gate.zT s ms k))=some i:=by
       rw [List.find?_range_eq_some];exact ⟨h,List.mem_range.2 hil,fun j hj=>by rw [HQ.out.1 j hj];rfl⟩
      rw [this]
      show Gate.zT s ms k ++ [Gate.zbc s i]=_
      rw [HNM.out]
     clear hr hf0 c1 c2 c3 c4 c5 c6 c7 c8 c9 c10;go_wp2_with fail
     have h:=zcz va vcap (Gate.zT s ms k) s.fs[i].nm wr HST.out
     rcases hh:Gate.has (Gate.zT s ms k) s.fs[i].nm with _ | _
     rotate_left
     ·rw [hh] at h
      refine h.mono ?_;rintro e w3 ⟨rfl,rfl⟩
      have HNR:Hid (∀ q,q < i+1->Gate.jy s ms (Gate.zT s ms k) q=false):=by
       intro q hq
       rcases Nat.lt_or_ge q i with h1 | h1
       ·exact HQ.out.1 q h1
       ·have e:q=i:=by omega
        subst e;unfold Gate.jy;rw [HNM.out,hh];rfl
      clear h hh;go_wp2_with fail
      exact ⟨⟨i+1,by omega,by go_num,rfl,HNR.out,HQ.out.2.1⟩,zn hil⟩
     rw [hh] at h;refine h.mono ?_;rintro e w3' ⟨rfl,hw3⟩;rw [hw3];clear hw3 w3';have HRN:Hid (Gate.jy s ms (Gate.zT s ms k) i=Gate.zcj ms s.kd s.fs[i].nm (Gate.zT s ms k)):=by unfold Hid Gate.jy;rw [HNM.out,hh];rfl
     clear h hh;go_wp2_with fail
     have h:=zmR ma va mcap vcap ms s.kd s.fs[i].nm (Gate.zT s ms k) wr (HM.out.2.mono HQ.out.2.2.2.2) HST.out hml
     rcases hh:Gate.zcj ms s.kd s.fs[i].nm (Gate.zT s ms k) with _ | _
     ·rw [hh] at h
      refine h.mono ?_;rintro e w3 ⟨rfl,hb3⟩
      have HNR:Hid ((∀ q,q < i+1->Gate.jy s ms (Gate.zT s ms k) q=false)/\Below wo.heap.size wo w3):=by
       refine ⟨fun q hq=>?_,HQ.out.2.1.trans (hb3.mono HQ.out.2.1.size)⟩
       rcases Nat.lt_or_ge q i with h1 | h1
       ·exact HQ.out.1 q h1
       ·have e:q=i:=by omega
        subst e;rw [HRN.out,hh]
      clear h hh hb3;go_wp2_with fail
      exact ⟨⟨i+1,by omega,by go_num,rfl,HNR.out.1,HNR.out.2⟩,zn hil⟩
     rw [hh] at h;refine h.mono ?_;rintro e w3 ⟨rfl,hb3⟩;have HG1:Hid (Gate.zT s ms (k+1)=Gate.zT s ms k ++ [s.fs[i].nm]):=HFIND.out (by rw [HRN.out,hh]);have H3:Hid (w3.ownsRow (w.heap.size+1) 9 1 (.slice va (Gate.zT s ms k).length vcap) (Gate.zT s ms k).length ((Gate.zT s ms k).map Value.string)/\w3.heap[w.heap.size]?=some (.cells #[.string s.kd,.slice (some ⟨fb,foff,none⟩) s.fs.length fcap] 123)/\Below w.heap.size w w3/\w.heap.size < w3.heap.size):=⟨yO HQ.out.2.2.1 hb3,(hb3.block _ hzq).trans HQ.out.2.2.2.1,HQ.out.2.2.2.2.trans (hb3.mono HQ.out.2.2.2.2.size),nLt hzq hb3.size⟩
     clear h hh hb3 hXq c0
     go_wp2_with (at_builtin;refine zg0 ?_)
     show wpList _ _ _ _ _ _
     refine wpList_append_own _ rfl (.tmp 42) (.tmp 44) 102 rfl (w.heap.size+1) 9 i0 (.string ByteArray.empty) 1 16 Tryz.underlying102 hi0 hz0 hz1' hz2 rfl (by decide) (.slice va (Gate.zT s ms k).length vcap) _ _ rfl (H3.out.1.alloc _) ⟨w3.heap.size,0,none⟩ 1 1 [.string s.fs[i].nm] rfl rfl (zca _ _ _) (by intro u hu;simp at hu;subst hu;rfl) (by have:=HGL.out;unfold maxLen;omega) (by have:=HGL.out;omega) (by have:=H3.out.2.2.2;simp;omega) ?_;intro v' w4 hown' hgr _;obtain ⟨va',vcap',rfl⟩:=yV hown';have hgb:∀ g,(Value.slice va (Gate.zT s ms k).length vcap).ownBlock=some g->w.heap.size+1<=g:=fun g hg=>(H3.out.1.lt g hg).1
     have HY:Hid (w4.ownsRow (w.heap.size+1) 9 1 (.slice va' ((Gate.zT s ms k).length+1) vcap') (Gate.zT s ms (k+1)).length ((Gate.zT s ms (k+1)).map Value.string)/\w4.heap[w.heap.size]?=some (.cells #[.string s.kd,.slice (some ⟨fb,foff,none⟩) s.fs.length fcap] 123)/\Below w.heap.size w w4):=by
      refine ⟨by rw [HG1.out,List.length_append,List.map_append];exact hown',?_,zaQ H3.out.2.2.1 H3.out.2.2.1.size hgr (fun g hg=>by have:=hgb g hg;omega)⟩;exact (zaI hgr (by have:=H3.out.2.2.2;simp;omega) (fun g hg=>by have:=hgb g hg;omega)).trans ((Below.heap_alloc _ _ _ H3.out.2.2.2).trans H3.out.2.1)
     clear hown' hgr hgb;go_wp2_with fail
     exact ⟨⟨k+1,_,rfl,by omega,by go_num,HY.out.1,HY.out.2.1,HY.out.2.2⟩,zn hlt⟩
    ·have e:i=s.fs.length:=by omega
     have HN:Hid (Gate.zT s ms (k+1)=Gate.zT s ms k):=by
      show Gate.zey s ms (Gate.zT s ms k)=_
      unfold Gate.zey
      have:(List.range s.fs.length).find? (Gate.jy s ms (Gate.zT s ms k))=none:=by
       rw [List.find?_eq_none];intro q hq;rw [HQ.out.1 q (by rw [e];exact List.mem_range.1 hq)]
       simp
      rw [this]
     subst e;go_wp2_with fail
     exact ⟨⟨k+1,_,rfl,by omega,by go_num,by rw [HN.out];exact HQ.out.2.2.1,HQ.out.2.2.2.1,HQ.out.2.2.2.2⟩,zn hlt⟩
  ·have e:k=s.fs.length:=by omega
   subst e;go_wp2_with fail
   go_ret;exact ⟨_,rfl,j3 HW.out.1 (by omega),HW.out.2.2⟩
end Go.Proofs.YtghnakljnhnenaaGreat
