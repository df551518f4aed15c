import Derived.Test.YtnapmdofidgliaaGreatM36
set_option maxHeartbeats 4000000
namespace Go.Proofs.YtnapmdofidgliaaGreat
open Go.RowKit
set_option maxRecDepth 20000 in
theorem zlQ (a:Option Addr)(cap:Nat)(ss:List Shp)(m:Mnd)(w:World)(hw:yU w a ss)(hm:m.Small)(hk:zG ss m.kd=true) :
 Calls Tryz.prog 130 #[.slice a ss.length cap,.agg m.cells] w fun e w'=>e=.returned (.bool (yu (shapeOf ss m.kd).fs m))/\Below w.heap.size w w':=by
 have hl:=hw.len;unfold maxLen at hl;unfold Mnd.cells;have hba:=(bRf w.heap.size w).alloc (Nat.le_refl _) (.cells #[.string m.kd,.string m.fd,.string m.wh,.string m.wi,.string m.pt,.string m.fr] 133);go_enter Tryz.func130,Tryz.ntmps130;go_wp2_with fail
 refine(jJ _ _ _ _ _ (hw.mono hba) hk).mono ?_;rintro e w1⟨ix,hix,rfl,hsh,rfl⟩;have HSh:Hid (shapeOf ss m.kd=ss[ix]):=hsh;obtain⟨b,off,rfl,hb,hr⟩:=hw.rows (by rintro rfl;simp at hix);obtain⟨fa,fcap,hs⟩:=hr ix hix;have hcl:=hs.list;have HFL:Hid (zY w fa ss[ix].fs):=hs.zdk;have hixI:(ix:Int)<(ss.length:Int):=by omega
 have hix0:decide ((ix:Int)<0)=false:=by simp
 have hbw:b<w.heap.size:=hb;have HBA:Hid (Below w.heap.size w (w.alloc (.cells #[.string m.kd,.string m.fd,.string m.wh,.string m.wi,.string m.pt,.string m.fr] 133))):=hba;clear hr hs hsh hk hw hba;go_wp2_with fail
 rcases hp0:plain ss[ix].fs m.fd with _|_
 ·skip
  have HT:Hid (yu ss[ix].fs m=false):=by unfold Hid yu yD isSet;simp[*]
  have h:=zA fa fcap ss[ix].fs m.fd _ (HFL.out.mono HBA.out);rw[hp0]at h;refine h.mono ?_;rintro e wc0⟨rfl,hb0⟩;have HBc0:Hid (Below w.heap.size w wc0):=HBA.out.trans (hb0.mono HBA.out.size);have hXc0:=za (zl w _ _) (by simp) hb0;have hzc0:w.heap.size<wc0.heap.size:=nLt (by simp) hb0.size;clear h hb0;go_wp2_with fail
  go_ret;exact⟨by rw[HSh.out,HT.out];rfl,HBc0.out⟩
 ·skip
  rcases hwh:m.wh.toList.isEmpty with _|_
  ·skip
   rcases hp1:plain ss[ix].fs m.wh with _|_
   ·skip
    have HT:Hid (yu ss[ix].fs m=false):=by unfold Hid yu yD isSet;simp[*]
    have h:=zA fa fcap ss[ix].fs m.fd _ (HFL.out.mono HBA.out);rw[hp0]at h;refine h.mono ?_;rintro e wc0⟨rfl,hb0⟩;have HBc0:Hid (Below w.heap.size w wc0):=HBA.out.trans (hb0.mono HBA.out.size);have hXc0:=za (zl w _ _) (by simp) hb0;have hzc0:w.heap.size<wc0.heap.size:=nLt (by simp) hb0.size;clear h hb0;go_wp2_with fail
    have h:=zA fa fcap ss[ix].fs m.wh _ (HFL.out.mono HBc0.out);rw[hp1]at h;refine h.mono ?_;rintro e wc1⟨rfl,hb1⟩;have HBc1:Hid (Below w.heap.size w wc1):=HBc0.out.trans (hb1.mono HBc0.out.size);have hXc1:=za (hXc0) hzc0 hb1;have hzc1:w.heap.size<wc1.heap.size:=nLt hzc0 hb1.size;clear h hb1 hXc0;go_wp2_with fail
    go_ret;exact⟨by rw[HSh.out,HT.out];rfl,HBc1.out⟩
   ·skip
    rcases hfr:m.fr.toList.isEmpty with _|_
    ·skip
     rcases hp2:plain ss[ix].fs m.fr with _|_
     ·skip
      have HT:Hid (yu ss[ix].fs m=false):=by unfold Hid yu yD isSet;simp[*]
      have h:=zA fa fcap ss[ix].fs m.fd _ (HFL.out.mono HBA.out);rw[hp0]at h;refine h.mono ?_;rintro e wc0⟨rfl,hb0⟩;have HBc0:Hid (Below w.heap.size w wc0):=HBA.out.trans (hb0.mono HBA.out.size);have hXc0:=za (zl w _ _) (by simp) hb0;have hzc0:w.heap.size<wc0.heap.size:=nLt (by simp) hb0.size;clear h hb0;go_wp2_with fail
      have h:=zA fa fcap ss[ix].fs m.wh _ (HFL.out.mono HBc0.out);rw[hp1]at h;refine h.mono ?_;rintro e wc1⟨rfl,hb1⟩;have HBc1:Hid (Below w.heap.size w wc1):=HBc0.out.trans (hb1.mono HBc0.out.size);have hXc1:=za (hXc0) hzc0 hb1;have hzc1:w.heap.size<wc1.heap.size:=nLt hzc0 hb1.size;clear h hb1 hXc0;go_wp2_with fail
      have h:=zA fa fcap ss[ix].fs m.fr _ (HFL.out.mono HBc1.out);rw[hp2]at h;refine h.mono ?_;rintro e wc2⟨rfl,hb2⟩;have HBc2:Hid (Below w.heap.size w wc2):=HBc1.out.trans (hb2.mono HBc1.out.size);have hXc2:=za (hXc1) hzc1 hb2;have hzc2:w.heap.size<wc2.heap.size:=nLt hzc1 hb2.size;clear h hb2 hXc1;go_wp2_with fail
      go_ret;exact⟨by rw[HSh.out,HT.out];rfl,HBc2.out⟩
     ·skip
      by_cases e1:m.wh=m.fd
      ·have he1:(m.wh.toList == m.fd.toList)=true:=by rw[beq_toList];simpa using e1
       have HT:Hid (yu ss[ix].fs m=false):=by unfold Hid yu yD isSet;simp[*]
       clear e1;have h:=zA fa fcap ss[ix].fs m.fd _ (HFL.out.mono HBA.out);rw[hp0]at h;refine h.mono ?_;rintro e wc0⟨rfl,hb0⟩;have HBc0:Hid (Below w.heap.size w wc0):=HBA.out.trans (hb0.mono HBA.out.size);have hXc0:=za (zl w _ _) (by simp) hb0;have hzc0:w.heap.size<wc0.heap.size:=nLt (by simp) hb0.size;clear h hb0;go_wp2_with fail
       have h:=zA fa fcap ss[ix].fs m.wh _ (HFL.out.mono HBc0.out);rw[hp1]at h;refine h.mono ?_;rintro e wc1⟨rfl,hb1⟩;have HBc1:Hid (Below w.heap.size w wc1):=HBc0.out.trans (hb1.mono HBc0.out.size);have hXc1:=za (hXc0) hzc0 hb1;have hzc1:w.heap.size<wc1.heap.size:=nLt hzc0 hb1.size;clear h hb1 hXc0;go_wp2_with fail
       have h:=zA fa fcap ss[ix].fs m.fr _ (HFL.out.mono HBc1.out);rw[hp2]at h;refine h.mono ?_;rintro e wc2⟨rfl,hb2⟩;have HBc2:Hid (Below w.heap.size w wc2):=HBc1.out.trans (hb2.mono HBc1.out.size);have hXc2:=za (hXc1) hzc1 hb2;have hzc2:w.heap.size<wc2.heap.size:=nLt hzc1 hb2.size;clear h hb2 hXc1;go_wp2_with fail
       go_ret;exact⟨by rw[HSh.out,HT.out];rfl,HBc2.out⟩
      have he1:(m.wh.toList == m.fd.toList)=false:=by rw[beq_toList];simpa using e1
      by_cases e2:m.fr=m.fd
      ·have he2:(m.fr.toList == m.fd.toList)=true:=by rw[beq_toList];simpa using e2
       have HT:Hid (yu ss[ix].fs m=false):=by unfold Hid yu yD isSet;simp[*]
       clear e2;have h:=zA fa fcap ss[ix].fs m.fd _ (HFL.out.mono HBA.out);rw[hp0]at h;refine h.mono ?_;rintro e wc0⟨rfl,hb0⟩;have HBc0:Hid (Below w.heap.size w wc0):=HBA.out.trans (hb0.mono HBA.out.size);have hXc0:=za (zl w _ _) (by simp) hb0;have hzc0:w.heap.size<wc0.heap.size:=nLt (by simp) hb0.size;clear h hb0;go_wp2_with fail
       have h:=zA fa fcap ss[ix].fs m.wh _ (HFL.out.mono HBc0.out);rw[hp1]at h;refine h.mono ?_;rintro e wc1⟨rfl,hb1⟩;have HBc1:Hid (Below w.heap.size w wc1):=HBc0.out.trans (hb1.mono HBc0.out.size);have hXc1:=za (hXc0) hzc0 hb1;have hzc1:w.heap.size<wc1.heap.size:=nLt hzc0 hb1.size;clear h hb1 hXc0;go_wp2_with fail
       have h:=zA fa fcap ss[ix].fs m.fr _ (HFL.out.mono HBc1.out);rw[hp2]at h;refine h.mono ?_;rintro e wc2⟨rfl,hb2⟩;have HBc2:Hid (Below w.heap.size w wc2):=HBc1.out.trans (hb2.mono HBc1.out.size);have hXc2:=za (hXc1) hzc1 hb2;have hzc2:w.heap.size<wc2.heap.size:=nLt hzc1 hb2.size;clear h hb2 hXc1;go_wp2_with fail
       go_ret;exact⟨by rw[HSh.out,HT.out];rfl,HBc2.out⟩
      have he2:(m.fr.toList == m.fd.toList)=false:=by rw[beq_toList];simpa using e2
      rcases hwi:m.wi.toList.isEmpty with _|_
      ·skip
       rcases hpt:m.pt.toList.isEmpty with _|_
       ·skip
        have HT:Hid (yu ss[ix].fs m=false):=by unfold Hid yu yD isSet;simp[*]
        have h:=zA fa fcap ss[ix].fs m.fd _ (HFL.out.mono HBA.out);rw[hp0]at h;refine h.mono ?_;rintro e wc0⟨rfl,hb0⟩;have HBc0:Hid (Below w.heap.size w wc0):=HBA.out.trans (hb0.mono HBA.out.size);have hXc0:=za (zl w _ _) (by simp) hb0;have hzc0:w.heap.size<wc0.heap.size:=nLt (by simp) hb0.size;clear h hb0;go_wp2_with fail
        have h:=zA fa fcap ss[ix].fs m.wh _ (HFL.out.mono HBc0.out);rw[hp1]at h;refine h.mono ?_;rintro e wc1⟨rfl,hb1⟩;have HBc1:Hid (Below w.heap.size w wc1):=HBc0.out.trans (hb1.mono HBc0.out.size);have hXc1:=za (hXc0) hzc0 hb1;have hzc1:w.heap.size<wc1.heap.size:=nLt hzc0 hb1.size;clear h hb1 hXc0;go_wp2_with fail
        have h:=zA fa fcap ss[ix].fs m.fr _ (HFL.out.mono HBc1.out);rw[hp2]at h;refine h.mono ?_;rintro e wc2⟨rfl,hb2⟩;have HBc2:Hid (Below w.heap.size w wc2):=HBc1.out.trans (hb2.mono HBc1.out.size);have hXc2:=za (hXc1) hzc1 hb2;have hzc2:w.heap.size<wc2.heap.size:=nLt hzc1 hb2.size;clear h hb2 hXc1;go_wp2_with fail
        go_ret;exact⟨by rw[HSh.out,HT.out];rfl,HBc2.out⟩
       ·skip
        have HT:Hid (yu ss[ix].fs m=true):=by unfold Hid yu yD isSet;simp[*]
        have h:=zA fa fcap ss[ix].fs m.fd _ (HFL.out.mono HBA.out);rw[hp0]at h;refine h.mono ?_;rintro e wc0⟨rfl,hb0⟩;have HBc0:Hid (Below w.heap.size w wc0):=HBA.out.trans (hb0.mono HBA.out.size);have hXc0:=za (zl w _ _) (by simp) hb0;have hzc0:w.heap.size<wc0.heap.size:=nLt (by simp) hb0.size;clear h hb0;go_wp2_with fail
        have h:=zA fa fcap ss[ix].fs m.wh _ (HFL.out.mono HBc0.out);rw[hp1]at h;refine h.mono ?_;rintro e wc1⟨rfl,hb1⟩;have HBc1:Hid (Below w.heap.size w wc1):=HBc0.out.trans (hb1.mono HBc0.out.size);have hXc1:=za (hXc0) hzc0 hb1;have hzc1:w.heap.size<wc1.heap.size:=nLt hzc0 hb1.size;clear h hb1 hXc0;go_wp2_with fail
        have h:=zA fa fcap ss[ix].fs m.fr _ (HFL.out.mono HBc1.out);rw[hp2]at h;refine h.mono ?_;rintro e wc2⟨rfl,hb2⟩;have HBc2:Hid (Below w.heap.size w wc2):=HBc1.out.trans (hb2.mono HBc1.out.size);have hXc2:=za (hXc1) hzc1 hb2;have hzc2:w.heap.size<wc2.heap.size:=nLt hzc1 hb2.size;clear h hb2 hXc1;go_wp2_with fail
        go_quiet (fail)
        go_wp2_with fail
        go_ret;exact⟨by rw[HSh.out,HT.out];rfl,below_drewN HBc2.out _⟩
      ·skip
       rcases hpt:m.pt.toList.isEmpty with _|_
       ·skip
        have HT:Hid (yu ss[ix].fs m=false):=by unfold Hid yu yD isSet;simp[*]
        have h:=zA fa fcap ss[ix].fs m.fd _ (HFL.out.mono HBA.out);rw[hp0]at h;refine h.mono ?_;rintro e wc0⟨rfl,hb0⟩;have HBc0:Hid (Below w.heap.size w wc0):=HBA.out.trans (hb0.mono HBA.out.size);have hXc0:=za (zl w _ _) (by simp) hb0;have hzc0:w.heap.size<wc0.heap.size:=nLt (by simp) hb0.size;clear h hb0;go_wp2_with fail
        have h:=zA fa fcap ss[ix].fs m.wh _ (HFL.out.mono HBc0.out);rw[hp1]at h;refine h.mono ?_;rintro e wc1⟨rfl,hb1⟩;have HBc1:Hid (Below w.heap.size w wc1):=HBc0.out.trans (hb1.mono HBc0.out.size);have hXc1:=za (hXc0) hzc0 hb1;have hzc1:w.heap.size<wc1.heap.size:=nLt hzc0 hb1.size;clear h hb1 hXc0;go_wp2_with fail
        have h:=zA fa fcap ss[ix].fs m.fr _ (HFL.out.mono HBc1.out);rw[hp2]at h;refine h.mono ?_;rintro e wc2⟨rfl,hb2⟩;have HBc2:Hid (Below w.heap.size w wc2):=HBc1.out.trans (hb2.mono HBc1.out.size);have hXc2:=za (hXc1) hzc1 hb2;have hzc2:w.heap.size<wc2.heap.size:=nLt hzc1 hb2.size;clear h hb2 hXc1;go_wp2_with fail
        go_ret;exact⟨by rw[HSh.out,HT.out];rfl,HBc2.out⟩
       ·skip
        have HT:Hid (yu ss[ix].fs m=true):=by unfold Hid yu yD isSet;simp[*]
        have h:=zA fa fcap ss[ix].fs m.fd _ (HFL.out.mono HBA.out);rw[hp0]at h;refine h.mono ?_;rintro e wc0⟨rfl,hb0⟩;have HBc0:Hid (Below w.heap.size w wc0):=HBA.out.trans (hb0.mono HBA.out.size);have hXc0:=za (zl w _ _) (by simp) hb0;have hzc0:w.heap.size<wc0.heap.size:=nLt (by simp) hb0.size;clear h hb0;go_wp2_with fail
        have h:=zA fa fcap ss[ix].fs m.wh _ (HFL.out.mono HBc0.out);rw[hp1]at h;refine h.mono ?_;rintro e wc1⟨rfl,hb1⟩;have HBc1:Hid (Below w.heap.size w wc1):=HBc0.out.trans (hb1.mono HBc0.out.size);have hXc1:=za (hXc0) hzc0 hb1;have hzc1:w.heap.size<wc1.heap.size:=nLt hzc0 hb1.size;clear h hb1 hXc0;go_wp2_with fail
        have h:=zA fa fcap ss[ix].fs m.fr _ (HFL.out.mono HBc1.out);rw[hp2]at h;refine h.mono ?_;rintro e wc2⟨rfl,hb2⟩;have HBc2:Hid (Below w.heap.size w wc2):=HBc1.out.trans (hb2.mono HBc1.out.size);have hXc2:=za (hXc1) hzc1 hb2;have hzc2:w.heap.size<wc2.heap.size:=nLt hzc1 hb2.size;clear h hb2 hXc1;go_wp2_with fail
        go_quiet (fail)
        go_wp2_with fail
        go_ret;exact⟨by rw[HSh.out,HT.out];rfl,below_drewN HBc2.out _⟩
    ·skip
     by_cases e1:m.wh=m.fd
     ·have he1:(m.wh.toList == m.fd.toList)=true:=by rw[beq_toList];simpa using e1
      have HT:Hid (yu ss[ix].fs m=false):=by unfold Hid yu yD isSet;simp[*]
      clear e1;have h:=zA fa fcap ss[ix].fs m.fd _ (HFL.out.mono HBA.out);rw[hp0]at h;refine h.mono ?_;rintro e wc0⟨rfl,hb0⟩;have HBc0:Hid (Below w.heap.size w wc0):=HBA.out.trans (hb0.mono HBA.out.size);have hXc0:=za (zl w _ _) (by simp) hb0;have hzc0:w.heap.size<wc0.heap.size:=nLt (by simp) hb0.size;clear h hb0;go_wp2_with fail
      have h:=zA fa fcap ss[ix].fs m.wh _ (HFL.out.mono HBc0.out);rw[hp1]at h;refine h.mono ?_;rintro e wc1⟨rfl,hb1⟩;have HBc1:Hid (Below w.heap.size w wc1):=HBc0.out.trans (hb1.mono HBc0.out.size);have hXc1:=za (hXc0) hzc0 hb1;have hzc1:w.heap.size<wc1.heap.size:=nLt hzc0 hb1.size;clear h hb1 hXc0;go_wp2_with fail
      go_ret;exact⟨by rw[HSh.out,HT.out];rfl,HBc1.out⟩
     have he1:(m.wh.toList == m.fd.toList)=false:=by rw[beq_toList];simpa using e1
     by_cases e2:m.fr=m.fd
     ·have he2:(m.fr.toList == m.fd.toList)=true:=by rw[beq_toList];simpa using e2
      have HT:Hid (yu ss[ix].fs m=false):=by unfold Hid yu yD isSet;simp[*]
      clear e2;have h:=zA fa fcap ss[ix].fs m.fd _ (HFL.out.mono HBA.out);rw[hp0]at h;refine h.mono ?_;rintro e wc0⟨rfl,hb0⟩;have HBc0:Hid (Below w.heap.size w wc0):=HBA.out.trans (hb0.mono HBA.out.size);have hXc0:=za (zl w _ _) (by simp) hb0;have hzc0:w.heap.size<wc0.heap.size:=nLt (by simp) hb0.size;clear h hb0;go_wp2_with fail
      have h:=zA fa fcap ss[ix].fs m.wh _ (HFL.out.mono HBc0.out);rw[hp1]at h;refine h.mono ?_;rintro e wc1⟨rfl,hb1⟩;have HBc1:Hid (Below w.heap.size w wc1):=HBc0.out.trans (hb1.mono HBc0.out.size);have hXc1:=za (hXc0) hzc0 hb1;have hzc1:w.heap.size<wc1.heap.size:=nLt hzc0 hb1.size;clear h hb1 hXc0;go_wp2_with fail
      go_ret;exact⟨by rw[HSh.out,HT.out];rfl,HBc1.out⟩
     have he2:(m.fr.toList == m.fd.toList)=false:=by rw[beq_toList];simpa using e2
     rcases hwi:m.wi.toList.isEmpty with _|_
     ·skip
      rcases hpt:m.pt.toList.isEmpty with _|_
      ·skip
       have HT:Hid (yu ss[ix].fs m=ze1 (zbn ss[ix].fs m.fd) m.pt):=by unfold Hid yu yD isSet;simp[*]
       have h:=zA fa fcap ss[ix].fs m.fd _ (HFL.out.mono HBA.out);rw[hp0]at h;refine h.mono ?_;rintro e wc0⟨rfl,hb0⟩;have HBc0:Hid (Below w.heap.size w wc0):=HBA.out.trans (hb0.mono HBA.out.size);have hXc0:=za (zl w _ _) (by simp) hb0;have hzc0:w.heap.size<wc0.heap.size:=nLt (by simp) hb0.size;clear h hb0;go_wp2_with fail
       have h:=zA fa fcap ss[ix].fs m.wh _ (HFL.out.mono HBc0.out);rw[hp1]at h;refine h.mono ?_;rintro e wc1⟨rfl,hb1⟩;have HBc1:Hid (Below w.heap.size w wc1):=HBc0.out.trans (hb1.mono HBc0.out.size);have hXc1:=za (hXc0) hzc0 hb1;have hzc1:w.heap.size<wc1.heap.size:=nLt hzc0 hb1.size;clear h hb1 hXc0;go_wp2_with fail
       obtain⟨fi,hfi,hixx,hfind⟩:∃fi,∃h:fi<ss[ix].fs.length,zR ss[ix].fs m.fd=(fi:Int)/\ss[ix].fs.find? (fun f=>decide (f.nm=m.fd))=some ss[ix].fs[fi]:=by
        rcases jm ss[ix].fs m.fd with⟨_,h2⟩|⟨fi,hfi,h1,_,h3⟩
        ·rw[zav h2]at hp0;cases hp0
        ·exact⟨fi,hfi,h1,h3⟩
       have HFO:Hid (zbn ss[ix].fs m.fd=ss[ix].fs[fi]):=by unfold Hid zbn;rw[hfind];rfl
       obtain⟨fb,foff,rfl,hfb,hrows⟩:=HFL.out.rows (by intro e;rw[e]at hfi;simp at hfi);obtain⟨wa,wcap,hf0⟩:=hrows fi hfi;have HFI:Hid (∀W,Below w.heap.size w W->zeC W fb (foff+fi*11) ss[ix].fs[fi] wa wcap):=fun W hb=>hf0.mono hfb hb
       have hfiI:(fi:Int)<(ss[ix].fs.length:Int):=by omega
       have hbc:Below w.heap.size w wc1.drew:=HBc1.out.drew;have HXw:Hid (∀j,wc1.cell? ⟨w.heap.size,j,none⟩=(#[.string m.kd,.string m.fd,.string m.wh,.string m.wi,.string m.pt,.string m.fr]:Array Value)[j]?):=hXc1;have hbW:Below wc1.heap.size wc1 wc1.drew:=(bRf _ _).drew;have hXc:=za HXw.out hzc1 hbW;have hL:=(HFI.out _ hbc).load
       have HFX:Hid (∀W,Below w.heap.size w W->Calls Tryz.prog 172 #[.slice (some ⟨fb,foff,none⟩) ss[ix].fs.length fcap,.string m.fd] W fun e w'=>e=.returned (.int .i64 (fi:Int))/\w'=W):=by
        intro W hb;have h:=qp (some ⟨fb,foff,none⟩) fcap ss[ix].fs m.fd W (HFL.out.mono hb);rw[hixx]at h;exact h
       have HPT:Hid (m.pt.size<=maxLen):=hm.pt;clear hrows hf0 hfind hixx
       go_region_held3 (fun w'=>(∀j,w'.cell? ⟨w.heap.size,j,none⟩=(#[.string m.kd,.string m.fd,.string m.wh,.string m.wi,.string m.pt,.string m.fr]:Array Value)[j]?)/\w'.cell? ⟨fb,foff+fi*11,none⟩=some (.string ss[ix].fs[fi].nm)/\w'.cell? ⟨fb,foff+fi*11+1,none⟩=some (.int .i64 ss[ix].fs[fi].kd)/\w'.cell? ⟨fb,foff+fi*11+2,none⟩=some (.int .i64 ss[ix].fs[fi].ls)/\w'.cell? ⟨fb,foff+fi*11+3,none⟩=some (.int .i64 ss[ix].fs[fi].ms)/\w'.cell? ⟨fb,foff+fi*11+4,none⟩=some (.slice wa ss[ix].fs[fi].ws.length wcap)/\w'.cell? ⟨fb,foff+fi*11+5,none⟩=some (.string ss[ix].fs[fi].to)/\w'.cell? ⟨fb,foff+fi*11+6,none⟩=some (.int .i64 ss[ix].fs[fi].rl)/\w'.cell? ⟨fb,foff+fi*11+7,none⟩=some (.bool ss[ix].fs[fi].mu)/\w'.cell? ⟨fb,foff+fi*11+8,none⟩=some (.bool ss[ix].fs[fi].fx)/\w'.cell? ⟨fb,foff+fi*11+9,none⟩=some (.string ss[ix].fs[fi].df)/\w'.cell? ⟨fb,foff+fi*11+10,none⟩=some (.string ss[ix].fs[fi].wg)) (exact⟨hXc,hL⟩) (first
        | (go_at_call 172;refine(HFX.out _ hbc).mono ?_;rintro e w5⟨rfl,rfl⟩)
        | (go_at_call 134;refine(yS _ _ _ _ _ _ _ _ _ _ _ _ _ _ _ HPT.out (by exact(HFI.out _ hbc).strs)).mono ?_;rintro e w5⟨rfl,hb5⟩;have hbW:=hbW.trans (hb5.mono hbW.size);have hbc:=hbc.trans (hb5.mono hbc.size);have hXc:=za HXw.out hzc1 hbW;have hL:=(HFI.out _ hbc).load;clear hb5))
       go_wp2_with fail
       go_ret;exact⟨by rw[HSh.out,HT.out,HFO.out];rfl,hbc⟩
      ·skip
       have HT:Hid (yu ss[ix].fs m=false):=by unfold Hid yu yD isSet;simp[*]
       have h:=zA fa fcap ss[ix].fs m.fd _ (HFL.out.mono HBA.out);rw[hp0]at h;refine h.mono ?_;rintro e wc0⟨rfl,hb0⟩;have HBc0:Hid (Below w.heap.size w wc0):=HBA.out.trans (hb0.mono HBA.out.size);have hXc0:=za (zl w _ _) (by simp) hb0;have hzc0:w.heap.size<wc0.heap.size:=nLt (by simp) hb0.size;clear h hb0;go_wp2_with fail
       have h:=zA fa fcap ss[ix].fs m.wh _ (HFL.out.mono HBc0.out);rw[hp1]at h;refine h.mono ?_;rintro e wc1⟨rfl,hb1⟩;have HBc1:Hid (Below w.heap.size w wc1):=HBc0.out.trans (hb1.mono HBc0.out.size);have hXc1:=za (hXc0) hzc0 hb1;have hzc1:w.heap.size<wc1.heap.size:=nLt hzc0 hb1.size;clear h hb1 hXc0;go_wp2_with fail
       go_ret;exact⟨by rw[HSh.out,HT.out];rfl,HBc1.out⟩
     ·skip
      rcases hpt:m.pt.toList.isEmpty with _|_
      ·skip
       have HT:Hid (yu ss[ix].fs m=ze1 (zbn ss[ix].fs m.fd) m.pt):=by unfold Hid yu yD isSet;simp[*]
       have h:=zA fa fcap ss[ix].fs m.fd _ (HFL.out.mono HBA.out);rw[hp0]at h;refine h.mono ?_;rintro e wc0⟨rfl,hb0⟩;have HBc0:Hid (Below w.heap.size w wc0):=HBA.out.trans (hb0.mono HBA.out.size);have hXc0:=za (zl w _ _) (by simp) hb0;have hzc0:w.heap.size<wc0.heap.size:=nLt (by simp) hb0.size;clear h hb0;go_wp2_with fail
       have h:=zA fa fcap ss[ix].fs m.wh _ (HFL.out.mono HBc0.out);rw[hp1]at h;refine h.mono ?_;rintro e wc1⟨rfl,hb1⟩;have HBc1:Hid (Below w.heap.size w wc1):=HBc0.out.trans (hb1.mono HBc0.out.size);have hXc1:=za (hXc0) hzc0 hb1;have hzc1:w.heap.size<wc1.heap.size:=nLt hzc0 hb1.size;clear h hb1 hXc0;go_wp2_with fail
       obtain⟨fi,hfi,hixx,hfind⟩:∃fi,∃h:fi<ss[ix].fs.length,zR ss[ix].fs m.fd=(fi:Int)/\ss[ix].fs.find? (fun f=>decide (f.nm=m.fd))=some ss[ix].fs[fi]:=by
        rcases jm ss[ix].fs m.fd with⟨_,h2⟩|⟨fi,hfi,h1,_,h3⟩
        ·rw[zav h2]at hp0;cases hp0
        ·exact⟨fi,hfi,h1,h3⟩
       have HFO:Hid (zbn ss[ix].fs m.fd=ss[ix].fs[fi]):=by unfold Hid zbn;rw[hfind];rfl
       obtain⟨fb,foff,rfl,hfb,hrows⟩:=HFL.out.rows (by intro e;rw[e]at hfi;simp at hfi);obtain⟨wa,wcap,hf0⟩:=hrows fi hfi;have HFI:Hid (∀W,Below w.heap.size w W->zeC W fb (foff+fi*11) ss[ix].fs[fi] wa wcap):=fun W hb=>hf0.mono hfb hb
       have hfiI:(fi:Int)<(ss[ix].fs.length:Int):=by omega
       have hbc:Below w.heap.size w wc1.drew:=HBc1.out.drew;have HXw:Hid (∀j,wc1.cell? ⟨w.heap.size,j,none⟩=(#[.string m.kd,.string m.fd,.string m.wh,.string m.wi,.string m.pt,.string m.fr]:Array Value)[j]?):=hXc1;have hbW:Below wc1.heap.size wc1 wc1.drew:=(bRf _ _).drew;have hXc:=za HXw.out hzc1 hbW;have hL:=(HFI.out _ hbc).load
       have HFX:Hid (∀W,Below w.heap.size w W->Calls Tryz.prog 172 #[.slice (some ⟨fb,foff,none⟩) ss[ix].fs.length fcap,.string m.fd] W fun e w'=>e=.returned (.int .i64 (fi:Int))/\w'=W):=by
        intro W hb;have h:=qp (some ⟨fb,foff,none⟩) fcap ss[ix].fs m.fd W (HFL.out.mono hb);rw[hixx]at h;exact h
       have HPT:Hid (m.pt.size<=maxLen):=hm.pt;clear hrows hf0 hfind hixx
       go_region_held3 (fun w'=>(∀j,w'.cell? ⟨w.heap.size,j,none⟩=(#[.string m.kd,.string m.fd,.string m.wh,.string m.wi,.string m.pt,.string m.fr]:Array Value)[j]?)/\w'.cell? ⟨fb,foff+fi*11,none⟩=some (.string ss[ix].fs[fi].nm)/\w'.cell? ⟨fb,foff+fi*11+1,none⟩=some (.int .i64 ss[ix].fs[fi].kd)/\w'.cell? ⟨fb,foff+fi*11+2,none⟩=some (.int .i64 ss[ix].fs[fi].ls)/\w'.cell? ⟨fb,foff+fi*11+3,none⟩=some (.int .i64 ss[ix].fs[fi].ms)/\w'.cell? ⟨fb,foff+fi*11+4,none⟩=some (.slice wa ss[ix].fs[fi].ws.length wcap)/\w'.cell? ⟨fb,foff+fi*11+5,none⟩=some (.string ss[ix].fs[fi].to)/\w'.cell? ⟨fb,foff+fi*11+6,none⟩=some (.int .i64 ss[ix].fs[fi].rl)/\w'.cell? ⟨fb,foff+fi*11+7,none⟩=some (.bool ss[ix].fs[fi].mu)/\w'.cell? ⟨fb,foff+fi*11+8,none⟩=some (.bool ss[ix].fs[fi].fx)/\w'.cell? ⟨fb,foff+fi*11+9,none⟩=some (.string ss[ix].fs[fi].df)/\w'.cell? ⟨fb,foff+fi*11+10,none⟩=some (.string ss[ix].fs[fi].wg)) (exact⟨hXc,hL⟩) (first
        | (go_at_call 172;refine(HFX.out _ hbc).mono ?_;rintro e w5⟨rfl,rfl⟩)
        | (go_at_call 134;refine(yS _ _ _ _ _ _ _ _ _ _ _ _ _ _ _ HPT.out (by exact(HFI.out _ hbc).strs)).mono ?_;rintro e w5⟨rfl,hb5⟩;have hbW:=hbW.trans (hb5.mono hbW.size);have hbc:=hbc.trans (hb5.mono hbc.size);have hXc:=za HXw.out hzc1 hbW;have hL:=(HFI.out _ hbc).load;clear hb5))
       go_wp2_with fail
       go_ret;exact⟨by rw[HSh.out,HT.out,HFO.out];rfl,hbc⟩
      ·skip
       have HT:Hid (yu ss[ix].fs m=false):=by unfold Hid yu yD isSet;simp[*]
       have h:=zA fa fcap ss[ix].fs m.fd _ (HFL.out.mono HBA.out);rw[hp0]at h;refine h.mono ?_;rintro e wc0⟨rfl,hb0⟩;have HBc0:Hid (Below w.heap.size w wc0):=HBA.out.trans (hb0.mono HBA.out.size);have hXc0:=za (zl w _ _) (by simp) hb0;have hzc0:w.heap.size<wc0.heap.size:=nLt (by simp) hb0.size;clear h hb0;go_wp2_with fail
       have h:=zA fa fcap ss[ix].fs m.wh _ (HFL.out.mono HBc0.out);rw[hp1]at h;refine h.mono ?_;rintro e wc1⟨rfl,hb1⟩;have HBc1:Hid (Below w.heap.size w wc1):=HBc0.out.trans (hb1.mono HBc0.out.size);have hXc1:=za (hXc0) hzc0 hb1;have hzc1:w.heap.size<wc1.heap.size:=nLt hzc0 hb1.size;clear h hb1 hXc0;go_wp2_with fail
       go_ret;exact⟨by rw[HSh.out,HT.out];rfl,HBc1.out⟩
  ·skip
   rcases hfr:m.fr.toList.isEmpty with _|_
   ·skip
    rcases hp2:plain ss[ix].fs m.fr with _|_
    ·skip
     have HT:Hid (yu ss[ix].fs m=false):=by unfold Hid yu yD isSet;simp[*]
     have h:=zA fa fcap ss[ix].fs m.fd _ (HFL.out.mono HBA.out);rw[hp0]at h;refine h.mono ?_;rintro e wc0⟨rfl,hb0⟩;have HBc0:Hid (Below w.heap.size w wc0):=HBA.out.trans (hb0.mono HBA.out.size);have hXc0:=za (zl w _ _) (by simp) hb0;have hzc0:w.heap.size<wc0.heap.size:=nLt (by simp) hb0.size;clear h hb0;go_wp2_with fail
     have h:=zA fa fcap ss[ix].fs m.fr _ (HFL.out.mono HBc0.out);rw[hp2]at h;refine h.mono ?_;rintro e wc1⟨rfl,hb1⟩;have HBc1:Hid (Below w.heap.size w wc1):=HBc0.out.trans (hb1.mono HBc0.out.size);have hXc1:=za (hXc0) hzc0 hb1;have hzc1:w.heap.size<wc1.heap.size:=nLt hzc0 hb1.size;clear h hb1 hXc0;go_wp2_with fail
     go_ret;exact⟨by rw[HSh.out,HT.out];rfl,HBc1.out⟩
    ·skip
     by_cases e1:m.wh=m.fd
     ·have he1:(m.wh.toList == m.fd.toList)=true:=by rw[beq_toList];simpa using e1
      have HT:Hid (yu ss[ix].fs m=false):=by unfold Hid yu yD isSet;simp[*]
      clear e1;have h:=zA fa fcap ss[ix].fs m.fd _ (HFL.out.mono HBA.out);rw[hp0]at h;refine h.mono ?_;rintro e wc0⟨rfl,hb0⟩;have HBc0:Hid (Below w.heap.size w wc0):=HBA.out.trans (hb0.mono HBA.out.size);have hXc0:=za (zl w _ _) (by simp) hb0;have hzc0:w.heap.size<wc0.heap.size:=nLt (by simp) hb0.size;clear h hb0;go_wp2_with fail
      have h:=zA fa fcap ss[ix].fs m.fr _ (HFL.out.mono HBc0.out);rw[hp2]at h;refine h.mono ?_;rintro e wc1⟨rfl,hb1⟩;have HBc1:Hid (Below w.heap.size w wc1):=HBc0.out.trans (hb1.mono HBc0.out.size);have hXc1:=za (hXc0) hzc0 hb1;have hzc1:w.heap.size<wc1.heap.size:=nLt hzc0 hb1.size;clear h hb1 hXc0;go_wp2_with fail
      go_ret;exact⟨by rw[HSh.out,HT.out];rfl,HBc1.out⟩
     have he1:(m.wh.toList == m.fd.toList)=false:=by rw[beq_toList];simpa using e1
     by_cases e2:m.fr=m.fd
     ·have he2:(m.fr.toList == m.fd.toList)=true:=by rw[beq_toList];simpa using e2
      have HT:Hid (yu ss[ix].fs m=false):=by unfold Hid yu yD isSet;simp[*]
      clear e2;have h:=zA fa fcap ss[ix].fs m.fd _ (HFL.out.mono HBA.out);rw[hp0]at h;refine h.mono ?_;rintro e wc0⟨rfl,hb0⟩;have HBc0:Hid (Below w.heap.size w wc0):=HBA.out.trans (hb0.mono HBA.out.size);have hXc0:=za (zl w _ _) (by simp) hb0;have hzc0:w.heap.size<wc0.heap.size:=nLt (by simp) hb0.size;clear h hb0;go_wp2_with fail
      have h:=zA fa fcap ss[ix].fs m.fr _ (HFL.out.mono HBc0.out);rw[hp2]at h;refine h.mono ?_;rintro e wc1⟨rfl,hb1⟩;have HBc1:Hid (Below w.heap.size w wc1):=HBc0.out.trans (hb1.mono HBc0.out.size);have hXc1:=za (hXc0) hzc0 hb1;have hzc1:w.heap.size<wc1.heap.size:=nLt hzc0 hb1.size;clear h hb1 hXc0;go_wp2_with fail
      go_ret;exact⟨by rw[HSh.out,HT.out];rfl,HBc1.out⟩
     have he2:(m.fr.toList == m.fd.toList)=false:=by rw[beq_toList];simpa using e2
     rcases hwi:m.wi.toList.isEmpty with _|_
     ·skip
      have HT:Hid (yu ss[ix].fs m=false):=by unfold Hid yu yD isSet;simp[*]
      have h:=zA fa fcap ss[ix].fs m.fd _ (HFL.out.mono HBA.out);rw[hp0]at h;refine h.mono ?_;rintro e wc0⟨rfl,hb0⟩;have HBc0:Hid (Below w.heap.size w wc0):=HBA.out.trans (hb0.mono HBA.out.size);have hXc0:=za (zl w _ _) (by simp) hb0;have hzc0:w.heap.size<wc0.heap.size:=nLt (by simp) hb0.size;clear h hb0;go_wp2_with fail
      have h:=zA fa fcap ss[ix].fs m.fr _ (HFL.out.mono HBc0.out);rw[hp2]at h;refine h.mono ?_;rintro e wc1⟨rfl,hb1⟩;have HBc1:Hid (Below w.heap.size w wc1):=HBc0.out.trans (hb1.mono HBc0.out.size);have hXc1:=za (hXc0) hzc0 hb1;have hzc1:w.heap.size<wc1.heap.size:=nLt hzc0 hb1.size;clear h hb1 hXc0;go_wp2_with fail
      go_ret;exact⟨by rw[HSh.out,HT.out];rfl,HBc1.out⟩
     ·skip
      rcases hpt:m.pt.toList.isEmpty with _|_
      ·skip
       have HT:Hid (yu ss[ix].fs m=false):=by unfold Hid yu yD isSet;simp[*]
       have h:=zA fa fcap ss[ix].fs m.fd _ (HFL.out.mono HBA.out);rw[hp0]at h;refine h.mono ?_;rintro e wc0⟨rfl,hb0⟩;have HBc0:Hid (Below w.heap.size w wc0):=HBA.out.trans (hb0.mono HBA.out.size);have hXc0:=za (zl w _ _) (by simp) hb0;have hzc0:w.heap.size<wc0.heap.size:=nLt (by simp) hb0.size;clear h hb0;go_wp2_with fail
       have h:=zA fa fcap ss[ix].fs m.fr _ (HFL.out.mono HBc0.out);rw[hp2]at h;refine h.mono ?_;rintro e wc1⟨rfl,hb1⟩;have HBc1:Hid (Below w.heap.size w wc1):=HBc0.out.trans (hb1.mono HBc0.out.size);have hXc1:=za (hXc0) hzc0 hb1;have hzc1:w.heap.size<wc1.heap.size:=nLt hzc0 hb1.size;clear h hb1 hXc0;go_wp2_with fail
       go_ret;exact⟨by rw[HSh.out,HT.out];rfl,HBc1.out⟩
      ·skip
       have HT:Hid (yu ss[ix].fs m=true):=by unfold Hid yu yD isSet;simp[*]
       have h:=zA fa fcap ss[ix].fs m.fd _ (HFL.out.mono HBA.out);rw[hp0]at h;refine h.mono ?_;rintro e wc0⟨rfl,hb0⟩;have HBc0:Hid (Below w.heap.size w wc0):=HBA.out.trans (hb0.mono HBA.out.size);have hXc0:=za (zl w _ _) (by simp) hb0;have hzc0:w.heap.size<wc0.heap.size:=nLt (by simp) hb0.size;clear h hb0;go_wp2_with fail
       have h:=zA fa fcap ss[ix].fs m.fr _ (HFL.out.mono HBc0.out);rw[hp2]at h;refine h.mono ?_;rintro e wc1⟨rfl,hb1⟩;have HBc1:Hid (Below w.heap.size w wc1):=HBc0.out.trans (hb1.mono HBc0.out.size);have hXc1:=za (hXc0) hzc0 hb1;have hzc1:w.heap.size<wc1.heap.size:=nLt hzc0 hb1.size;clear h hb1 hXc0;go_wp2_with fail
       go_quiet (fail)
       go_wp2_with fail
       go_ret;exact⟨by rw[HSh.out,HT.out];rfl,below_drewN HBc1.out _⟩
   ·skip
    by_cases e1:m.wh=m.fd
    ·have he1:(m.wh.toList == m.fd.toList)=true:=by rw[beq_toList];simpa using e1
     have HT:Hid (yu ss[ix].fs m=false):=by unfold Hid yu yD isSet;simp[*]
     clear e1;have h:=zA fa fcap ss[ix].fs m.fd _ (HFL.out.mono HBA.out);rw[hp0]at h;refine h.mono ?_;rintro e wc0⟨rfl,hb0⟩;have HBc0:Hid (Below w.heap.size w wc0):=HBA.out.trans (hb0.mono HBA.out.size);have hXc0:=za (zl w _ _) (by simp) hb0;have hzc0:w.heap.size<wc0.heap.size:=nLt (by simp) hb0.size;clear h hb0;go_wp2_with fail
     go_ret;exact⟨by rw[HSh.out,HT.out];rfl,HBc0.out⟩
    have he1:(m.wh.toList == m.fd.toList)=false:=by rw[beq_toList];simpa using e1
    by_cases e2:m.fr=m.fd
    ·have he2:(m.fr.toList == m.fd.toList)=true:=by rw[beq_toList];simpa using e2
     have HT:Hid (yu ss[ix].fs m=false):=by unfold Hid yu yD isSet;simp[*]
     clear e2;have h:=zA fa fcap ss[ix].fs m.fd _ (HFL.out.mono HBA.out);rw[hp0]at h;refine h.mono ?_;rintro e wc0⟨rfl,hb0⟩;have HBc0:Hid (Below w.heap.size w wc0):=HBA.out.trans (hb0.mono HBA.out.size);have hXc0:=za (zl w _ _) (by simp) hb0;have hzc0:w.heap.size<wc0.heap.size:=nLt (by simp) hb0.size;clear h hb0;go_wp2_with fail
     go_ret;exact⟨by rw[HSh.out,HT.out];rfl,HBc0.out⟩
    have he2:(m.fr.toList == m.fd.toList)=false:=by rw[beq_toList];simpa using e2
    rcases hwi:m.wi.toList.isEmpty with _|_
    ·skip
     have HT:Hid (yu ss[ix].fs m=false):=by unfold Hid yu yD isSet;simp[*]
     have h:=zA fa fcap ss[ix].fs m.fd _ (HFL.out.mono HBA.out);rw[hp0]at h;refine h.mono ?_;rintro e wc0⟨rfl,hb0⟩;have HBc0:Hid (Below w.heap.size w wc0):=HBA.out.trans (hb0.mono HBA.out.size);have hXc0:=za (zl w _ _) (by simp) hb0;have hzc0:w.heap.size<wc0.heap.size:=nLt (by simp) hb0.size;clear h hb0;go_wp2_with fail
     go_ret;exact⟨by rw[HSh.out,HT.out];rfl,HBc0.out⟩
    ·skip
     rcases hpt:m.pt.toList.isEmpty with _|_
     ·skip
      have HT:Hid (yu ss[ix].fs m=ze1 (zbn ss[ix].fs m.fd) m.pt):=by unfold Hid yu yD isSet;simp[*]
      have h:=zA fa fcap ss[ix].fs m.fd _ (HFL.out.mono HBA.out);rw[hp0]at h;refine h.mono ?_;rintro e wc0⟨rfl,hb0⟩;have HBc0:Hid (Below w.heap.size w wc0):=HBA.out.trans (hb0.mono HBA.out.size);have hXc0:=za (zl w _ _) (by simp) hb0;have hzc0:w.heap.size<wc0.heap.size:=nLt (by simp) hb0.size;clear h hb0;go_wp2_with fail
      obtain⟨fi,hfi,hixx,hfind⟩:∃fi,∃h:fi<ss[ix].fs.length,zR ss[ix].fs m.fd=(fi:Int)/\ss[ix].fs.find? (fun f=>decide (f.nm=m.fd))=some ss[ix].fs[fi]:=by
       rcases jm ss[ix].fs m.fd with⟨_,h2⟩|⟨fi,hfi,h1,_,h3⟩
       ·rw[zav h2]at hp0;cases hp0
       ·exact⟨fi,hfi,h1,h3⟩
      have HFO:Hid (zbn ss[ix].fs m.fd=ss[ix].fs[fi]):=by unfold Hid zbn;rw[hfind];rfl
      obtain⟨fb,foff,rfl,hfb,hrows⟩:=HFL.out.rows (by intro e;rw[e]at hfi;simp at hfi);obtain⟨wa,wcap,hf0⟩:=hrows fi hfi;have HFI:Hid (∀W,Below w.heap.size w W->zeC W fb (foff+fi*11) ss[ix].fs[fi] wa wcap):=fun W hb=>hf0.mono hfb hb
      have hfiI:(fi:Int)<(ss[ix].fs.length:Int):=by omega
      have hbc:Below w.heap.size w wc0.drew:=HBc0.out.drew;have HXw:Hid (∀j,wc0.cell? ⟨w.heap.size,j,none⟩=(#[.string m.kd,.string m.fd,.string m.wh,.string m.wi,.string m.pt,.string m.fr]:Array Value)[j]?):=hXc0;have hbW:Below wc0.heap.size wc0 wc0.drew:=(bRf _ _).drew;have hXc:=za HXw.out hzc0 hbW;have hL:=(HFI.out _ hbc).load
      have HFX:Hid (∀W,Below w.heap.size w W->Calls Tryz.prog 172 #[.slice (some ⟨fb,foff,none⟩) ss[ix].fs.length fcap,.string m.fd] W fun e w'=>e=.returned (.int .i64 (fi:Int))/\w'=W):=by
       intro W hb;have h:=qp (some ⟨fb,foff,none⟩) fcap ss[ix].fs m.fd W (HFL.out.mono hb);rw[hixx]at h;exact h
      have HPT:Hid (m.pt.size<=maxLen):=hm.pt;clear hrows hf0 hfind hixx
      go_region_held3 (fun w'=>(∀j,w'.cell? ⟨w.heap.size,j,none⟩=(#[.string m.kd,.string m.fd,.string m.wh,.string m.wi,.string m.pt,.string m.fr]:Array Value)[j]?)/\w'.cell? ⟨fb,foff+fi*11,none⟩=some (.string ss[ix].fs[fi].nm)/\w'.cell? ⟨fb,foff+fi*11+1,none⟩=some (.int .i64 ss[ix].fs[fi].kd)/\w'.cell? ⟨fb,foff+fi*11+2,none⟩=some (.int .i64 ss[ix].fs[fi].ls)/\w'.cell? ⟨fb,foff+fi*11+3,none⟩=some (.int .i64 ss[ix].fs[fi].ms)/\w'.cell? ⟨fb,foff+fi*11+4,none⟩=some (.slice wa ss[ix].fs[fi].ws.length wcap)/\w'.cell? ⟨fb,foff+fi*11+5,none⟩=some (.string ss[ix].fs[fi].to)/\w'.cell? ⟨fb,foff+fi*11+6,none⟩=some (.int .i64 ss[ix].fs[fi].rl)/\w'.cell? ⟨fb,foff+fi*11+7,none⟩=some (.bool ss[ix].fs[fi].mu)/\w'.cell? ⟨fb,foff+fi*11+8,none⟩=some (.bool ss[ix].fs[fi].fx)/\w'.cell? ⟨fb,foff+fi*11+9,none⟩=some (.string ss[ix].fs[fi].df)/\w'.cell? ⟨fb,foff+fi*11+10,none⟩=some (.string ss[ix].fs[fi].wg)) (exact⟨hXc,hL⟩) (first
       | (go_at_call 172;refine(HFX.out _ hbc).mono ?_;rintro e w5⟨rfl,rfl⟩)
       | (go_at_call 134;refine(yS _ _ _ _ _ _ _ _ _ _ _ _ _ _ _ HPT.out (by exact(HFI.out _ hbc).strs)).mono ?_;rintro e w5⟨rfl,hb5⟩;have hbW:=hbW.trans (hb5.mono hbW.size);have hbc:=hbc.trans (hb5.mono hbc.size);have hXc:=za HXw.out hzc0 hbW;have hL:=(HFI.out _ hbc).load;clear hb5))
      go_wp2_with fail
      go_ret;exact⟨by rw[HSh.out,HT.out,HFO.out];rfl,hbc⟩
     ·skip
      have HT:Hid (yu ss[ix].fs m=false):=by unfold Hid yu yD isSet;simp[*]
      have h:=zA fa fcap ss[ix].fs m.fd _ (HFL.out.mono HBA.out);rw[hp0]at h;refine h.mono ?_;rintro e wc0⟨rfl,hb0⟩;have HBc0:Hid (Below w.heap.size w wc0):=HBA.out.trans (hb0.mono HBA.out.size);have hXc0:=za (zl w _ _) (by simp) hb0;have hzc0:w.heap.size<wc0.heap.size:=nLt (by simp) hb0.size;clear h hb0;go_wp2_with fail
      go_ret;exact⟨by rw[HSh.out,HT.out];rfl,HBc0.out⟩
end Go.Proofs.YtnapmdofidgliaaGreat
