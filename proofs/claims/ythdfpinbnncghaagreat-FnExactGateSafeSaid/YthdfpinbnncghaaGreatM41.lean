import Derived.Test.YthdfpinbnncghaaGreatM40
set_option maxHeartbeats 4000000
namespace Go.Proofs.YthdfpinbnncghaaGreat
open Go.RowKit
set_option maxRecDepth 20000 in
theorem zmq (a:OA)(cap:Nat)(ss:List Shp)(m:Mnd)(w:World)(hw:yR w a ss)(hm:m.Small)(hk:zC ss m.kd=true) :
 Calls Tryz.prog 134 #[.l a ss.length cap,.agg m.cells] w fun e w'=>e=.returned (.bool (yK (shapeOf ss m.kd).fs m))/\Bw w w':=by
 have hl:=hw.len;unfold maxLen at hl;unfold Mnd.cells;have hba:=(bRf w.heap.size w).alloc (Nat.le_refl _) (.cells #[.s m.kd,.s m.fd,.s m.wh,.s m.wi,.s m.pt,.s m.fr] 141);go_enter Tryz.func134,Tryz.ntmps134;go_wp2_with fail
 refine(yN _ _ _ _ _ (hw.mono hba) hk).mono ?_;rintro e w1⟨ix,hix,rfl,hsh,rfl⟩;have HSh:Hid (shapeOf ss m.kd=ss[ix]):=hsh;obtain⟨b,off,rfl,hb,hr⟩:=hw.rows (by rintro rfl;simp at hix);obtain⟨fa,fcap,hs⟩:=hr ix hix;have hcl:=hs.list;have HFL:Hid (yj w fa ss[ix].fs):=hs.flds;have hixI:(ix:Int)<(ss.length:Int):=by omega
 have hix0:decide ((ix:Int)<0)=false:=by simp
 have hbw:b<w.heap.size:=hb;have HBA:Hid (Bw w (w.alloc (.cells #[.s m.kd,.s m.fd,.s m.wh,.s m.wi,.s m.pt,.s m.fr] 141))):=hba;clear hr hs hsh hk hw hba;go_wp2_with fail
 rcases hp0:plain ss[ix].fs m.fd with _|_
 ·skip
  have HT:Hid (yK ss[ix].fs m=false):=by unfold Hid yK yL isSet;simp[*]
  have h:=zI fa fcap ss[ix].fs m.fd _ (HFL.o.mono HBA.o);rw[hp0]at h;refine h.mono ?_;rintro e wc0⟨rfl,hb0⟩;have HBc0:Hid (Bw w wc0):=HBA.o.trans (hb0.mono HBA.o.size);have hXc0:=za (zn w _ _) (by simp) hb0;have hzc0:w.heap.size<wc0.heap.size:=nLt (by simp) hb0.size;clear h hb0;go_wp2_with fail
  go_ret;exact⟨by rw[HSh.o,HT.o];rfl,HBc0.o⟩
 ·skip
  rcases hwh:m.wh.toList.isEmpty with _|_
  ·skip
   rcases hp1:plain ss[ix].fs m.wh with _|_
   ·skip
    have HT:Hid (yK ss[ix].fs m=false):=by unfold Hid yK yL isSet;simp[*]
    have h:=zI fa fcap ss[ix].fs m.fd _ (HFL.o.mono HBA.o);rw[hp0]at h;refine h.mono ?_;rintro e wc0⟨rfl,hb0⟩;have HBc0:Hid (Bw w wc0):=HBA.o.trans (hb0.mono HBA.o.size);have hXc0:=za (zn w _ _) (by simp) hb0;have hzc0:w.heap.size<wc0.heap.size:=nLt (by simp) hb0.size;clear h hb0;go_wp2_with fail
    have h:=zI fa fcap ss[ix].fs m.wh _ (HFL.o.mono HBc0.o);rw[hp1]at h;refine h.mono ?_;rintro e wc1⟨rfl,hb1⟩;have HBc1:Hid (Bw w wc1):=HBc0.o.trans (hb1.mono HBc0.o.size);have hXc1:=za (hXc0) hzc0 hb1;have hzc1:w.heap.size<wc1.heap.size:=nLt hzc0 hb1.size;clear h hb1 hXc0;go_wp2_with fail
    go_ret;exact⟨by rw[HSh.o,HT.o];rfl,HBc1.o⟩
   ·skip
    rcases hfr:m.fr.toList.isEmpty with _|_
    ·skip
     rcases hp2:plain ss[ix].fs m.fr with _|_
     ·skip
      have HT:Hid (yK ss[ix].fs m=false):=by unfold Hid yK yL isSet;simp[*]
      have h:=zI fa fcap ss[ix].fs m.fd _ (HFL.o.mono HBA.o);rw[hp0]at h;refine h.mono ?_;rintro e wc0⟨rfl,hb0⟩;have HBc0:Hid (Bw w wc0):=HBA.o.trans (hb0.mono HBA.o.size);have hXc0:=za (zn w _ _) (by simp) hb0;have hzc0:w.heap.size<wc0.heap.size:=nLt (by simp) hb0.size;clear h hb0;go_wp2_with fail
      have h:=zI fa fcap ss[ix].fs m.wh _ (HFL.o.mono HBc0.o);rw[hp1]at h;refine h.mono ?_;rintro e wc1⟨rfl,hb1⟩;have HBc1:Hid (Bw w wc1):=HBc0.o.trans (hb1.mono HBc0.o.size);have hXc1:=za (hXc0) hzc0 hb1;have hzc1:w.heap.size<wc1.heap.size:=nLt hzc0 hb1.size;clear h hb1 hXc0;go_wp2_with fail
      have h:=zI fa fcap ss[ix].fs m.fr _ (HFL.o.mono HBc1.o);rw[hp2]at h;refine h.mono ?_;rintro e wc2⟨rfl,hb2⟩;have HBc2:Hid (Bw w wc2):=HBc1.o.trans (hb2.mono HBc1.o.size);have hXc2:=za (hXc1) hzc1 hb2;have hzc2:w.heap.size<wc2.heap.size:=nLt hzc1 hb2.size;clear h hb2 hXc1;go_wp2_with fail
      go_ret;exact⟨by rw[HSh.o,HT.o];rfl,HBc2.o⟩
     ·skip
      by_cases e1:m.wh=m.fd
      ·have he1:(m.wh.toList == m.fd.toList)=true:=by rw[beq_toList];simpa using e1
       have HT:Hid (yK ss[ix].fs m=false):=by unfold Hid yK yL isSet;simp[*]
       clear e1;have h:=zI fa fcap ss[ix].fs m.fd _ (HFL.o.mono HBA.o);rw[hp0]at h;refine h.mono ?_;rintro e wc0⟨rfl,hb0⟩;have HBc0:Hid (Bw w wc0):=HBA.o.trans (hb0.mono HBA.o.size);have hXc0:=za (zn w _ _) (by simp) hb0;have hzc0:w.heap.size<wc0.heap.size:=nLt (by simp) hb0.size;clear h hb0;go_wp2_with fail
       have h:=zI fa fcap ss[ix].fs m.wh _ (HFL.o.mono HBc0.o);rw[hp1]at h;refine h.mono ?_;rintro e wc1⟨rfl,hb1⟩;have HBc1:Hid (Bw w wc1):=HBc0.o.trans (hb1.mono HBc0.o.size);have hXc1:=za (hXc0) hzc0 hb1;have hzc1:w.heap.size<wc1.heap.size:=nLt hzc0 hb1.size;clear h hb1 hXc0;go_wp2_with fail
       have h:=zI fa fcap ss[ix].fs m.fr _ (HFL.o.mono HBc1.o);rw[hp2]at h;refine h.mono ?_;rintro e wc2⟨rfl,hb2⟩;have HBc2:Hid (Bw w wc2):=HBc1.o.trans (hb2.mono HBc1.o.size);have hXc2:=za (hXc1) hzc1 hb2;have hzc2:w.heap.size<wc2.heap.size:=nLt hzc1 hb2.size;clear h hb2 hXc1;go_wp2_with fail
       go_ret;exact⟨by rw[HSh.o,HT.o];rfl,HBc2.o⟩
      have he1:(m.wh.toList == m.fd.toList)=false:=by rw[beq_toList];simpa using e1
      by_cases e2:m.fr=m.fd
      ·have he2:(m.fr.toList == m.fd.toList)=true:=by rw[beq_toList];simpa using e2
       have HT:Hid (yK ss[ix].fs m=false):=by unfold Hid yK yL isSet;simp[*]
       clear e2;have h:=zI fa fcap ss[ix].fs m.fd _ (HFL.o.mono HBA.o);rw[hp0]at h;refine h.mono ?_;rintro e wc0⟨rfl,hb0⟩;have HBc0:Hid (Bw w wc0):=HBA.o.trans (hb0.mono HBA.o.size);have hXc0:=za (zn w _ _) (by simp) hb0;have hzc0:w.heap.size<wc0.heap.size:=nLt (by simp) hb0.size;clear h hb0;go_wp2_with fail
       have h:=zI fa fcap ss[ix].fs m.wh _ (HFL.o.mono HBc0.o);rw[hp1]at h;refine h.mono ?_;rintro e wc1⟨rfl,hb1⟩;have HBc1:Hid (Bw w wc1):=HBc0.o.trans (hb1.mono HBc0.o.size);have hXc1:=za (hXc0) hzc0 hb1;have hzc1:w.heap.size<wc1.heap.size:=nLt hzc0 hb1.size;clear h hb1 hXc0;go_wp2_with fail
       have h:=zI fa fcap ss[ix].fs m.fr _ (HFL.o.mono HBc1.o);rw[hp2]at h;refine h.mono ?_;rintro e wc2⟨rfl,hb2⟩;have HBc2:Hid (Bw w wc2):=HBc1.o.trans (hb2.mono HBc1.o.size);have hXc2:=za (hXc1) hzc1 hb2;have hzc2:w.heap.size<wc2.heap.size:=nLt hzc1 hb2.size;clear h hb2 hXc1;go_wp2_with fail
       go_ret;exact⟨by rw[HSh.o,HT.o];rfl,HBc2.o⟩
      have he2:(m.fr.toList == m.fd.toList)=false:=by rw[beq_toList];simpa using e2
      rcases hwi:m.wi.toList.isEmpty with _|_
      focus
       skip
      rotate_left
      focus
       skip
      all_goals
       rcases hpt:m.pt.toList.isEmpty with _|_
       ·skip
        have HT:Hid (yK ss[ix].fs m=false):=by unfold Hid yK yL isSet;simp[*]
        have h:=zI fa fcap ss[ix].fs m.fd _ (HFL.o.mono HBA.o);rw[hp0]at h;refine h.mono ?_;rintro e wc0⟨rfl,hb0⟩;have HBc0:Hid (Bw w wc0):=HBA.o.trans (hb0.mono HBA.o.size);have hXc0:=za (zn w _ _) (by simp) hb0;have hzc0:w.heap.size<wc0.heap.size:=nLt (by simp) hb0.size;clear h hb0;go_wp2_with fail
        have h:=zI fa fcap ss[ix].fs m.wh _ (HFL.o.mono HBc0.o);rw[hp1]at h;refine h.mono ?_;rintro e wc1⟨rfl,hb1⟩;have HBc1:Hid (Bw w wc1):=HBc0.o.trans (hb1.mono HBc0.o.size);have hXc1:=za (hXc0) hzc0 hb1;have hzc1:w.heap.size<wc1.heap.size:=nLt hzc0 hb1.size;clear h hb1 hXc0;go_wp2_with fail
        have h:=zI fa fcap ss[ix].fs m.fr _ (HFL.o.mono HBc1.o);rw[hp2]at h;refine h.mono ?_;rintro e wc2⟨rfl,hb2⟩;have HBc2:Hid (Bw w wc2):=HBc1.o.trans (hb2.mono HBc1.o.size);have hXc2:=za (hXc1) hzc1 hb2;have hzc2:w.heap.size<wc2.heap.size:=nLt hzc1 hb2.size;clear h hb2 hXc1;go_wp2_with fail
        go_ret;exact⟨by rw[HSh.o,HT.o];rfl,HBc2.o⟩
       ·skip
        have HT:Hid (yK ss[ix].fs m=true):=by unfold Hid yK yL isSet;simp[*]
        have h:=zI fa fcap ss[ix].fs m.fd _ (HFL.o.mono HBA.o);rw[hp0]at h;refine h.mono ?_;rintro e wc0⟨rfl,hb0⟩;have HBc0:Hid (Bw w wc0):=HBA.o.trans (hb0.mono HBA.o.size);have hXc0:=za (zn w _ _) (by simp) hb0;have hzc0:w.heap.size<wc0.heap.size:=nLt (by simp) hb0.size;clear h hb0;go_wp2_with fail
        have h:=zI fa fcap ss[ix].fs m.wh _ (HFL.o.mono HBc0.o);rw[hp1]at h;refine h.mono ?_;rintro e wc1⟨rfl,hb1⟩;have HBc1:Hid (Bw w wc1):=HBc0.o.trans (hb1.mono HBc0.o.size);have hXc1:=za (hXc0) hzc0 hb1;have hzc1:w.heap.size<wc1.heap.size:=nLt hzc0 hb1.size;clear h hb1 hXc0;go_wp2_with fail
        have h:=zI fa fcap ss[ix].fs m.fr _ (HFL.o.mono HBc1.o);rw[hp2]at h;refine h.mono ?_;rintro e wc2⟨rfl,hb2⟩;have HBc2:Hid (Bw w wc2):=HBc1.o.trans (hb2.mono HBc1.o.size);have hXc2:=za (hXc1) hzc1 hb2;have hzc2:w.heap.size<wc2.heap.size:=nLt hzc1 hb2.size;clear h hb2 hXc1;go_wp2_with fail
        go_quiet (fail)
        go_wp2_with fail
        go_ret;exact⟨by rw[HSh.o,HT.o];rfl,below_drewN HBc2.o _⟩
    ·skip
     by_cases e1:m.wh=m.fd
     ·have he1:(m.wh.toList == m.fd.toList)=true:=by rw[beq_toList];simpa using e1
      have HT:Hid (yK ss[ix].fs m=false):=by unfold Hid yK yL isSet;simp[*]
      clear e1;have h:=zI fa fcap ss[ix].fs m.fd _ (HFL.o.mono HBA.o);rw[hp0]at h;refine h.mono ?_;rintro e wc0⟨rfl,hb0⟩;have HBc0:Hid (Bw w wc0):=HBA.o.trans (hb0.mono HBA.o.size);have hXc0:=za (zn w _ _) (by simp) hb0;have hzc0:w.heap.size<wc0.heap.size:=nLt (by simp) hb0.size;clear h hb0;go_wp2_with fail
      have h:=zI fa fcap ss[ix].fs m.wh _ (HFL.o.mono HBc0.o);rw[hp1]at h;refine h.mono ?_;rintro e wc1⟨rfl,hb1⟩;have HBc1:Hid (Bw w wc1):=HBc0.o.trans (hb1.mono HBc0.o.size);have hXc1:=za (hXc0) hzc0 hb1;have hzc1:w.heap.size<wc1.heap.size:=nLt hzc0 hb1.size;clear h hb1 hXc0;go_wp2_with fail
      go_ret;exact⟨by rw[HSh.o,HT.o];rfl,HBc1.o⟩
     have he1:(m.wh.toList == m.fd.toList)=false:=by rw[beq_toList];simpa using e1
     by_cases e2:m.fr=m.fd
     ·have he2:(m.fr.toList == m.fd.toList)=true:=by rw[beq_toList];simpa using e2
      have HT:Hid (yK ss[ix].fs m=false):=by unfold Hid yK yL isSet;simp[*]
      clear e2;have h:=zI fa fcap ss[ix].fs m.fd _ (HFL.o.mono HBA.o);rw[hp0]at h;refine h.mono ?_;rintro e wc0⟨rfl,hb0⟩;have HBc0:Hid (Bw w wc0):=HBA.o.trans (hb0.mono HBA.o.size);have hXc0:=za (zn w _ _) (by simp) hb0;have hzc0:w.heap.size<wc0.heap.size:=nLt (by simp) hb0.size;clear h hb0;go_wp2_with fail
      have h:=zI fa fcap ss[ix].fs m.wh _ (HFL.o.mono HBc0.o);rw[hp1]at h;refine h.mono ?_;rintro e wc1⟨rfl,hb1⟩;have HBc1:Hid (Bw w wc1):=HBc0.o.trans (hb1.mono HBc0.o.size);have hXc1:=za (hXc0) hzc0 hb1;have hzc1:w.heap.size<wc1.heap.size:=nLt hzc0 hb1.size;clear h hb1 hXc0;go_wp2_with fail
      go_ret;exact⟨by rw[HSh.o,HT.o];rfl,HBc1.o⟩
     have he2:(m.fr.toList == m.fd.toList)=false:=by rw[beq_toList];simpa using e2
     rcases hwi:m.wi.toList.isEmpty with _|_
     focus
      skip
     rotate_left
     focus
      skip
     all_goals
      rcases hpt:m.pt.toList.isEmpty with _|_
      ·skip
       have HT:Hid (yK ss[ix].fs m=zfW (zcU ss[ix].fs m.fd) m.pt):=by unfold Hid yK yL isSet;simp[*]
       have h:=zI fa fcap ss[ix].fs m.fd _ (HFL.o.mono HBA.o);rw[hp0]at h;refine h.mono ?_;rintro e wc0⟨rfl,hb0⟩;have HBc0:Hid (Bw w wc0):=HBA.o.trans (hb0.mono HBA.o.size);have hXc0:=za (zn w _ _) (by simp) hb0;have hzc0:w.heap.size<wc0.heap.size:=nLt (by simp) hb0.size;clear h hb0;go_wp2_with fail
       have h:=zI fa fcap ss[ix].fs m.wh _ (HFL.o.mono HBc0.o);rw[hp1]at h;refine h.mono ?_;rintro e wc1⟨rfl,hb1⟩;have HBc1:Hid (Bw w wc1):=HBc0.o.trans (hb1.mono HBc0.o.size);have hXc1:=za (hXc0) hzc0 hb1;have hzc1:w.heap.size<wc1.heap.size:=nLt hzc0 hb1.size;clear h hb1 hXc0;go_wp2_with fail
       obtain⟨fi,hfi,hixx,hfind⟩:∃fi,∃h:fi<ss[ix].fs.length,zY ss[ix].fs m.fd=(fi:Int)/\ss[ix].fs.find? (fun f=>decide (f.nm=m.fd))=some ss[ix].fs[fi]:=by
        rcases jQ ss[ix].fs m.fd with⟨_,h2⟩|⟨fi,hfi,h1,_,h3⟩
        ·rw[zaT h2]at hp0;cases hp0
        ·exact⟨fi,hfi,h1,h3⟩
       have HFO:Hid (zcU ss[ix].fs m.fd=ss[ix].fs[fi]):=by unfold Hid zcU;rw[hfind];rfl
       obtain⟨fb,foff,rfl,hfb,hrows⟩:=HFL.o.rows (by intro e;rw[e]at hfi;simp at hfi);obtain⟨wa,wcap,hf0⟩:=hrows fi hfi;have HFI:Hid (∀W,Bw w W->zeX W fb (foff+fi*11) ss[ix].fs[fi] wa wcap):=fun W hb=>hf0.mono hfb hb
       have hfiI:(fi:Int)<(ss[ix].fs.length:Int):=by omega
       have hbc:Bw w wc1.drew:=HBc1.o.drew;have HXw:Hid (∀j,wc1.cell? (aD w.heap.size j)=(#[.s m.kd,.s m.fd,.s m.wh,.s m.wi,.s m.pt,.s m.fr]:AV)[j]?):=hXc1;have hbW:Bw wc1 wc1.drew:=(bRf _ _).drew;have hXc:=za HXw.o hzc1 hbW;have hL:=(HFI.o _ hbc).load
       have HFX:Hid (∀W,Bw w W->Calls Tryz.prog 190 #[.l (some (aD fb foff)) ss[ix].fs.length fcap,.s m.fd] W fun e w'=>e=.returned (.i (fi:Int))/\w'=W):=by
        intro W hb;have h:=qI (some (aD fb foff)) fcap ss[ix].fs m.fd W (HFL.o.mono hb);rw[hixx]at h;exact h
       have HPT:Hid (m.pt.size<=maxLen):=hm.pt;clear hrows hf0 hfind hixx
       go_region_held3 (fun w'=>(∀j,w'.cell? (aD w.heap.size j)=(#[.s m.kd,.s m.fd,.s m.wh,.s m.wi,.s m.pt,.s m.fr]:AV)[j]?)/\w'.cell? (aD fb (foff+fi*11))=some (.s ss[ix].fs[fi].nm)/\w'.cell? (aD fb (foff+fi*11+1))=some (.i ss[ix].fs[fi].kd)/\w'.cell? (aD fb (foff+fi*11+2))=some (.i ss[ix].fs[fi].ls)/\w'.cell? (aD fb (foff+fi*11+3))=some (.i ss[ix].fs[fi].ms)/\w'.cell? (aD fb (foff+fi*11+4))=some (.l wa ss[ix].fs[fi].ws.length wcap)/\w'.cell? (aD fb (foff+fi*11+5))=some (.s ss[ix].fs[fi].to)/\w'.cell? (aD fb (foff+fi*11+6))=some (.i ss[ix].fs[fi].rl)/\w'.cell? (aD fb (foff+fi*11+7))=some (.bool ss[ix].fs[fi].mu)/\w'.cell? (aD fb (foff+fi*11+8))=some (.bool ss[ix].fs[fi].fx)/\w'.cell? (aD fb (foff+fi*11+9))=some (.s ss[ix].fs[fi].df)/\w'.cell? (aD fb (foff+fi*11+10))=some (.s ss[ix].fs[fi].wg)) (exact⟨hXc,hL⟩) (first
        | (go_at_call 190;refine(HFX.o _ hbc).mono ?_;rintro e w5⟨rfl,rfl⟩)
        | (go_at_call 137;refine(qm _ _ _ _ _ _ _ _ _ _ _ _ _ _ _ HPT.o (by exact(HFI.o _ hbc).strs)).mono ?_;rintro e w5⟨rfl,hb5⟩;have hbW:=hbW.trans (hb5.mono hbW.size);have hbc:=hbc.trans (hb5.mono hbc.size);have hXc:=za HXw.o hzc1 hbW;have hL:=(HFI.o _ hbc).load;clear hb5))
       go_wp2_with fail
       go_ret;exact⟨by rw[HSh.o,HT.o,HFO.o];rfl,hbc⟩
      ·skip
       have HT:Hid (yK ss[ix].fs m=false):=by unfold Hid yK yL isSet;simp[*]
       have h:=zI fa fcap ss[ix].fs m.fd _ (HFL.o.mono HBA.o);rw[hp0]at h;refine h.mono ?_;rintro e wc0⟨rfl,hb0⟩;have HBc0:Hid (Bw w wc0):=HBA.o.trans (hb0.mono HBA.o.size);have hXc0:=za (zn w _ _) (by simp) hb0;have hzc0:w.heap.size<wc0.heap.size:=nLt (by simp) hb0.size;clear h hb0;go_wp2_with fail
       have h:=zI fa fcap ss[ix].fs m.wh _ (HFL.o.mono HBc0.o);rw[hp1]at h;refine h.mono ?_;rintro e wc1⟨rfl,hb1⟩;have HBc1:Hid (Bw w wc1):=HBc0.o.trans (hb1.mono HBc0.o.size);have hXc1:=za (hXc0) hzc0 hb1;have hzc1:w.heap.size<wc1.heap.size:=nLt hzc0 hb1.size;clear h hb1 hXc0;go_wp2_with fail
       go_ret;exact⟨by rw[HSh.o,HT.o];rfl,HBc1.o⟩
  ·skip
   rcases hfr:m.fr.toList.isEmpty with _|_
   ·skip
    rcases hp2:plain ss[ix].fs m.fr with _|_
    ·skip
     have HT:Hid (yK ss[ix].fs m=false):=by unfold Hid yK yL isSet;simp[*]
     have h:=zI fa fcap ss[ix].fs m.fd _ (HFL.o.mono HBA.o);rw[hp0]at h;refine h.mono ?_;rintro e wc0⟨rfl,hb0⟩;have HBc0:Hid (Bw w wc0):=HBA.o.trans (hb0.mono HBA.o.size);have hXc0:=za (zn w _ _) (by simp) hb0;have hzc0:w.heap.size<wc0.heap.size:=nLt (by simp) hb0.size;clear h hb0;go_wp2_with fail
     have h:=zI fa fcap ss[ix].fs m.fr _ (HFL.o.mono HBc0.o);rw[hp2]at h;refine h.mono ?_;rintro e wc1⟨rfl,hb1⟩;have HBc1:Hid (Bw w wc1):=HBc0.o.trans (hb1.mono HBc0.o.size);have hXc1:=za (hXc0) hzc0 hb1;have hzc1:w.heap.size<wc1.heap.size:=nLt hzc0 hb1.size;clear h hb1 hXc0;go_wp2_with fail
     go_ret;exact⟨by rw[HSh.o,HT.o];rfl,HBc1.o⟩
    ·skip
     by_cases e1:m.wh=m.fd
     ·have he1:(m.wh.toList == m.fd.toList)=true:=by rw[beq_toList];simpa using e1
      have HT:Hid (yK ss[ix].fs m=false):=by unfold Hid yK yL isSet;simp[*]
      clear e1;have h:=zI fa fcap ss[ix].fs m.fd _ (HFL.o.mono HBA.o);rw[hp0]at h;refine h.mono ?_;rintro e wc0⟨rfl,hb0⟩;have HBc0:Hid (Bw w wc0):=HBA.o.trans (hb0.mono HBA.o.size);have hXc0:=za (zn w _ _) (by simp) hb0;have hzc0:w.heap.size<wc0.heap.size:=nLt (by simp) hb0.size;clear h hb0;go_wp2_with fail
      have h:=zI fa fcap ss[ix].fs m.fr _ (HFL.o.mono HBc0.o);rw[hp2]at h;refine h.mono ?_;rintro e wc1⟨rfl,hb1⟩;have HBc1:Hid (Bw w wc1):=HBc0.o.trans (hb1.mono HBc0.o.size);have hXc1:=za (hXc0) hzc0 hb1;have hzc1:w.heap.size<wc1.heap.size:=nLt hzc0 hb1.size;clear h hb1 hXc0;go_wp2_with fail
      go_ret;exact⟨by rw[HSh.o,HT.o];rfl,HBc1.o⟩
     have he1:(m.wh.toList == m.fd.toList)=false:=by rw[beq_toList];simpa using e1
     by_cases e2:m.fr=m.fd
     ·have he2:(m.fr.toList == m.fd.toList)=true:=by rw[beq_toList];simpa using e2
      have HT:Hid (yK ss[ix].fs m=false):=by unfold Hid yK yL isSet;simp[*]
      clear e2;have h:=zI fa fcap ss[ix].fs m.fd _ (HFL.o.mono HBA.o);rw[hp0]at h;refine h.mono ?_;rintro e wc0⟨rfl,hb0⟩;have HBc0:Hid (Bw w wc0):=HBA.o.trans (hb0.mono HBA.o.size);have hXc0:=za (zn w _ _) (by simp) hb0;have hzc0:w.heap.size<wc0.heap.size:=nLt (by simp) hb0.size;clear h hb0;go_wp2_with fail
      have h:=zI fa fcap ss[ix].fs m.fr _ (HFL.o.mono HBc0.o);rw[hp2]at h;refine h.mono ?_;rintro e wc1⟨rfl,hb1⟩;have HBc1:Hid (Bw w wc1):=HBc0.o.trans (hb1.mono HBc0.o.size);have hXc1:=za (hXc0) hzc0 hb1;have hzc1:w.heap.size<wc1.heap.size:=nLt hzc0 hb1.size;clear h hb1 hXc0;go_wp2_with fail
      go_ret;exact⟨by rw[HSh.o,HT.o];rfl,HBc1.o⟩
     have he2:(m.fr.toList == m.fd.toList)=false:=by rw[beq_toList];simpa using e2
     rcases hwi:m.wi.toList.isEmpty with _|_
     ·skip
      have HT:Hid (yK ss[ix].fs m=false):=by unfold Hid yK yL isSet;simp[*]
      have h:=zI fa fcap ss[ix].fs m.fd _ (HFL.o.mono HBA.o);rw[hp0]at h;refine h.mono ?_;rintro e wc0⟨rfl,hb0⟩;have HBc0:Hid (Bw w wc0):=HBA.o.trans (hb0.mono HBA.o.size);have hXc0:=za (zn w _ _) (by simp) hb0;have hzc0:w.heap.size<wc0.heap.size:=nLt (by simp) hb0.size;clear h hb0;go_wp2_with fail
      have h:=zI fa fcap ss[ix].fs m.fr _ (HFL.o.mono HBc0.o);rw[hp2]at h;refine h.mono ?_;rintro e wc1⟨rfl,hb1⟩;have HBc1:Hid (Bw w wc1):=HBc0.o.trans (hb1.mono HBc0.o.size);have hXc1:=za (hXc0) hzc0 hb1;have hzc1:w.heap.size<wc1.heap.size:=nLt hzc0 hb1.size;clear h hb1 hXc0;go_wp2_with fail
      go_ret;exact⟨by rw[HSh.o,HT.o];rfl,HBc1.o⟩
     ·skip
      rcases hpt:m.pt.toList.isEmpty with _|_
      ·skip
       have HT:Hid (yK ss[ix].fs m=false):=by unfold Hid yK yL isSet;simp[*]
       have h:=zI fa fcap ss[ix].fs m.fd _ (HFL.o.mono HBA.o);rw[hp0]at h;refine h.mono ?_;rintro e wc0⟨rfl,hb0⟩;have HBc0:Hid (Bw w wc0):=HBA.o.trans (hb0.mono HBA.o.size);have hXc0:=za (zn w _ _) (by simp) hb0;have hzc0:w.heap.size<wc0.heap.size:=nLt (by simp) hb0.size;clear h hb0;go_wp2_with fail
       have h:=zI fa fcap ss[ix].fs m.fr _ (HFL.o.mono HBc0.o);rw[hp2]at h;refine h.mono ?_;rintro e wc1⟨rfl,hb1⟩;have HBc1:Hid (Bw w wc1):=HBc0.o.trans (hb1.mono HBc0.o.size);have hXc1:=za (hXc0) hzc0 hb1;have hzc1:w.heap.size<wc1.heap.size:=nLt hzc0 hb1.size;clear h hb1 hXc0;go_wp2_with fail
       go_ret;exact⟨by rw[HSh.o,HT.o];rfl,HBc1.o⟩
      ·skip
       have HT:Hid (yK ss[ix].fs m=true):=by unfold Hid yK yL isSet;simp[*]
       have h:=zI fa fcap ss[ix].fs m.fd _ (HFL.o.mono HBA.o);rw[hp0]at h;refine h.mono ?_;rintro e wc0⟨rfl,hb0⟩;have HBc0:Hid (Bw w wc0):=HBA.o.trans (hb0.mono HBA.o.size);have hXc0:=za (zn w _ _) (by simp) hb0;have hzc0:w.heap.size<wc0.heap.size:=nLt (by simp) hb0.size;clear h hb0;go_wp2_with fail
       have h:=zI fa fcap ss[ix].fs m.fr _ (HFL.o.mono HBc0.o);rw[hp2]at h;refine h.mono ?_;rintro e wc1⟨rfl,hb1⟩;have HBc1:Hid (Bw w wc1):=HBc0.o.trans (hb1.mono HBc0.o.size);have hXc1:=za (hXc0) hzc0 hb1;have hzc1:w.heap.size<wc1.heap.size:=nLt hzc0 hb1.size;clear h hb1 hXc0;go_wp2_with fail
       go_quiet (fail)
       go_wp2_with fail
       go_ret;exact⟨by rw[HSh.o,HT.o];rfl,below_drewN HBc1.o _⟩
   ·skip
    by_cases e1:m.wh=m.fd
    ·have he1:(m.wh.toList == m.fd.toList)=true:=by rw[beq_toList];simpa using e1
     have HT:Hid (yK ss[ix].fs m=false):=by unfold Hid yK yL isSet;simp[*]
     clear e1;have h:=zI fa fcap ss[ix].fs m.fd _ (HFL.o.mono HBA.o);rw[hp0]at h;refine h.mono ?_;rintro e wc0⟨rfl,hb0⟩;have HBc0:Hid (Bw w wc0):=HBA.o.trans (hb0.mono HBA.o.size);have hXc0:=za (zn w _ _) (by simp) hb0;have hzc0:w.heap.size<wc0.heap.size:=nLt (by simp) hb0.size;clear h hb0;go_wp2_with fail
     go_ret;exact⟨by rw[HSh.o,HT.o];rfl,HBc0.o⟩
    have he1:(m.wh.toList == m.fd.toList)=false:=by rw[beq_toList];simpa using e1
    by_cases e2:m.fr=m.fd
    ·have he2:(m.fr.toList == m.fd.toList)=true:=by rw[beq_toList];simpa using e2
     have HT:Hid (yK ss[ix].fs m=false):=by unfold Hid yK yL isSet;simp[*]
     clear e2;have h:=zI fa fcap ss[ix].fs m.fd _ (HFL.o.mono HBA.o);rw[hp0]at h;refine h.mono ?_;rintro e wc0⟨rfl,hb0⟩;have HBc0:Hid (Bw w wc0):=HBA.o.trans (hb0.mono HBA.o.size);have hXc0:=za (zn w _ _) (by simp) hb0;have hzc0:w.heap.size<wc0.heap.size:=nLt (by simp) hb0.size;clear h hb0;go_wp2_with fail
     go_ret;exact⟨by rw[HSh.o,HT.o];rfl,HBc0.o⟩
    have he2:(m.fr.toList == m.fd.toList)=false:=by rw[beq_toList];simpa using e2
    rcases hwi:m.wi.toList.isEmpty with _|_
    ·skip
     have HT:Hid (yK ss[ix].fs m=false):=by unfold Hid yK yL isSet;simp[*]
     have h:=zI fa fcap ss[ix].fs m.fd _ (HFL.o.mono HBA.o);rw[hp0]at h;refine h.mono ?_;rintro e wc0⟨rfl,hb0⟩;have HBc0:Hid (Bw w wc0):=HBA.o.trans (hb0.mono HBA.o.size);have hXc0:=za (zn w _ _) (by simp) hb0;have hzc0:w.heap.size<wc0.heap.size:=nLt (by simp) hb0.size;clear h hb0;go_wp2_with fail
     go_ret;exact⟨by rw[HSh.o,HT.o];rfl,HBc0.o⟩
    ·skip
     rcases hpt:m.pt.toList.isEmpty with _|_
     ·skip
      have HT:Hid (yK ss[ix].fs m=zfW (zcU ss[ix].fs m.fd) m.pt):=by unfold Hid yK yL isSet;simp[*]
      have h:=zI fa fcap ss[ix].fs m.fd _ (HFL.o.mono HBA.o);rw[hp0]at h;refine h.mono ?_;rintro e wc0⟨rfl,hb0⟩;have HBc0:Hid (Bw w wc0):=HBA.o.trans (hb0.mono HBA.o.size);have hXc0:=za (zn w _ _) (by simp) hb0;have hzc0:w.heap.size<wc0.heap.size:=nLt (by simp) hb0.size;clear h hb0;go_wp2_with fail
      obtain⟨fi,hfi,hixx,hfind⟩:∃fi,∃h:fi<ss[ix].fs.length,zY ss[ix].fs m.fd=(fi:Int)/\ss[ix].fs.find? (fun f=>decide (f.nm=m.fd))=some ss[ix].fs[fi]:=by
       rcases jQ ss[ix].fs m.fd with⟨_,h2⟩|⟨fi,hfi,h1,_,h3⟩
       ·rw[zaT h2]at hp0;cases hp0
       ·exact⟨fi,hfi,h1,h3⟩
      have HFO:Hid (zcU ss[ix].fs m.fd=ss[ix].fs[fi]):=by unfold Hid zcU;rw[hfind];rfl
      obtain⟨fb,foff,rfl,hfb,hrows⟩:=HFL.o.rows (by intro e;rw[e]at hfi;simp at hfi);obtain⟨wa,wcap,hf0⟩:=hrows fi hfi;have HFI:Hid (∀W,Bw w W->zeX W fb (foff+fi*11) ss[ix].fs[fi] wa wcap):=fun W hb=>hf0.mono hfb hb
      have hfiI:(fi:Int)<(ss[ix].fs.length:Int):=by omega
      have hbc:Bw w wc0.drew:=HBc0.o.drew;have HXw:Hid (∀j,wc0.cell? (aD w.heap.size j)=(#[.s m.kd,.s m.fd,.s m.wh,.s m.wi,.s m.pt,.s m.fr]:AV)[j]?):=hXc0;have hbW:Bw wc0 wc0.drew:=(bRf _ _).drew;have hXc:=za HXw.o hzc0 hbW;have hL:=(HFI.o _ hbc).load
      have HFX:Hid (∀W,Bw w W->Calls Tryz.prog 190 #[.l (some (aD fb foff)) ss[ix].fs.length fcap,.s m.fd] W fun e w'=>e=.returned (.i (fi:Int))/\w'=W):=by
       intro W hb;have h:=qI (some (aD fb foff)) fcap ss[ix].fs m.fd W (HFL.o.mono hb);rw[hixx]at h;exact h
      have HPT:Hid (m.pt.size<=maxLen):=hm.pt;clear hrows hf0 hfind hixx
      go_region_held3 (fun w'=>(∀j,w'.cell? (aD w.heap.size j)=(#[.s m.kd,.s m.fd,.s m.wh,.s m.wi,.s m.pt,.s m.fr]:AV)[j]?)/\w'.cell? (aD fb (foff+fi*11))=some (.s ss[ix].fs[fi].nm)/\w'.cell? (aD fb (foff+fi*11+1))=some (.i ss[ix].fs[fi].kd)/\w'.cell? (aD fb (foff+fi*11+2))=some (.i ss[ix].fs[fi].ls)/\w'.cell? (aD fb (foff+fi*11+3))=some (.i ss[ix].fs[fi].ms)/\w'.cell? (aD fb (foff+fi*11+4))=some (.l wa ss[ix].fs[fi].ws.length wcap)/\w'.cell? (aD fb (foff+fi*11+5))=some (.s ss[ix].fs[fi].to)/\w'.cell? (aD fb (foff+fi*11+6))=some (.i ss[ix].fs[fi].rl)/\w'.cell? (aD fb (foff+fi*11+7))=some (.bool ss[ix].fs[fi].mu)/\w'.cell? (aD fb (foff+fi*11+8))=some (.bool ss[ix].fs[fi].fx)/\w'.cell? (aD fb (foff+fi*11+9))=some (.s ss[ix].fs[fi].df)/\w'.cell? (aD fb (foff+fi*11+10))=some (.s ss[ix].fs[fi].wg)) (exact⟨hXc,hL⟩) (first
       | (go_at_call 190;refine(HFX.o _ hbc).mono ?_;rintro e w5⟨rfl,rfl⟩)
       | (go_at_call 137;refine(qm _ _ _ _ _ _ _ _ _ _ _ _ _ _ _ HPT.o (by exact(HFI.o _ hbc).strs)).mono ?_;rintro e w5⟨rfl,hb5⟩;have hbW:=hbW.trans (hb5.mono hbW.size);have hbc:=hbc.trans (hb5.mono hbc.size);have hXc:=za HXw.o hzc0 hbW;have hL:=(HFI.o _ hbc).load;clear hb5))
      go_wp2_with fail
      go_ret;exact⟨by rw[HSh.o,HT.o,HFO.o];rfl,hbc⟩
     ·skip
      have HT:Hid (yK ss[ix].fs m=false):=by unfold Hid yK yL isSet;simp[*]
      have h:=zI fa fcap ss[ix].fs m.fd _ (HFL.o.mono HBA.o);rw[hp0]at h;refine h.mono ?_;rintro e wc0⟨rfl,hb0⟩;have HBc0:Hid (Bw w wc0):=HBA.o.trans (hb0.mono HBA.o.size);have hXc0:=za (zn w _ _) (by simp) hb0;have hzc0:w.heap.size<wc0.heap.size:=nLt (by simp) hb0.size;clear h hb0;go_wp2_with fail
      go_ret;exact⟨by rw[HSh.o,HT.o];rfl,HBc0.o⟩
end Go.Proofs.YthdfpinbnncghaaGreat
