import Derived.Test.YtjnpjkigofldlaaGreatM33
set_option maxRecDepth 20000
set_option maxHeartbeats 4000000
namespace Go.Proofs.YtjnpjkigofldlaaGreat
open Go.RowKit
def ztq (w:World)(m:Mnd)(W:World):Prop:=Bw w W/\w.heap.size<W.heap.size/\∀j,W.cell? (aD w.heap.size j)=(#[.s m.kd,.s m.fd,.s m.wh,.s m.wi,.s m.pt,.s m.fr]:AV)[j]?
theorem zog (a:OA)(cap:Nat)(ss:List Shp)(m:Mnd)(w:World)(hw:yU w a ss)(hm:m.Small)(hk:zF ss m.kd=true) :
 Calls Tryz.prog 157 #[.l a ss.length cap,.agg m.cells] w fun e w'=>e=.returned (.bool (zee (shapeOf ss m.kd).fs m))/\Bw w w':=by
 have hl:=hw.len;unfold maxLen at hl;unfold Mnd.cells;have hba:=(bRf w.heap.size w).alloc (Nat.le_refl _) (.cells #[.s m.kd,.s m.fd,.s m.wh,.s m.wi,.s m.pt,.s m.fr] 132);go_in;go_wp2_with fail
 refine(zbx _ _ _ _ _ (hw.mono hba) hk).mono ?_;rintro e w1⟨ix,hix,rfl,hsh,rfl⟩;have HSh:Hid (shapeOf ss m.kd=ss[ix]):=hsh;obtain⟨b,off,rfl,hb,hr⟩:=hw.rows (by rintro rfl;simp at hix);obtain⟨fa,fcap,hs⟩:=hr ix hix;have hcl:=hs.list;have HFL:Hid (yw w fa ss[ix].fs):=hs.zdE;have hixI:(ix:Int)<(ss.length:Int):=by omega
 have hix0:decide ((ix:Int)<0)=false:=by simp
 have hbw:b<w.heap.size:=hb;have HBA:Hid (Bw w (w.alloc (.cells #[.s m.kd,.s m.fd,.s m.wh,.s m.wi,.s m.pt,.s m.fr] 132))):=hba;clear hr hs hsh hk hw hba
 go_upto_region 5 with fail
 refine jG (ztq w m) ⟨HBA.o,by simp,zI w _ _⟩ ?_;rintro W1 hW1;have H1:=hid hW1;have HP:Hid (∀v W,ztq w m W->Calls Tryz.prog 203 #[.l fa ss[ix].fs.length fcap,.s v] W fun e w'=>e=.returned (.bool (plain ss[ix].fs v))/\ztq w m w'):=fun v W h=>(zpF fa fcap ss[ix].fs v W (HFL.o.mono h.1)).mono fun e w' ⟨he,hb⟩=>⟨he,h.1.trans (hb.mono h.1.size),nLt h.2.1 hb.size,za h.2.2 h.2.1 hb⟩
 obtain⟨b1,hb1⟩:∃x,x=!(plain ss[ix].fs m.fd&&(!isSet m.wh||plain ss[ix].fs m.wh)&&(!isSet m.fr||plain ss[ix].fs m.fr)):=⟨_,rfl⟩
 have HB1:=hid hb1;clear hb1 hW1 HBA
 go_cut [46] from 7 (fun vx W=>vx=.bool b1/\Hid (ztq w m W))
 case first=>
  have cX:=H1.o.2.2;go_wp2_with fail
  refine(HP.o m.fd _ H1.o).mono ?_;rintro e w2⟨rfl,h2⟩;have H2:=hid h2;clear h2 cX H1;have cX:=H2.o.2.2
  rcases hp0:plain ss[ix].fs m.fd with _|_
  ·go_wp2
   go_meet
   case rel=>exact⟨by rw[HB1.o];simp[hp0],H2⟩
  rcases hwh:m.wh.toList.isEmpty with _|_
  ·go_wp2_with fail
   refine(HP.o m.wh _ H2.o).mono ?_;rintro e w3⟨rfl,h3⟩;have H3:=hid h3;clear h3 cX H2;have cX:=H3.o.2.2
   rcases hp1:plain ss[ix].fs m.wh with _|_
   ·go_wp2
    go_meet
    case rel=>exact⟨by rw[HB1.o];simp[isSet,hp0,hwh,hp1],H3⟩
   rcases hfr:m.fr.toList.isEmpty with _|_
   ·go_wp2_with fail
    refine(HP.o m.fr _ H3.o).mono ?_;rintro e w4⟨rfl,h4⟩;have H4:=hid h4;clear h4 cX;go_wp2
    go_meet
    case rel=>exact⟨by rw[HB1.o];simp[isSet,hp0,hwh,hp1,hfr],H4⟩
   ·go_wp2
    go_meet
    case rel=>exact⟨by rw[HB1.o];simp[isSet,hp0,hwh,hp1,hfr],H3⟩
  ·skip
   rcases hfr:m.fr.toList.isEmpty with _|_
   ·go_wp2_with fail
    refine(HP.o m.fr _ H2.o).mono ?_;rintro e w4⟨rfl,h4⟩;have H4:=hid h4;clear h4 cX;go_wp2
    go_meet
    case rel=>exact⟨by rw[HB1.o];simp[isSet,hp0,hwh,hfr],H4⟩
   ·go_wp2
    go_meet
    case rel=>exact⟨by rw[HB1.o];simp[isSet,hp0,hwh,hfr],H2⟩
 case rest=>
  obtain⟨rfl,H5⟩:=hcut;obtain⟨W5,rfl⟩:∃x,x=wc:=⟨_,rfl⟩
  clear H1;have cX:=H5.o.2.2
  cases b1 with
  | true=>
   have HT:Hid (zee ss[ix].fs m=false):=by
    have h:=HB1.o;unfold Hid zee
    revert h
    cases plain ss[ix].fs m.fd <;> cases (!isSet m.wh||plain ss[ix].fs m.wh) <;> cases (!isSet m.fr||plain ss[ix].fs m.fr) <;> simp
   go_wp2
   go_ret;exact⟨by rw[HSh.o,HT.o];rfl,H5.o.1⟩
  | false=>
   obtain⟨b2,hb2⟩:∃x,x=(decide (m.wh=m.fd)||decide (m.fr=m.fd)||(!isSet m.wh&&isSet m.wi)||(isSet m.pt == isSet m.fr)):=⟨_,rfl⟩
   have HB2:=hid hb2;clear hb2
   have HS:Hid (zee ss[ix].fs m=(!b2&&(!isSet m.pt||zgt (zeC ss[ix].fs m.fd) m.pt))/\plain ss[ix].fs m.fd=true):=by
    have h:=HB1.o;unfold Hid zee za5;rw[HB2.o]
    revert h
    cases plain ss[ix].fs m.fd <;> cases (!isSet m.wh||plain ss[ix].fs m.wh) <;> cases (!isSet m.fr||plain ss[ix].fs m.fr) <;> simp[Bool.or_assoc,Bool.and_assoc]
   go_upto_region 7 with fail
   go_cut [77] from 7 (fun vx W=>vx=.bool b2/\Hid (ztq w m W))
   case first=>
    by_cases e1:m.wh=m.fd
    ·have he1:(m.wh.toList == m.fd.toList)=true:=by rw[beq_toList];simpa using e1
     have HE:=hid e1;clear e1;go_wp2
     go_meet
     case rel=>exact⟨by rw[HB2.o];simp[HE.o],H5⟩
    have he1:(m.wh.toList == m.fd.toList)=false:=by rw[beq_toList];simpa using e1
    have HE1:=hid e1;clear e1
    by_cases e2:m.fr=m.fd
    ·have he2:(m.fr.toList == m.fd.toList)=true:=by rw[beq_toList];simpa using e2
     have HE:=hid e2;clear e2;go_wp2
     go_meet
     case rel=>exact⟨by rw[HB2.o];simp[HE.o],H5⟩
    have he2:(m.fr.toList == m.fd.toList)=false:=by rw[beq_toList];simpa using e2
    have HE2:=hid e2;clear e2
    rcases hwh:m.wh.toList.isEmpty with _|_ <;> rcases hwi:m.wi.toList.isEmpty with _|_ <;> rcases hpt:m.pt.toList.isEmpty with _|_ <;> rcases hfr:m.fr.toList.isEmpty with _|_ <;> (go_wp2;go_meet;case rel=>exact⟨by rw[HB2.o];simp[isSet,HE1.o,HE2.o,hwh,hwi,hpt,hfr],H5⟩)
   case rest=>
    obtain⟨rfl,H7⟩:=hcut;obtain⟨W7,rfl⟩:∃x,x=wc:=⟨_,rfl⟩
    clear H5 cX;have cX:=H7.o.2.2
    cases b2 with
    | true=>
     go_wp2
     go_ret;exact⟨by rw[HSh.o,HS.o.1];rfl,H7.o.1⟩
    | false=>
     have hp0:=HS.o.2
     rcases hpt:m.pt.toList.isEmpty with _|_
     ·have HT:Hid (zee ss[ix].fs m=zgt (zeC ss[ix].fs m.fd) m.pt):=by unfold Hid;rw[HS.o.1];simp[isSet,hpt]
      go_wp2_with fail
      obtain⟨fi,hfi,hixx,hfind⟩:∃fi,∃h:fi<ss[ix].fs.length,yh ss[ix].fs m.fd=(fi:Int)/\ss[ix].fs.find? (fun f=>decide (f.nm=m.fd))=some ss[ix].fs[fi]:=by
       rcases jX ss[ix].fs m.fd with⟨_,h2⟩|⟨fi,hfi,h1,_,h3⟩
       ·rw[zbm h2]at hp0;cases hp0
       ·exact⟨fi,hfi,h1,h3⟩
      have HFO:Hid (zeC ss[ix].fs m.fd=ss[ix].fs[fi]):=by unfold Hid zeC;rw[hfind];rfl
      obtain⟨fb,foff,rfl,hfb,hrows⟩:=HFL.o.rows (by intro e;rw[e]at hfi;simp at hfi);obtain⟨wa,wcap,hf0⟩:=hrows fi hfi;have HFI:Hid (∀W,Bw w W->zf7 W fb (foff+fi*11) ss[ix].fs[fi] wa wcap):=fun W hb=>hf0.mono hfb hb
      have hfiI:(fi:Int)<(ss[ix].fs.length:Int):=by omega
      have hbc:Bw w W7.drew:=H7.o.1.drew;have HXw:Hid (∀j,W7.cell? (aD w.heap.size j)=(#[.s m.kd,.s m.fd,.s m.wh,.s m.wi,.s m.pt,.s m.fr]:AV)[j]?):=H7.o.2.2;have hbW:Bw W7 W7.drew:=(bRf _ _).drew;have hXc:=za HXw.o H7.o.2.1 hbW;have hL:=(HFI.o _ hbc).load
      have HFX:Hid (∀W,Bw w W->Calls Tryz.prog 204 #[.l (some (aD fb foff)) ss[ix].fs.length fcap,.s m.fd] W fun e w'=>e=.returned (.i (fi:Int))/\w'=W):=by
       intro W hb;have h:=zaY (some (aD fb foff)) fcap ss[ix].fs m.fd W (HFL.o.mono hb);rw[hixx]at h;exact h
      have HPT:Hid (m.pt.size<=maxLen):=hm.pt;clear hrows hf0 hfind hixx
      go_region_held3 (fun w'=>(∀j,w'.cell? (aD w.heap.size j)=(#[.s m.kd,.s m.fd,.s m.wh,.s m.wi,.s m.pt,.s m.fr]:AV)[j]?)/\w'.cell? (aD fb (foff+fi*11))=some (.s ss[ix].fs[fi].nm)/\w'.cell? (aD fb (foff+fi*11+1))=some (.i ss[ix].fs[fi].kd)/\w'.cell? (aD fb (foff+fi*11+2))=some (.i ss[ix].fs[fi].ls)/\w'.cell? (aD fb (foff+fi*11+3))=some (.i ss[ix].fs[fi].ms)/\w'.cell? (aD fb (foff+fi*11+4))=some (.l wa ss[ix].fs[fi].ws.length wcap)/\w'.cell? (aD fb (foff+fi*11+5))=some (.s ss[ix].fs[fi].to)/\w'.cell? (aD fb (foff+fi*11+6))=some (.i ss[ix].fs[fi].rl)/\w'.cell? (aD fb (foff+fi*11+7))=some (.bool ss[ix].fs[fi].mu)/\w'.cell? (aD fb (foff+fi*11+8))=some (.bool ss[ix].fs[fi].fx)/\w'.cell? (aD fb (foff+fi*11+9))=some (.s ss[ix].fs[fi].df)/\w'.cell? (aD fb (foff+fi*11+10))=some (.s ss[ix].fs[fi].wg)) (exact⟨hXc,hL⟩) (first
       | (go_at_call 204;refine(HFX.o _ hbc).mono ?_;rintro e w5⟨rfl,rfl⟩)
       | (go_at_call 161;refine(zeL _ _ _ _ _ _ _ _ _ _ _ _ _ _ _ HPT.o (by exact(HFI.o _ hbc).strs)).mono ?_;rintro e w5⟨rfl,hb5⟩;have hbW:=hbW.trans (hb5.mono hbW.size);have hbc:=hbc.trans (hb5.mono hbc.size);have hXc:=za HXw.o H7.o.2.1 hbW;have hL:=(HFI.o _ hbc).load;clear hb5))
      go_wp2
      go_ret;exact⟨by rw[HSh.o,HT.o,HFO.o];rfl,hbc⟩
     ·have HT:Hid (zee ss[ix].fs m=true):=by unfold Hid;rw[HS.o.1];simp[isSet,hpt]
      go_wp2_with fail
      go_quiet (fail)
      go_wp2
      go_ret;exact⟨by rw[HSh.o,HT.o];rfl,below_drewN H7.o.1 _⟩
end Go.Proofs.YtjnpjkigofldlaaGreat
