import Derived.Test.YtkficnallnpjnaaGreatM39
set_option maxHeartbeats 4000000
namespace Go.Proofs.YtkficnallnpjnaaGreat
open Go.RowKit
set_option maxRecDepth 20000 in
theorem zmE (own0:Nat->Lb)(a:Option Addr)(cap:Nat)(xs:List Ob)(w:World)(hw:zbA w a xs)(hl:xs.length<=1048576)(hls:∀i (h:i<xs.length),xs[i].vs.length<=1048576/\xs[i].hs.length<=1048576) :
 Calls Tryz.prog 78 #[.slice a xs.length cap,.func (.func 79) #[] #[]] w fun e w'=>∃v own,e=.returned v/\(∀k,k<w.heap.size->own k=own0 k)/\zhu w.heap.size w' own v xs/\Below w.heap.size w w':=by
 obtain⟨i0,hi,hzi,hz1',hz2'⟩:=info_parts Tryz.zqn;have HI:Hid (Tryz.prog.info? 117=some i0/\i0.zero=some (.agg oZ)/\i0.size=7/\i0.bytes=112):=⟨hi,hzi,hz1',hz2'⟩
 have HK:=hid hw;have HL:=qE hl hls;clear hw hi hzi hz1' hz2' hls;go_enter Tryz.func78,Tryz.ntmps78;go_wp2_with fail
 go_loopw [5,10] (fun v0 iv wr=>∃(k:Nat) (v:Value) (own:Nat->Lb),v=v0/\k<=xs.length/\iv=.int .i64 k/\Hid (zhu w.heap.size wr own v (xs.take k)/\(∀q,q<w.heap.size->own q=own0 q)/\Below w.heap.size w wr)) (fun _ iv _=>xs.length-(intOf iv).toNat)
 case atStart=>exact⟨0,_,own0,rfl,Nat.zero_le _,rfl,⟨[],by simp,World.ownsRow_nil _ _ _ _,fun k hk=>by simp[Value.ownBlock]at hk,fun i hi=>absurd hi (by simp)⟩,fun _ _=>rfl,bRf _ _⟩
 case round=>
  obtain⟨k,v,own,hv,hk,rfl,HQ⟩:=hrel;subst hv
  by_cases hlt:k<xs.length
  ·obtain⟨ob,off,va0,va1,vc0,vc1,rfl,hob,hsm,hi0,hi1,d0,d1,d2,d3,d4,d5,d6⟩:=HK.out.load HQ.out.2.2 k hlt
   have hob':=nLt hob HQ.out.2.2.size;have hltI:(k:Int)<(xs.length:Int):=by omega
   have HI0:=hid hi0;have HI1:=hid hi1;have HBa:=hid ((bRf wr.heap.size wr).alloc (Nat.le_refl _) (.cells #[.string xs[k].kd,.string xs[k].nm,.string xs[k].tm,.slice va0 xs[k].vs.length vc0,.bool xs[k].en,.slice va1 xs[k].hs.length vc1,.int .i64 xs[k].vr] 117));clear hi0 hi1;go_wp2_with fail
   clear d0 d1 d2 d3 d4 d5 d6;refine(zeL xs[k] va0 va1 vc0 vc1 _ ⟨hsm,HI0.out.mono HBa.out,HI1.out.mono HBa.out⟩ (HL.out.2 k hlt).1 (HL.out.2 k hlt).2).mono ?_;rintro e w1⟨a0,c0,a1,c1,m,rfl,ht0,hm,hsm1,ht1,hb1⟩;have hzW:wr.heap.size<=(wr.alloc (.cells #[.string xs[k].kd,.string xs[k].nm,.string xs[k].tm,.slice va0 xs[k].vs.length vc0,.bool xs[k].en,.slice va1 xs[k].hs.length vc1,.int .i64 xs[k].vr] 117)).heap.size:=by simp
   have HT:Hid (zn wr.heap.size w1 a0 xs[k].vs/\(∀g,a0=some g->g.block<m)/\wr.heap.size<=m/\zn m w1 a1 xs[k].hs):=⟨ht0.low hzW,hm,Nat.le_trans hzW hsm1,ht1⟩
   clear ht0 hm hsm1 ht1;have HB1:=hid (HBa.out.trans (hb1.mono hzW));clear hb1 HBa HI0 HI1 hsm;obtain⟨ps,hps,hown,hlab,hent⟩:=HQ.out.1;have HPS:=zbJ hps hown hlab hent;have hpl:ps.length=(xs.take k).length:=by rw[<- hps,List.length_map]
   rw[List.length_take]at hpl;have HLL:Hid (ps.length<=1048576/\w.heap.size<=wr.heap.size/\wr.heap.size<=w1.heap.size):=⟨by omega,HQ.out.2.2.size,HB1.out.size⟩
   clear hpl;have hown1:w1.ownsRow w.heap.size 117 7 v ps.length (ps.flatMap ObP.row):=yS hown HB1.out;clear hps hown hlab hent
   go_wp2_with (at_builtin;refine wpList_append_own_at _ rfl (.tmp 14) (.tmp 18) 35 rfl w.heap.size 117 i0 (.agg #[.string ByteArray.empty,.string ByteArray.empty,.string ByteArray.empty,.slice none 0 0,.bool false,.slice none 0 0,.int .i64 0]) 7 112 Tryz.underlying35 HI.out.1 HI.out.2.1 HI.out.2.2.1 HI.out.2.2.2 rfl (by decide) _ _ _ rfl (hown1.alloc _) ⟨w1.heap.size,0,none⟩ 1 1 [.string xs[k].kd,.string xs[k].nm,.string xs[k].tm,.slice a0 xs[k].vs.length c0,.bool xs[k].en,.slice a1 xs[k].hs.length c1,.int .i64 xs[k].vr] rfl rfl (zeW _ _ _) (by intro u hu;simp at hu;rcases hu with rfl|rfl|rfl|rfl|rfl|rfl|rfl <;> rfl) (by have:=HLL.out;unfold maxLen;omega) (by have:=HLL.out;omega) (by have:=HLL.out;simp;omega) ?_;intro v' w4 hown' hgr _ hat)
   obtain⟨own',ho1,ho2⟩:=zhu.snoc HPS.out.1 HPS.out.2.1 HPS.out.2.2.1 HPS.out.2.2.2 HLL.out.2.1 HB1.out HT.out.1 HT.out.2.1 HT.out.2.2.1 HT.out.2.2.2 hgr hown' hat;exact⟨⟨k+1,v',own',rfl,by omega,by go_num,by rw[tSe hlt];exact ho2,fun z hz=>(ho1 z (by have:=HLL.out;omega)).trans (HQ.out.2.1 z hz),((HQ.out.2.2.trans (HB1.out.mono HLL.out.2.1)).alloc (by have:=HLL.out;omega) _).grown hgr (by have:=HLL.out;simp;omega) (fun z hz=>(HPS.out.2.1.lt z hz).1)⟩,zq hlt⟩
  ·have e:k=xs.length:=by omega
   subst e;have HE:=HQ;rw[tOl (Nat.le_refl _)]at HE;clear HQ;go_wp2_with fail
   go_ret;exact⟨v,own,rfl,HE.out.2.1,HE.out.1,HE.out.2.2⟩
set_option maxRecDepth 20000 in
theorem zmF (own0:Nat->Lb)(a:Option Addr)(cap:Nat)(xs:List Gr)(w:World)(hw:zcf w a xs)(hl:xs.length<=1048576)(hls:∀i (h:i<xs.length),xs[i].r.vs.length<=1048576) :
 Calls Tryz.prog 80 #[.slice a xs.length cap,.func (.func 81) #[] #[]] w fun e w'=>∃v own,e=.returned v/\(∀k,k<w.heap.size->own k=own0 k)/\zg2 w.heap.size w' own v xs/\Below w.heap.size w w':=by
 obtain⟨i0,hi,hzi,hz1',hz2'⟩:=info_parts Tryz.zqM;have HI:Hid (Tryz.prog.info? 121=some i0/\i0.zero=some (.agg #[.int .i64 0,.string ByteArray.empty,.string ByteArray.empty,.slice none 0 0,.string ByteArray.empty,.string ByteArray.empty,.string ByteArray.empty])/\i0.size=7/\i0.bytes=112):=⟨hi,hzi,hz1',hz2'⟩
 have HK:=hid hw;have HL:=qE hl hls;clear hw hi hzi hz1' hz2' hls;go_enter Tryz.func80,Tryz.ntmps80;go_wp2_with fail
 go_loopw [5,10] (fun v0 iv wr=>∃(k:Nat) (v:Value) (own:Nat->Lb),v=v0/\k<=xs.length/\iv=.int .i64 k/\Hid (zg2 w.heap.size wr own v (xs.take k)/\(∀q,q<w.heap.size->own q=own0 q)/\Below w.heap.size w wr)) (fun _ iv _=>xs.length-(intOf iv).toNat)
 case atStart=>exact⟨0,_,own0,rfl,Nat.zero_le _,rfl,⟨[],by simp,World.ownsRow_nil _ _ _ _,fun k hk=>by simp[Value.ownBlock]at hk,fun i hi=>absurd hi (by simp)⟩,fun _ _=>rfl,bRf _ _⟩
 case round=>
  obtain⟨k,v,own,hv,hk,rfl,HQ⟩:=hrel;subst hv
  by_cases hlt:k<xs.length
  ·obtain⟨ob,off,va0,vc0,rfl,hob,hsm,hi0,d0,d1,d2,d3,d4,d5,d6⟩:=HK.out.load HQ.out.2.2 k hlt
   have hob':=nLt hob HQ.out.2.2.size;have hltI:(k:Int)<(xs.length:Int):=by omega
   have HI0:=hid hi0;have HBa:=hid ((bRf wr.heap.size wr).alloc (Nat.le_refl _) (.cells #[.int .i64 xs[k].no,.string xs[k].to,.string xs[k].gb,.slice va0 xs[k].r.vs.length vc0,.string xs[k].r.kd,.string xs[k].r.tm,.string xs[k].r.px] 121));clear hi0;go_wp2_with fail
   clear d0 d1 d2 d3 d4 d5 d6;refine(zkE xs[k] va0 vc0 _ (HI0.out.mono HBa.out) (HL.out.2 k hlt)).mono ?_;rintro e w1⟨a0,c0,rfl,ht0,hb1⟩;have hzW:wr.heap.size<=(wr.alloc (.cells #[.int .i64 xs[k].no,.string xs[k].to,.string xs[k].gb,.slice va0 xs[k].r.vs.length vc0,.string xs[k].r.kd,.string xs[k].r.tm,.string xs[k].r.px] 121)).heap.size:=by simp
   have HT:Hid (yt wr.heap.size w1 a0 xs[k].r.vs):=ht0.low hzW;clear ht0;have HB1:=hid (HBa.out.trans (hb1.mono hzW));clear hb1 HBa HI0 hsm;obtain⟨ps,hps,hown,hlab,hent⟩:=HQ.out.1;have HPS:=zbJ hps hown hlab hent;have hpl:ps.length=(xs.take k).length:=by rw[<- hps,List.length_map]
   rw[List.length_take]at hpl;have HLL:Hid (ps.length<=1048576/\w.heap.size<=wr.heap.size/\wr.heap.size<=w1.heap.size):=⟨by omega,HQ.out.2.2.size,HB1.out.size⟩
   clear hpl;have hown1:w1.ownsRow w.heap.size 121 7 v ps.length (ps.flatMap GrP.row):=yS hown HB1.out;clear hps hown hlab hent
   go_wp2_with (at_builtin;refine wpList_append_own_at _ rfl (.tmp 14) (.tmp 18) 36 rfl w.heap.size 121 i0 (.agg #[.int .i64 0,.string ByteArray.empty,.string ByteArray.empty,.slice none 0 0,.string ByteArray.empty,.string ByteArray.empty,.string ByteArray.empty]) 7 112 Tryz.underlying36 HI.out.1 HI.out.2.1 HI.out.2.2.1 HI.out.2.2.2 rfl (by decide) _ _ _ rfl (hown1.alloc _) ⟨w1.heap.size,0,none⟩ 1 1 [.int .i64 xs[k].no,.string xs[k].to,.string xs[k].gb,.slice a0 xs[k].r.vs.length c0,.string xs[k].r.kd,.string xs[k].r.tm,.string xs[k].r.px] rfl rfl (zeW _ _ _) (by intro u hu;simp at hu;rcases hu with rfl|rfl|rfl|rfl|rfl|rfl|rfl <;> rfl) (by have:=HLL.out;unfold maxLen;omega) (by have:=HLL.out;omega) (by have:=HLL.out;simp;omega) ?_;intro v' w4 hown' hgr _ hat)
   obtain⟨own',ho1,ho2⟩:=zg2.snoc HPS.out.1 HPS.out.2.1 HPS.out.2.2.1 HPS.out.2.2.2 HLL.out.2.1 HB1.out HT.out hgr hown' hat;exact⟨⟨k+1,v',own',rfl,by omega,by go_num,by rw[tSe hlt];exact ho2,fun z hz=>(ho1 z (by have:=HLL.out;omega)).trans (HQ.out.2.1 z hz),((HQ.out.2.2.trans (HB1.out.mono HLL.out.2.1)).alloc (by have:=HLL.out;omega) _).grown hgr (by have:=HLL.out;simp;omega) (fun z hz=>(HPS.out.2.1.lt z hz).1)⟩,zq hlt⟩
  ·have e:k=xs.length:=by omega
   subst e;have HE:=HQ;rw[tOl (Nat.le_refl _)]at HE;clear HQ;go_wp2_with fail
   go_ret;exact⟨v,own,rfl,HE.out.2.1,HE.out.1,HE.out.2.2⟩
def za4 (s:Shp)(i:Nat):ByteArray:=(s.fs.getD i zbs).nm
def jE (s:Shp)(ms:List Mnd)(row:List ByteArray)(i:Nat):Bool:=!has row (za4 s i)&&zco ms s.kd (za4 s i) row
def zeY (s:Shp)(ms:List Mnd)(row:List ByteArray):List ByteArray:=match (List.range s.fs.length).find? (jE s ms row) with|none=>row|some i=>row++[za4 s i]
def yh (s:Shp)(ms:List Mnd):Nat->List ByteArray
 | 0=>[]
 | k+1=>zeY s ms (yh s ms k)
theorem zmh (s:Shp)(ms:List Mnd)(row:List ByteArray):(zeY s ms row).length<=row.length+1:=by
 unfold zeY;split
 ·omega
 ·simp
theorem zeE (s:Shp)(ms:List Mnd):∀k,(yh s ms k).length<=k
 | 0=>Nat.le_refl _
 | k+1=>Nat.le_trans (zmh s ms _) (by have:=zeE s ms k;omega)
theorem zeP (s:Shp)(ms:List Mnd):∀k,∀x∈yh s ms k,∃i,i<s.fs.length/\x=za4 s i
 | 0,x,h=>by cases h
 | k+1,x,h=>by
  have h':x∈zeY s ms (yh s ms k):=h;unfold zeY at h'
  split at h'
  ·exact zeP s ms k x h'
  ·rename_i i hi
   rw[List.mem_append,List.mem_singleton]at h'
   rcases h' with h'|h'
   ·exact zeP s ms k x h'
   ·exact⟨i,List.mem_range.1 (List.mem_of_find?_eq_some hi),h'⟩
set_option maxRecDepth 20000 in
theorem zk8 (fa ma:Option Addr)(fcap mcap:Nat)(s:Shp)(ms:List Mnd)(w:World)(hf:yc w fa s.fs)(hm:qK w ma ms)(hml:ms.length<=12)(hn:s.fs.length<=6) :
 Calls Tryz.prog 136 #[.agg #[.string s.kd,.slice fa s.fs.length fcap],.slice ma ms.length mcap] w fun e w'=>∃v,e=.returned v/\w'.ownsRow w.heap.size 9 1 v (yh s ms s.fs.length).length ((yh s ms s.fs.length).map Value.string)/\Below w.heap.size w w':=by
 have HM:=qE hf hm
 have HSM:Hid (∀k,∀x∈yh s ms k,x.size<=maxLen):=by
  intro k x hx;obtain⟨i,hi,rfl⟩:=zeP s ms k x hx;unfold za4;rw[getD_at _ _ _ hi];exact(hf.smalls.small i hi).1.nm
 obtain⟨i0,hi0,hz0,hz1',hz2⟩:=info_parts Tryz.zcH;clear hf hm;go_enter Tryz.func136,Tryz.ntmps136;go_wp2_with fail
 have hnI:(s.fs.length:Int)<=6:=by omega
 go_loopw [5,6] (fun v0 iv wr=>∃(k:Nat) (v:Value),v=v0/\k<=s.fs.length/\iv=.int .i64 k/\wr.ownsRow (w.heap.size+1) 9 1 v (yh s ms k).length ((yh s ms k).map Value.string)/\wr.heap[w.heap.size]?=some (.cells #[.string s.kd,.slice fa s.fs.length fcap] 128)/\Below w.heap.size w wr) (fun _ iv _=>s.fs.length-(intOf iv).toNat)
 case atStart=>exact⟨0,_,rfl,Nat.zero_le _,rfl,⟨rfl,.inr ⟨w.heap.size+1,0,#[],rfl,Nat.le_refl _,(zT _ _ _).2,Nat.le_refl _,by simp[maxLen],rfl,rfl⟩⟩,(zT _ _ _).1,zw _ _ _⟩
 case round=>
  obtain⟨k,v,hv,hk,rfl,hown,hbox,hB⟩:=hrel;subst hv;obtain⟨va,vcap,rfl⟩:=qC hown;have HW:=zdp hown hbox hB;have hXr:∀j,wr.cell? ⟨w.heap.size,j,none⟩=(#[.string s.kd,.slice fa s.fs.length fcap]:Array Value)[j]?:=fun j=>cell_of_block hbox
  have hzr:=(gES hbox).1;have HGL:Hid ((yh s ms k).length<=6):=by have:=zeE s ms k;show _<=_;omega
  clear hown hbox hB
  by_cases hlt:k<s.fs.length
  ·have hltI:(k:Int)<(s.fs.length:Int):=by omega
   go_wp2_with fail
   clear hXr;obtain⟨wo,hwo⟩:∃wo,wo=wr:=⟨_,rfl⟩
   have HWO:Hid (wo.ownsRow (w.heap.size+1) 9 1 (.slice va (yh s ms k).length vcap) (yh s ms k).length ((yh s ms k).map Value.string)/\wo.heap[w.heap.size]?=some (.cells #[.string s.kd,.slice fa s.fs.length fcap] 128)/\Below w.heap.size w wo/\w.heap.size<wo.heap.size):=by rw[hwo];exact⟨HW.out.1,HW.out.2.1,HW.out.2.2,hzr⟩
   have HWE:=hid hwo;clear hwo HW hzr
   go_loopw [5,7] (fun v1 iv wq=>∃i:Nat,i<=s.fs.length/\iv=.int .i64 i/\v1=.slice va (yh s ms k).length vcap/\(∀q,q<i->jE s ms (yh s ms k) q=false)/\Below wo.heap.size wo wq) (fun _ iv _=>s.fs.length-(intOf iv).toNat)
   case atStart=>exact⟨0,Nat.zero_le _,rfl,rfl,fun q h=>absurd h (by omega),by rw[HWE.out];exact bRf _ _⟩
   case round=>
    obtain⟨i,hi,rfl,rfl,hno,hBq⟩:=hrel;have HQ:=zrd hno hBq (yS HWO.out.1 hBq) ((hBq.block _ HWO.out.2.2.2).trans HWO.out.2.1) (HWO.out.2.2.1.trans (hBq.mono HWO.out.2.2.1.size));have hXq:=zbm HQ.out.2.2.2.1;have hzq:=(gES HQ.out.2.2.2.1).1;clear hno hBq
    by_cases hil:i<s.fs.length
    ·have hilI:(i:Int)<(s.fs.length:Int):=by omega
     obtain⟨fb,foff,rfl,hfb,hr⟩:=HM.out.1.rows (by intro e;rw[e]at hil;simp at hil);obtain⟨wa,wcap,hf0⟩:=hr i hil;obtain⟨c0,c1,c2,c3,c4,c5,c6,c7,c8,c9,c10⟩:=(hf0.mono hfb HQ.out.2.2.2.2).load;have HNM:Hid (za4 s i=s.fs[i].nm):=by unfold Hid za4;rw[getD_at _ _ _ hil]
     have HST:=hid (zlH HQ.out.2.2.1 (by have:=HGL.out;unfold maxLen;omega) (HSM.out k))
     have HFIND:Hid (jE s ms (yh s ms k) i=true->yh s ms (k+1)=yh s ms k++[s.fs[i].nm]):=by
      intro h
      show zeY s ms (yh s ms k)=_
      unfold zeY
      have:(List.range s.fs.length).find? (jE s ms (yh s ms k))=some i:=by
       rw[List.find?_range_eq_some];exact⟨h,List.mem_range.2 hil,fun j hj=>by rw[HQ.out.1 j hj];rfl⟩
      rw[this]
      show yh s ms k++[za4 s i]=_
      rw[HNM.out]
     clear hr hf0 c1 c2 c3 c4 c5 c6 c7 c8 c9 c10;go_wp2_with fail
     have h:=zcC va vcap (yh s ms k) s.fs[i].nm wr HST.out
     rcases hh:has (yh s ms k) s.fs[i].nm with _|_
     rotate_left
     ·rw[hh]at h
      refine h.mono ?_;rintro e w3⟨rfl,rfl⟩
      have HNR:Hid (∀q,q<i+1->jE s ms (yh s ms k) q=false):=by
       intro q hq
       rcases Nat.lt_or_ge q i with h1|h1
       ·exact HQ.out.1 q h1
       ·have e:q=i:=by omega
        subst e;unfold jE;rw[HNM.out,hh];rfl
      clear h hh;go_wp2_with fail
      exact⟨⟨i+1,by omega,by go_num,rfl,HNR.out,HQ.out.2.1⟩,zq hil⟩
     rw[hh]at h;refine h.mono ?_;rintro e w3'⟨rfl,hw3⟩;rw[hw3];clear hw3 w3';have HRN:Hid (jE s ms (yh s ms k) i=zco ms s.kd s.fs[i].nm (yh s ms k)):=by unfold Hid jE;rw[HNM.out,hh];rfl
     clear h hh;go_wp2_with fail
     have h:=zno ma va mcap vcap ms s.kd s.fs[i].nm (yh s ms k) wr (HM.out.2.mono HQ.out.2.2.2.2) HST.out hml
     rcases hh:zco ms s.kd s.fs[i].nm (yh s ms k) with _|_
     ·rw[hh]at h
      refine h.mono ?_;rintro e w3⟨rfl,hb3⟩
      have HNR:Hid ((∀q,q<i+1->jE s ms (yh s ms k) q=false)/\Below wo.heap.size wo w3):=by
       refine⟨fun q hq=>?_,HQ.out.2.1.trans (hb3.mono HQ.out.2.1.size)⟩
       rcases Nat.lt_or_ge q i with h1|h1
       ·exact HQ.out.1 q h1
       ·have e:q=i:=by omega
        subst e;rw[HRN.out,hh]
      clear h hh hb3;go_wp2_with fail
      exact⟨⟨i+1,by omega,by go_num,rfl,HNR.out.1,HNR.out.2⟩,zq hil⟩
     rw[hh]at h;refine h.mono ?_;rintro e w3⟨rfl,hb3⟩;have HG1:=hid (HFIND.out (by rw[HRN.out,hh]));have H3:=zbJ (yS HQ.out.2.2.1 hb3) ((hb3.block _ hzq).trans HQ.out.2.2.2.1) (HQ.out.2.2.2.2.trans (hb3.mono HQ.out.2.2.2.2.size)) (nLt hzq hb3.size);clear h hh hb3 hXq c0
     go_wp2_with (at_builtin;refine zhy ?_)
     show wpList _ _ _ _ _ _
     refine wpList_append_own _ rfl (.tmp 42) (.tmp 44) 100 rfl (w.heap.size+1) 9 i0 (.string ByteArray.empty) 1 16 Tryz.underlying100 hi0 hz0 hz1' hz2 rfl (by decide) (.slice va (yh s ms k).length vcap) _ _ rfl (H3.out.1.alloc _) ⟨w3.heap.size,0,none⟩ 1 1 [.string s.fs[i].nm] rfl rfl (ze0 _ _ _) (by intro u hu;simp at hu;subst hu;rfl) (by have:=HGL.out;unfold maxLen;omega) (by have:=HGL.out;omega) (by have:=H3.out.2.2.2;simp;omega) ?_;intro v' w4 hown' hgr _;obtain⟨va',vcap',rfl⟩:=qC hown';have hgb:∀g,(Value.slice va (yh s ms k).length vcap).ownBlock=some g->w.heap.size+1<=g:=fun g hg=>(H3.out.1.lt g hg).1
     have HY:Hid (w4.ownsRow (w.heap.size+1) 9 1 (.slice va' ((yh s ms k).length+1) vcap') (yh s ms (k+1)).length ((yh s ms (k+1)).map Value.string)/\w4.heap[w.heap.size]?=some (.cells #[.string s.kd,.slice (some ⟨fb,foff,none⟩) s.fs.length fcap] 128)/\Below w.heap.size w w4):=by
      refine⟨by rw[HG1.out,List.length_append,List.map_append];exact hown',?_,zc8 H3.out.2.2.1 H3.out.2.2.1.size hgr (fun g hg=>by have:=hgb g hg;omega)⟩;exact(zaL hgr (by have:=H3.out.2.2.2;simp;omega) (fun g hg=>by have:=hgb g hg;omega)).trans ((Below.heap_alloc _ _ _ H3.out.2.2.2).trans H3.out.2.1)
     clear hown' hgr hgb;go_wp2_with fail
     exact⟨⟨k+1,_,rfl,by omega,by go_num,HY.out.1,HY.out.2.1,HY.out.2.2⟩,zq hlt⟩
    ·have e:i=s.fs.length:=by omega
     have HN:Hid (yh s ms (k+1)=yh s ms k):=by
      show zeY s ms (yh s ms k)=_
      unfold zeY
      have:(List.range s.fs.length).find? (jE s ms (yh s ms k))=none:=by
       rw[List.find?_eq_none];intro q hq;rw[HQ.out.1 q (by rw[e];exact List.mem_range.1 hq)]
       simp
      rw[this]
     subst e;go_wp2_with fail
     exact⟨⟨k+1,_,rfl,by omega,by go_num,by rw[HN.out];exact HQ.out.2.2.1,HQ.out.2.2.2.1,HQ.out.2.2.2.2⟩,zq hlt⟩
  ·have e:k=s.fs.length:=by omega
   subst e;go_wp2_with fail
   go_ret;exact⟨_,rfl,zc1 HW.out.1 (by omega),HW.out.2.2⟩
def zdf {α:Type}(p:α->Bool)(l:List α):Int:=if l.any p=true then (l.findIdx p:Int) else -1
theorem zoY {α:Type}{p:α->Bool}{l:List α}{k:Nat}(hk:k<l.length)(h:∀i (hi:i<l.length),i<k->p l[i]=false)(hp:p l[k]=true):zdf p l=k:=by
 unfold zdf;rw[if_pos (List.any_eq_true.2 ⟨l[k],List.getElem_mem _,hp⟩)];have e:l.findIdx p=k:=(List.findIdx_eq hk).2 ⟨hp,fun j hj=>h j (by omega) hj⟩;rw[e]
theorem zlv {α:Type}{p:α->Bool}{l:List α}(h:∀i (hi:i<l.length),p l[i]=false):zdf p l=-1:=by
 unfold zdf;rw[if_neg];intro hc;obtain⟨x,hx,hp⟩:=List.any_eq_true.1 hc;obtain⟨i,hi,rfl⟩:=List.mem_iff_getElem.1 hx;rw[h i hi]at hp
 cases hp
theorem zcd {α:Type}(p:α->Bool)(l:List α):zdf p l<0↔l.any p=false:=by
 unfold zdf
 split
 ·rename_i h;rw[h];constructor
  ·intro h';omega
  ·intro h';cases h'
 ·rename_i h
  exact⟨fun _=>by simpa using h,fun _=>by omega⟩
def zbS (kd nm:ByteArray)(o:Ob):Bool:=decide (o.kd=kd)&&decide (o.nm=nm)
def zbh (tm rs:ByteArray)(g:Lg):Bool:=decide (g.tm=tm)&&decide (g.rs=rs)
def zoJ (tm rs:ByteArray)(p:Pu):Bool:=decide (p.tm=tm)&&decide (p.rs=rs)
def zbf (ps:List Pu)(tm rs:ByteArray):Nat->Int
 | 0=>0
 | k+1=>zbf ps tm rs k+(match ps[k]? with|some p=>if zoJ tm rs p=true then p.am else 0|none=>0)
def out (ps:List Pu)(tm rs:ByteArray):Int:=zbf ps tm rs ps.length
theorem zfa (ps:List Pu)(tm rs:ByteArray)(k:Nat)(h:k<ps.length):zbf ps tm rs (k+1)=zbf ps tm rs k+(if zoJ tm rs ps[k]=true then ps[k].am else 0):=by
 simp only[zbf,List.getElem?_eq_getElem h]
theorem zbt (ps:List Pu)(tm rs:ByteArray)(ha:∀i (h:i<ps.length),0<=ps[i].am/\ps[i].am<=1000000):∀k,k<=ps.length->0<=zbf ps tm rs k/\zbf ps tm rs k<=k*1000000
 | 0,_=>by simp[zbf]
 | k+1,h=>by
  have h1:=zbt ps tm rs ha k (by omega);have h2:=ha k h;rw[zfa ps tm rs k h]
  split <;> omega
theorem zhf (x y:ByteArray)(w:World):Calls Tryz.prog 140 #[.string x,.string y] w fun e w'=>e=.returned (.int .i64 (key x y))/\w'=w:=by
 have k1:=zjM x y;have k2:=zjM y x;have k3:=zqx x y;have k4:=zmG x y;unfold less at k1 k2
 by_cases h1:key x y=-1
 ·have HF:=zjT h1
  have e1:Op.bytesLess x.toList y.toList=true:=by rw[k1];simpa using h1
  clear k1 k2 k3 k4 h1;go_enter Tryz.func140,Tryz.ntmps140;go_wp2_with fail
  go_ret;exact⟨zo HF.out.symm,rfl⟩
 ·have e1:Op.bytesLess x.toList y.toList=false:=by rw[k1];simpa using h1
  by_cases h2:key y x=-1
  ·have HF:Hid (key x y=1):=by unfold Hid;omega
   have e2:Op.bytesLess y.toList x.toList=true:=by rw[k2];simpa using h2
   have e3:(x.toList == y.toList)=false:=by rw[beq_toList,decide_eq_false_iff_not];intro e;have:=(zbC x y).2 e;omega
   clear k1 k2 k3 k4 h1 h2;go_enter Tryz.func140,Tryz.ntmps140;go_wp2_with fail
   go_ret;exact⟨zo HF.out.symm,rfl⟩
  ·have HF:Hid (key x y=0):=by unfold Hid;omega
   have e2:Op.bytesLess y.toList x.toList=false:=by rw[k2];simpa using h2
   have e3:(x.toList == y.toList)=true:=by rw[beq_toList,decide_eq_true_eq];exact(zbC x y).1 HF.out
   clear k1 k2 k3 k4 h1 h2;go_enter Tryz.func140,Tryz.ntmps140;go_wp2_with fail
   go_ret;exact⟨zo HF.out.symm,rfl⟩
theorem zg3 (x y z u:ByteArray)(w:World):Calls Tryz.prog 104 #[.string x,.string y,.string z,.string u] w fun e w'=>e=.returned (.int .i64 (key2 x y z u))/\w'=w:=by
 by_cases h:key x z=0
 ·have HF:Hid (key2 x y z u=key y u):=by unfold Hid key2;rw[if_pos h]
  have e1:(key x z != 0)=false:=by simpa using h
  clear h;go_enter Tryz.func104,Tryz.ntmps104
  go_wp2_with (go_at_call 140;refine(zhf _ _ _).mono ?_;rintro e w2⟨rfl,rfl⟩)
  go_ret;exact⟨zo HF.out.symm,rfl⟩
 ·have HF:Hid (key2 x y z u=key x z):=by unfold Hid key2;rw[if_neg h]
  have e1:(key x z != 0)=true:=by simpa using h
  clear h;go_enter Tryz.func104,Tryz.ntmps104
  go_wp2_with (go_at_call 140;refine(zhf _ _ _).mono ?_;rintro e w2⟨rfl,rfl⟩)
  go_ret;exact⟨zo HF.out.symm,rfl⟩
theorem zjW (p q:Pu)(w:World):Calls Tryz.prog 111 #[.agg p.cells,.agg q.cells] w fun e w'=>e=.returned (.int .i64 (zas p q))/\Below w.heap.size w w':=by
 unfold Pu.cells
 by_cases h:p.dr=q.dr
 ·have HF:Hid (zas p q=key2 p.tm p.rs q.tm q.rs):=by unfold Hid zas;rw[if_pos ((zbC _ _).2 h)]
  have e1:(p.dr.toList == q.dr.toList)=true:=by rw[beq_toList];simpa using h
  clear h;go_enter Tryz.func111,Tryz.ntmps111;go_wp2_with fail
  refine(zg3 _ _ _ _ _).mono ?_;rintro e w2⟨rfl,rfl⟩;go_wp2_with fail
  go_ret;exact⟨zo HF.out.symm,zw _ _ _⟩
 ·have HF:Hid (zas p q=key p.dr q.dr):=by unfold Hid zas;rw[if_neg (fun e=>h ((zbC _ _).1 e))]
  have e1:(p.dr.toList == q.dr.toList)=false:=by rw[beq_toList];simpa using h
  clear h;go_enter Tryz.func111,Tryz.ntmps111;go_wp2_with fail
  refine(zhf _ _ _).mono ?_;rintro e w2⟨rfl,rfl⟩;go_wp2_with fail
  go_ret;exact⟨zo HF.out.symm,zw _ _ _⟩
theorem zmp (b:Bk)(a0 a1 a2 a3:Option Addr)(c0 c1 c2 c3:Nat)(kd nm:ByteArray)(w:World)(hb:q8 w b a0 a1 a2 a3)(hl:b.os.length<=1048576) :
 Calls Tryz.prog 108 #[.agg (b.cells a0 a1 a2 a3 c0 c1 c2 c3),.string kd,.string nm] w fun e w'=>e=.returned (.int .i64 (zdf (zbS kd nm) b.os))/\Below w.heap.size w w':=by
 have HK:Hid (q8 w b a0 a1 a2 a3):=hb;clear hb;unfold Bk.cells;go_enter Tryz.func108,Tryz.ntmps108;go_wp2_with fail
 have hX0:=zl w (bC b a0 a1 a2 a3 c0 c1 c2 c3) 40;have HB0:Hid (Below w.heap.size w (w.alloc (.cells (bC b a0 a1 a2 a3 c0 c1 c2 c3) 40))):=bAl _ _;obtain⟨W0,hW0⟩:∃W0,W0=w.alloc (.cells (bC b a0 a1 a2 a3 c0 c1 c2 c3) 40):=⟨_,rfl⟩
 have hz0:w.heap.size<W0.heap.size:=by rw[hW0];simp
 rw[<- hW0]at HB0 hX0 ⊢;clear hW0
 go_loopw [7] (fun iv wr=>∃k:Nat,k<=b.os.length/\iv=.int .i64 k/\Hid (∀i (hi:i<b.os.length),i<k->zbS kd nm b.os[i]=false)/\wr=W0) (fun iv _=>b.os.length-(intOf iv).toNat)
 case atStart=>exact⟨0,Nat.zero_le _,rfl,fun i hi h=>by omega,rfl⟩
 case round=>
  obtain⟨k,hk,rfl,HQ,rfl⟩:=hrel;have hkn:k<=1048576:=by omega
  by_cases hlt:k<b.os.length
  ·obtain⟨ob,off,v0,v1,q0,q1,rfl,hob,hsm,hl0,hl1,d0,d1,d2,d3,d4,d5,d6⟩:=HK.out.os.load HB0.out k hlt
   have hltI:(k:Int)<(b.os.length:Int):=by omega
   clear hsm hl0 hl1
   by_cases h1:b.os[k].kd=kd
   ·have e1:(b.os[k].kd.toList == kd.toList)=true:=by rw[beq_toList];simpa using h1
    by_cases h2:b.os[k].nm=nm
    ·have e2:(b.os[k].nm.toList == nm.toList)=true:=by rw[beq_toList];simpa using h2
     have HF:Hid (zdf (zbS kd nm) b.os=k):=zoY hlt HQ.out (by unfold zbS;simp[h1,h2]);clear h1 h2;go_wp2_with fail
     go_ret;exact⟨zo HF.out.symm,HB0.out⟩
    ·have e2:(b.os[k].nm.toList == nm.toList)=false:=by rw[beq_toList];simpa using h2
     have HN:Hid (∀i (hi:i<b.os.length),i<k+1->zbS kd nm b.os[i]=false):=by
      intro i hi h
      rcases Nat.eq_or_lt_of_le (Nat.le_of_lt_succ h) with e|h'
      ·subst e;unfold zbS;simp[h2]
      ·exact HQ.out i hi h'
     clear h1 h2;go_wp2_with fail
     exact⟨⟨k+1,by omega,by go_num,HN.out,trivial⟩,zq hlt⟩
   ·have e1:(b.os[k].kd.toList == kd.toList)=false:=by rw[beq_toList];simpa using h1
    have HN:Hid (∀i (hi:i<b.os.length),i<k+1->zbS kd nm b.os[i]=false):=by
     intro i hi h
     rcases Nat.eq_or_lt_of_le (Nat.le_of_lt_succ h) with e|h'
     ·subst e;unfold zbS;simp[h1]
     ·exact HQ.out i hi h'
    clear h1;go_wp2_with fail
    exact⟨⟨k+1,by omega,by go_num,HN.out,trivial⟩,zq hlt⟩
  ·have HF:Hid (zdf (zbS kd nm) b.os=-1):=zlv fun i hi=>HQ.out i hi (by omega)
   clear HQ;go_wp2_with fail
   go_ret;exact⟨zo HF.out.symm,HB0.out⟩
theorem zdT (b:Bk)(a0 a1 a2 a3:Option Addr)(c0 c1 c2 c3:Nat)(tm rs:ByteArray)(w:World)(hb:q8 w b a0 a1 a2 a3)(hl:b.ls.length<=1048576) :
 Calls Tryz.prog 67 #[.agg (b.cells a0 a1 a2 a3 c0 c1 c2 c3),.string tm,.string rs] w fun e w'=>e=.returned (.int .i64 (zdf (zbh tm rs) b.ls))/\Below w.heap.size w w':=by
 have HK:Hid (q8 w b a0 a1 a2 a3):=hb;clear hb;unfold Bk.cells;go_enter Tryz.func67,Tryz.ntmps67;go_wp2_with fail
 have hX0:=zl w (bC b a0 a1 a2 a3 c0 c1 c2 c3) 40;have HB0:Hid (Below w.heap.size w (w.alloc (.cells (bC b a0 a1 a2 a3 c0 c1 c2 c3) 40))):=bAl _ _;obtain⟨W0,hW0⟩:∃W0,W0=w.alloc (.cells (bC b a0 a1 a2 a3 c0 c1 c2 c3) 40):=⟨_,rfl⟩
 have hz0:w.heap.size<W0.heap.size:=by rw[hW0];simp
 rw[<- hW0]at HB0 hX0 ⊢;clear hW0
 go_loopw [7] (fun iv wr=>∃k:Nat,k<=b.ls.length/\iv=.int .i64 k/\Hid (∀i (hi:i<b.ls.length),i<k->zbh tm rs b.ls[i]=false)/\wr=W0) (fun iv _=>b.ls.length-(intOf iv).toNat)
 case atStart=>exact⟨0,Nat.zero_le _,rfl,fun i hi h=>by omega,rfl⟩
 case round=>
  obtain⟨k,hk,rfl,HQ,rfl⟩:=hrel;have hkn:k<=1048576:=by omega
  by_cases hlt:k<b.ls.length
  ·obtain⟨ob,off,rfl,hob,d0,d1,d2,d3⟩:=HK.out.ls.load HB0.out k hlt
   have hltI:(k:Int)<(b.ls.length:Int):=by omega
   clear d2 d3
   by_cases h1:b.ls[k].tm=tm
   ·have e1:(b.ls[k].tm.toList == tm.toList)=true:=by rw[beq_toList];simpa using h1
    by_cases h2:b.ls[k].rs=rs
    ·have e2:(b.ls[k].rs.toList == rs.toList)=true:=by rw[beq_toList];simpa using h2
     have HF:Hid (zdf (zbh tm rs) b.ls=k):=zoY hlt HQ.out (by unfold zbh;simp[h1,h2]);clear h1 h2;go_wp2_with fail
     go_ret;exact⟨zo HF.out.symm,HB0.out⟩
    ·have e2:(b.ls[k].rs.toList == rs.toList)=false:=by rw[beq_toList];simpa using h2
     have HN:Hid (∀i (hi:i<b.ls.length),i<k+1->zbh tm rs b.ls[i]=false):=by
      intro i hi h
      rcases Nat.eq_or_lt_of_le (Nat.le_of_lt_succ h) with e|h'
      ·subst e;unfold zbh;simp[h2]
      ·exact HQ.out i hi h'
     clear h1 h2;go_wp2_with fail
     exact⟨⟨k+1,by omega,by go_num,HN.out,trivial⟩,zq hlt⟩
   ·have e1:(b.ls[k].tm.toList == tm.toList)=false:=by rw[beq_toList];simpa using h1
    have HN:Hid (∀i (hi:i<b.ls.length),i<k+1->zbh tm rs b.ls[i]=false):=by
     intro i hi h
     rcases Nat.eq_or_lt_of_le (Nat.le_of_lt_succ h) with e|h'
     ·subst e;unfold zbh;simp[h1]
     ·exact HQ.out i hi h'
    clear h1;go_wp2_with fail
    exact⟨⟨k+1,by omega,by go_num,HN.out,trivial⟩,zq hlt⟩
  ·have HF:Hid (zdf (zbh tm rs) b.ls=-1):=zlv fun i hi=>HQ.out i hi (by omega)
   clear HQ;go_wp2_with fail
   go_ret;exact⟨zo HF.out.symm,HB0.out⟩
end Go.Proofs.YtkficnallnpjnaaGreat
