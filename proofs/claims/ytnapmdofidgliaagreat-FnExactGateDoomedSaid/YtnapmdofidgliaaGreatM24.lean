import Derived.Test.YtnapmdofidgliaaGreatM21
import Derived.Test.YtnapmdofidgliaaGreatM20
import Derived.Test.YtnapmdofidgliaaGreatM22
set_option maxHeartbeats 4000000
namespace Go.Proofs.YtnapmdofidgliaaGreat
open Go.RowKit
def yC (s:Shp)(ms:List Mnd)(p:Nat):List Int:=ms.flatMap fun m=>if turns m s p=true then (zQ m).map (zR s.fs) else []
theorem zh4 (s:Shp)(ms:List Mnd)(p k:Nat)(h:k<ms.length):yC s (ms.take (k+1)) p=yC s (ms.take k) p++if turns ms[k] s p=true then (zQ ms[k]).map (zR s.fs) else []:=by
 unfold yC;rw[tSe h,List.flatMap_append]
 simp
theorem zd4 (m:Mnd):(zQ m).length<=2:=List.length_filter_le _ _
theorem zhn (s:Shp)(p:Nat):∀ms:List Mnd,(yC s ms p).length<=ms.length*2
 | []=>Nat.le_refl _
 | m :: ms=>by
  have h1:=zhn s p ms;have h2:=zd4 m;unfold yC at h1 ⊢;rw[List.flatMap_cons,List.length_append,List.length_cons]
  by_cases h:turns m s p=true
  ·rw[if_pos h,List.length_map];omega
  ·rw[if_neg h,List.length_nil];omega
theorem zoY {w:World}{lo lo':Nat}{e e':TypeId}{v v':Value}{n n':Nat}{xs xs':List Value}(h:w.ownsRow lo e 1 v n xs)(h':w.ownsRow lo' e' 1 v' n' xs')(he:e≠e'):∀g,v.ownBlock=some g->∀g',v'.ownBlock=some g'->g≠g':=by
 intro g hg g' hg' hgg;subst hgg;obtain⟨_,⟨rfl,_⟩|⟨b,cap,cur,rfl,_,hh,_⟩⟩:=h
 ·cases hg
 ·obtain⟨_,⟨rfl,_⟩|⟨b',cap',cur',rfl,_,hh',_⟩⟩:=h'
  ·cases hg'
  ·have e1:b=g:=Option.some.inj hg
   have e2:b'=g:=Option.some.inj hg';rw[e1]at hh;rw[e2,hh]at hh';simp only[Option.some.injEq,Obj.cells.injEq]at hh';exact he hh'.2.1
def ints (l:List Int):List Value:=l.map (Value.int .i64)
set_option maxRecDepth 20000 in
theorem zne (s:Shp)(ms:List Mnd)(p bm bs:Nat)(ma fa:Option Addr)(mcap fcap:Nat)(w:World)(hm:qN w ma ms)(hf:zY w fa s.fs)(hp:p<s.fs.length)(hl:ms.length<=1048576)
 (hbs:bs<w.heap.size) (hcm:w.cell? ⟨bm,0,none⟩=some (.slice ma ms.length mcap)) (hcs:∀j,w.cell? ⟨bs,j,none⟩=(#[.string s.kd,.slice fa s.fs.length fcap]:Array Value)[j]?) :
 Calls Tryz.prog 188 #[.int .i64 p,.pointer (some ⟨bm,0,none⟩),.pointer (some ⟨bs,0,none⟩)] w fun e w'=>∃v,e=.returned v/\w'.ownsRow w.heap.size 3 1 v (yC s ms p).length (ints (yC s ms p))/\Below w.heap.size w w':=by
 obtain⟨i0,hi,hz0,hz1',hz2⟩:=info_parts Tryz.zfu;have HM:=hid hm;have HF:=hid hf;clear hm hf;go_enter Tryz.func188,Tryz.ntmps188;go_wp2_with fail
 go_loopw [5,12] (fun v0 iv wr=>∃(k:Nat) (v:Value),v=v0/\k<=ms.length/\iv=.int .i64 k/\wr.ownsRow w.heap.size 3 1 v (yC s (ms.take k) p).length (ints (yC s (ms.take k) p))/\Below w.heap.size w wr) (fun _ iv _=>ms.length-(intOf iv).toNat)
 case atStart=>exact⟨0,_,rfl,Nat.zero_le _,rfl,World.ownsRow_nil _ _ _ _,bRf _ _⟩
 case round=>
  obtain⟨k,v,hv,hk,rfl,hown,hB⟩:=hrel;subst hv
  by_cases hlt:k<ms.length
  ·obtain⟨b,off,rfl,hb,c0,c1,c2,c3,c4,c5⟩:=HM.out.load hB k hlt
   have hltI:(k:Int)<(ms.length:Int):=by omega
   have hbw:=nLt hb hB.size;have hcsr:=za hcs hbs hB;have hbsr:=nLt hbs hB.size;have HW:=hid hown;have HB:=hid hB;clear hown hB;go_wp2_with fail
   have hba:=(bRf wr.heap.size wr).alloc (Nat.le_refl _) (.cells #[.string ms[k].kd,.string ms[k].fd,.string ms[k].wh,.string ms[k].wi,.string ms[k].pt,.string ms[k].fr] 133);have ht:=zli ms[k] s fa fcap p (wr.alloc (.cells #[.string ms[k].kd,.string ms[k].fd,.string ms[k].wh,.string ms[k].wi,.string ms[k].pt,.string ms[k].fr] 133)) (HF.out.mono (HB.out.trans (hba.mono HB.out.size))) hp
   by_cases htt:turns ms[k] s p=true
   ·have HS:Hid (yC s (ms.take (k+1)) p=yC s (ms.take k) p++(zQ ms[k]).map (zR s.fs)):=by unfold Hid;rw[zh4 s ms p k hlt,if_pos htt]
    rw[htt]at ht;refine ht.mono ?_;rintro e w1⟨rfl,hb1⟩;have hX1:=za (zl wr _ _) (by simp) hb1;have HB1:=hid (hba.trans (hb1.mono hba.size));have hz1:wr.heap.size<w1.heap.size:=by have:=hb1.size;simp at this;omega
    have hcs1:=za hcsr hbsr HB1.out;clear ht hba hb1 c0 c1 c2 c3 c4 c5;go_wp2_with fail
    refine(zfB ms[k] w1).mono ?_;rintro e w2⟨nv,rfl,hn,hb2⟩;obtain⟨na,ncap,rfl⟩:=yY hn;have HN2:=hid hn;have HB2:=hid (HB1.out.trans (hb2.mono HB1.out.size));have HW2:Hid (w2.ownsRow w.heap.size 3 1 v (yC s (ms.take k) p).length (ints (yC s (ms.take k) p))):=yF HW.out HB2.out;have HNL:Hid ((zQ ms[k]).length<=2):=zd4 _;have HRL:Hid ((yC s (ms.take k) p).length<=2097152):=by have h1:=zhn s p (ms.take k);rw[List.length_take]at h1;show _<=_;omega
    have hcs2:=za hcs1 (Nat.lt_trans hbsr hz1) hb2;clear hn hb2 hX1 hcs1 hcsr
    revert HS HN2 HNL
    generalize zQ ms[k]=names
    intro HS HN2 HNL;go_wp2_with fail
    have hszw:=HB2.out.size
    go_loopw [5,24] (fun v0 iv wq=>∃(j:Nat) (v1:Value),v1=v0/\j<=names.length/\iv=.int .i64 j/\wq.ownsRow w.heap.size 3 1 v1 ((yC s (ms.take k) p)++(names.take j).map (zR s.fs)).length (ints ((yC s (ms.take k) p)++(names.take j).map (zR s.fs)))/\wq.ownsRow w1.heap.size 9 1 (.slice na names.length ncap) names.length (names.map Value.string)/\Below w.heap.size w wq) (fun _ iv _=>names.length-(intOf iv).toNat)
    case atStart=>exact⟨0,_,rfl,Nat.zero_le _,rfl,by simpa using HW2.out,HN2.out,HB.out.trans (HB2.out.mono HB.out.size)⟩
    case round=>
     obtain⟨j,v1,hv1,hj,rfl,hown,hnames,hB⟩:=hrel;subst hv1
     by_cases hjl:j<names.length
     ·obtain⟨g,rfl,hcell⟩:∃g,na=some ⟨g,0,none⟩/\wr.cell? ⟨g,j,none⟩=some (.string names[j]):=by
       obtain⟨_,⟨h0,h1⟩|⟨g,cap,cur,h0,h1⟩⟩:=id hnames
       ·rw[h1]at hjl;exact absurd hjl (by omega)
       ·cases h0
        refine⟨g,rfl,?_⟩;rw[hnames.cellAt j (by omega)]
        simp[hjl]
      have hjI:(j:Int)<(names.length:Int):=by omega
      have hcsr:=za hcs hbs hB;have hbsr':=nLt hbs hB.size;have HX:=zc6 hown hnames hB;have HTK:Hid ((names.take (j+1)).map (zR s.fs)=(names.take j).map (zR s.fs)++[zR s.fs names[j]]):=by unfold Hid;rw[tSe hjl,List.map_append];rfl
      have HLL:Hid (((yC s (ms.take k) p)++(names.take j).map (zR s.fs)).length<=2097156):=by have h1:=HRL.out;have h2:=HNL.out;show _<=_;rw[List.length_append,List.length_map,List.length_take];omega
      clear hown hnames hB;go_wp2_with fail
      refine(jl fa fcap s.fs names[j] wr (HF.out.mono HX.out.2.2)).mono ?_;rintro e w3⟨rfl,hb3⟩;have HB3:=hid hb3;have HX3:=zc6 (yF HX.out.1 hb3) (yF HX.out.2.1 hb3) (HX.out.2.2.trans (hb3.mono HX.out.2.2.size));clear hb3 hcell hcsr
      go_wp2_with (at_builtin;refine wpList_append_own _ rfl (.tmp 28) (.tmp 33) 35 rfl w.heap.size 3 i0 (.int .i64 0) 1 8 Tryz.underlying35 hi hz0 hz1' hz2 rfl (by decide) _ _ _ rfl (HX3.out.1.alloc _) ⟨w3.heap.size,0,none⟩ 1 1 [.int .i64 (zR s.fs names[j])] rfl rfl (zci _ _ _) (by intro u hu;simp at hu;subst hu;rfl) (by have:=HLL.out;unfold maxLen;omega) (by have:=HLL.out;omega) (by have:=HX3.out.2.2.size;simp;omega) ?_;intro v' w4 hown' hgr _)
      have hgb:∀g',v1.ownBlock=some g'->w.heap.size<=g':=fun g' hg'=>(HX3.out.1.lt g' hg').1
      have hap:=zoY HX3.out.1 HX3.out.2.1 (by decide);refine⟨⟨j+1,_,rfl,by omega,by rw[wrap_one (by have:=HNL.out;omega)],?_,?_,zaQ HX3.out.2.2 HX3.out.2.2.size hgr hgb⟩,jq hjl (by have:=HNL.out;omega)⟩
      ·rw[HTK.out,<- List.append_assoc,List.length_append]
       have e1:ints ((yC s (ms.take k) p++(names.take j).map (zR s.fs))++[zR s.fs names[j]])=ints (yC s (ms.take k) p++(names.take j).map (zR s.fs))++[.int .i64 (zR s.fs names[j])]:=by simp[ints]
       rw[e1];exact hown'
      ·refine qW HX3.out.2.1 (fun g' hg'=>?_)
       rw[zaM hgr (by have:=(HX3.out.2.1.lt g' hg').2;simp;omega) (fun q hq=>fun e=>hap q hq g' hg' e.symm),Below.heap_alloc _ _ _ (HX3.out.2.1.lt g' hg').2]
     ·have e:j=names.length:=by omega
      subst e;rw[tOl (Nat.le_refl _),<- HS.out]at hown;have HX:=jC hown hB;clear hown hnames hB;go_wp2_with fail
      exact⟨⟨k+1,_,rfl,by omega,by go_num,HX.out.1,HX.out.2⟩,zm hlt⟩
   ·have htf:turns ms[k] s p=false:=by simpa using htt
    have HS:Hid (yC s (ms.take (k+1)) p=yC s (ms.take k) p):=by unfold Hid;rw[zh4 s ms p k hlt,if_neg htt];simp
    rw[htf]at ht;refine ht.mono ?_;rintro e w1⟨rfl,hb1⟩;have HB1:=hid (hba.trans (hb1.mono hba.size));clear ht hba hb1;go_wp2_with fail
    exact⟨⟨k+1,_,rfl,by omega,by go_num,by rw[HS.out];exact yF HW.out HB1.out,HB.out.trans (HB1.out.mono HB.out.size)⟩,zm hlt⟩
  ·have e:k=ms.length:=by omega
   subst e;rw[tOl (Nat.le_refl _)]at hown;have HW:=jC hown hB;clear hown hB;go_wp2_with fail
   go_ret;exact⟨v,rfl,HW.out⟩
theorem zp7 {fs:List Fld}{k:Nat}(h:k<fs.length)(hh:hasName (fs.take k) fs[k].nm=true):(zR fs fs[k].nm != (k:Int))=true:=by
 obtain⟨j,hj,e⟩:=zkt fs _ k h hh;rw[e,bne_iff_ne];omega
theorem zqb {fs:List Fld}{k:Nat}(h:k<fs.length)(hh:hasName (fs.take k) fs[k].nm=false):(zR fs fs[k].nm != (k:Int))=false:=by
 rw[zer fs _ k h hh rfl];simp
theorem zcG (r:Nat)(a0:Option Addr)(cap0:Nat)(ss:List Shp)(a:Option Addr)(cap:Nat)(fs:List Fld)(w:World)(hr:w.heap[r]?=some (.map yQ 4))(hss:yU w a0 ss)(hw:zY w a fs) :
 Calls Tryz.prog 178 #[.map (some r),.slice a0 ss.length cap0,.slice a fs.length cap] w fun e w'=>e=.returned (.bool (yZ ss fs))/\Below w.heap.size w w':=by
 have hl:=hw.len;unfold maxLen at hl;have hrlt:=(gES hr).1
 by_cases h6:fs.length<=6
 rotate_left
 ·have HF:Hid (yZ ss fs=false):=by simp[Hid,yZ,h6]
  clear hw hr hss;go_enter Tryz.func178,Tryz.ntmps178
  go_wp2
  go_ret;exact⟨ze HF.out.symm,bRf _ _⟩
 have HG:Hid (yZ ss fs=up (ze4 ss fs) fs.length):=by simp[Hid,yZ,h6]
 have h6I:(fs.length:Int)<=6:=by omega
 go_enter Tryz.func178,Tryz.ntmps178
 go_wp2
 go_loopw [14] (fun i wr=>∃k:Nat,k<=fs.length/\i=.int .i64 k/\up (ze4 ss fs) k=true/\Below w.heap.size w wr) (fun i _=>fs.length-(intOf i).toNat)
 case atStart=>exact⟨0,Nat.zero_le _,rfl,rfl,bRf _ _⟩
 case round=>
  obtain⟨k,hk,rfl,hup,hB⟩:=hrel;have hsz:=hB.size
  by_cases hlt:k<fs.length
  ·obtain⟨b,off,rfl,hb,hrw⟩:=hw.rows (by rintro rfl;simp at hlt)
   obtain⟨wa,wcap,hf⟩:=hrw k hlt;obtain⟨c0,c1,c2,c3,c4,c5,c6,c7,c8,c9,c10⟩:=(hf.mono hb hB).load;have hsm:=hf.small;have hst:=hf.strs.mono hB;have hfa:=hw.mono hB;have hsa:=hss.mono hB;have hra:=(hB.block r hrlt).trans hr;have HO:=hid (zgK ss fs k hlt);have HS:Hid (ze4 ss fs k=true->up (ze4 ss fs) (k+1)=true):=fun h=>by rw[q9,hup,h];rfl
   have HN:Hid (ze4 ss fs k=false->yZ ss fs=false):=fun h=>by rw[HG.out];exact zaP hlt h
   clear hw hrw hf hup hss hr
   by_cases hn:zB fs[k].nm=true
   rotate_left
   ·have HNm:Hid (zB fs[k].nm=false):=by simpa[Hid] using hn
    clear hn;go_wp2_with fail
    refine(zf HNm.out (zF _ _ hsm.nm)).mono ?_;rintro e w1⟨rfl,rfl⟩;go_wp2_with fail
    go_ret;exact⟨ze (HN.out (by rw[HO.out,HNm.out];rfl)).symm,hB.alloc hsz _⟩
   have HNm:=hid hn;clear hn
   by_cases hh:hasName (fs.take k) fs[k].nm=true
   ·have HH:=hid hh
    have hpl:=zp7 hlt hh;clear hh;go_wp2_with fail
    refine(zf HNm.out (zF _ _ hsm.nm)).mono ?_;rintro e w1⟨rfl,rfl⟩;go_wp2_with fail
    refine(jl _ _ _ _ _ (hfa.mono (bAl _ _))).mono ?_;rintro e w2⟨rfl,hb2⟩;have hB2:Below w.heap.size w w2:=(hB.alloc hsz _).trans (hb2.mono (by simp;omega));clear hb2;go_wp2_with fail
    go_ret;exact⟨ze (HN.out (by rw[HO.out,HNm.out,HH.out];rfl)).symm,hB2⟩
   ·have HH:Hid (hasName (fs.take k) fs[k].nm=false):=by simpa[Hid] using hh
    have hpl:=zqb hlt HH.out;clear hh
    by_cases hok:yI ss fs[k]=true
    all_goals
     first
      | (have HK:Hid (yI ss fs[k]=true):=hok)
      | (have HK:Hid (yI ss fs[k]=false):=by simpa[Hid] using hok)
     clear hok;go_wp2_with fail
     refine(zf HNm.out (zF _ _ hsm.nm)).mono ?_;rintro e w1⟨rfl,rfl⟩;go_wp2_with fail
     refine(jl _ _ _ _ _ (hfa.mono (bAl _ _))).mono ?_;rintro e w2⟨rfl,hb2⟩;have hX2:=za (zl wr _ _) (by simp) hb2;have hz2:wr.heap.size<w2.heap.size:=by have:=hb2.size;simp at this;omega
     have hbr2:Below wr.heap.size wr w2:=(bAl _ _).trans (hb2.mono (by simp));have hB2:=hB.trans (hbr2.mono hsz);have hra2:w2.heap[r]?=some (.map yQ 4):=(hbr2.block r (by omega)).trans hra;clear hb2;go_wp2_with fail
     refine(zf HK.out (znN _ _ _ _ _ _ _ _ _ _ _ _ _ _ _ _ _ _ hra2 hsm.df hsm.wg (hst.mono hbr2) (hsa.mono hbr2))).mono ?_;rintro e w3⟨rfl,hb3⟩;have hB3:Below w.heap.size w w3:=hB2.trans (hb3.mono (by omega));clear hb3 hX2;go_wp2_with fail
    ·exact⟨⟨k+1,by omega,by go_num,HS.out (by rw[HO.out,HNm.out,HH.out,HK.out];rfl),hB3⟩,by simp[intOf];omega⟩
    ·go_ret
     exact⟨ze (HN.out (by rw[HO.out,HNm.out,HH.out,HK.out];rfl)).symm,hB3⟩
  ·have HF:Hid (yZ ss fs=true):=by
    have e:k=fs.length:=by omega
    subst e;rw[HG.out];exact hup
   clear hup hw
   go_wp2
   go_ret;exact⟨ze HF.out.symm,hB⟩
theorem ziN (a0:Option Addr)(cap0:Nat)(ss:List Shp)(nm:ByteArray)(kd ls ms:Int)(a:Option Addr)(cap:Nat)(ws:List ByteArray)(to:ByteArray)(rl:Int)(mu fx:Bool)(df wg:ByteArray)(w:World)(hnm:nm.size<=maxLen)(hdf:df.size<=maxLen)(hws:zD w a ws)(h1:kd≠1)(h2:kd≠2)(h3:kd≠3)(h4:kd≠4) :
 Calls Tryz.prog 170 #[.slice a0 ss.length cap0,.agg #[.string nm,.int .i64 kd,.int .i64 ls,.int .i64 ms,.slice a ws.length cap,.string to,.int .i64 rl,.bool mu,.bool fx,.string df,.string wg]] w
  fun e w'=>e=.returned (.bool (zB nm&&yI ss ⟨nm,kd,ls,ms,ws,to,rl,mu,fx,df,wg⟩))/\Below w.heap.size w w':=by
 have HO:Hid ((zB nm&&yI ss ⟨nm,kd,ls,ms,ws,to,rl,mu,fx,df,wg⟩)=false):=by simp[Hid,yI,bare,yO,h1,h2,h3,h4]
 generalize (zB nm&&yI ss ⟨nm,kd,ls,ms,ws,to,rl,mu,fx,df,wg⟩)=res at HO
 have HFit:Hid (fits kd ls ms ws df=false):=zf2 kd ls ms ws df h1 h2 h3 h4;have HH:Hid (kd≠1/\kd≠2/\kd≠3/\kd≠4):=⟨h1,h2,h3,h4⟩
 have e1:(kd == 1)=false:=by simpa using h1
 have e2:(kd == 2)=false:=by simpa using h2
 have e3:(kd == 3)=false:=by simpa using h3
 have e4:(kd == 4)=false:=by simpa using h4
 clear h1 h2 h3 h4
 by_cases hn:zB nm=true
 rotate_left
 ·have HNm:Hid (zB nm=false):=by simpa[Hid] using hn
  clear hn;go_enter Tryz.func170,Tryz.ntmps170;go_wp2_with fail
  refine(zf HNm.out (zi _ _ hnm)).mono ?_;rintro e w1⟨rfl,rfl⟩;go_wp2_with fail
  go_ret;exact⟨ze HO.out.symm,bAl _ _⟩
 have HNm:Hid (zB nm=true):=hn;clear hn
 by_cases hd:df.toList.isEmpty=true
 all_goals
  first
   | (have hd1:df.toList.isEmpty=true:=hd)
   | (have hd1:df.toList.isEmpty=false:=by simpa using hd)
  clear hd;go_enter Tryz.func170,Tryz.ntmps170;go_wp2_with fail
  refine(zf HNm.out (zi _ _ hnm)).mono ?_;rintro e w1⟨rfl,rfl⟩;go_wp2_with fail
  refine(zjG _ _ _ _ _ _ _ _ _ _ _ _ _ _ HH.out.1 HH.out.2.1 HH.out.2.2.1 HH.out.2.2.2).mono ?_;rintro e w2⟨bb,rfl,hb2⟩;have hX2:=za (zl w _ _) (by simp) hb2;have hz2:w.heap.size<w2.heap.size:=by have:=hb2.size;simp at this;omega
  have hB2:Below w.heap.size w w2:=(bAl _ _).trans (hb2.mono (by simp));clear hb2
  cases bb
  ·go_wp2_with fail
   go_ret;exact⟨ze HO.out.symm,hB2⟩
 ·go_wp2_with fail
  go_ret;exact⟨ze HO.out.symm,hB2⟩
 ·go_wp2_with fail
  refine(zf HFit.out (yS _ _ _ _ _ _ _ _ _ _ _ _ _ _ _ hdf (hws.mono hB2))).mono ?_;rintro e w3⟨rfl,hb3⟩;have hB3:Below w.heap.size w w3:=hB2.trans (hb3.mono (by omega));go_wp2_with fail
  go_ret;exact⟨ze HO.out.symm,hB3⟩
theorem zfH (a0:Option Addr)(cap0:Nat)(ss:List Shp)(nm:ByteArray)(kd ls ms:Int)(a:Option Addr)(cap:Nat)(ws:List ByteArray)(to:ByteArray)(rl:Int)(mu fx:Bool)(df wg:ByteArray)(w:World)(hnm:nm.size<=maxLen)(hdf:df.size<=maxLen)(hwg:wg.size<=maxLen)(hws:zD w a ws)(hss:yU w a0 ss) :
 Calls Tryz.prog 170 #[.slice a0 ss.length cap0,.agg #[.string nm,.int .i64 kd,.int .i64 ls,.int .i64 ms,.slice a ws.length cap,.string to,.int .i64 rl,.bool mu,.bool fx,.string df,.string wg]] w
  fun e w'=>e=.returned (.bool (zB nm&&yI ss ⟨nm,kd,ls,ms,ws,to,rl,mu,fx,df,wg⟩))/\Below w.heap.size w w':=by
 by_cases h1:kd=1
 ·subst h1;exact znJ a0 cap0 ss nm ls ms a cap ws to rl mu fx df wg w hnm hdf hwg hws
 by_cases h2:kd=2
 ·subst h2;exact zng a0 cap0 ss nm ls ms a cap ws to rl mu fx df wg w hnm hdf hws
 by_cases h3:kd=3
 ·subst h3;exact zno a0 cap0 ss nm ls ms a cap ws to rl mu fx df wg w hnm hdf hws
 by_cases h4:kd=4
 ·subst h4;exact zny a0 cap0 ss nm ls ms a cap ws to rl mu fx df wg w hnm hdf hws hss
 exact ziN a0 cap0 ss nm kd ls ms a cap ws to rl mu fx df wg w hnm hdf hws h1 h2 h3 h4
theorem zlq (W:World)(k1 k2:Int):Calls Tryz.prog 194 #[.slice (some ⟨W.heap.size,0,none⟩) 2 2] (W.alloc (.cells #[.int .i64 k1,.int .i64 k2] 3)).drew fun e w'=>e=.returned (.int .i64 (zc7 [k1,k2]))/\w'=(W.alloc (.cells #[.int .i64 k1,.int .i64 k2] 3)).drew:=
 zlg (some ⟨W.heap.size,0,none⟩) 2 [k1,k2] _ ((zhF (alloc_at _ _) (by simp[maxLen])).mono (bRf _ _).drew) (by simp)
theorem zm4 (W:World)(k1 k2 k3:Int):Calls Tryz.prog 194 #[.slice (some ⟨W.heap.size,0,none⟩) 3 3] (W.alloc (.cells #[.int .i64 k1,.int .i64 k2,.int .i64 k3] 3)).drew fun e w'=>e=.returned (.int .i64 (zc7 [k1,k2,k3]))/\w'=(W.alloc (.cells #[.int .i64 k1,.int .i64 k2,.int .i64 k3] 3)).drew:=
 zlg (some ⟨W.heap.size,0,none⟩) 3 [k1,k2,k3] _ ((zhF (alloc_at _ _) (by simp[maxLen])).mono (bRf _ _).drew) (by simp)
theorem ziL (o p:Ob)(a0 a1 b0 b1:Option Addr)(c0 c1 d0 d1:Nat)(w:World) :
 Calls Tryz.prog 154 #[.agg (o.row a0 a1 c0 c1),.agg (p.row b0 b1 d0 d1)] w fun e w'=>e=.returned (.int .i64 (zbD o p))/\Below w.heap.size w w':=by
 have HR:Hid (zc7 [key o.kd p.kd,key o.nm p.nm]=zbD o p):=by unfold Hid;rw[zle];rfl
 unfold Ob.row;go_enter Tryz.func154,Tryz.ntmps154;go_wp2_with fail
 obtain⟨hX0,hY0⟩:=qx w #[.string o.kd,.string o.nm,.string o.tm,.slice a0 o.vs.length c0,.bool o.en,.slice a1 o.hs.length c1,.int .i64 o.vr] #[.string p.kd,.string p.nm,.string p.tm,.slice b0 p.vs.length d0,.bool p.en,.slice b1 p.hs.length d1,.int .i64 p.vr] 123 123;have HB0:Hid (Below w.heap.size w ((w.alloc (.cells #[.string o.kd,.string o.nm,.string o.tm,.slice a0 o.vs.length c0,.bool o.en,.slice a1 o.hs.length c1,.int .i64 o.vr] 123)).alloc (.cells #[.string p.kd,.string p.nm,.string p.tm,.slice b0 p.vs.length d0,.bool p.en,.slice b1 p.hs.length d1,.int .i64 p.vr] 123))):=zw w _ _;obtain⟨W0,hW0⟩:∃W0,W0=(w.alloc (.cells #[.string o.kd,.string o.nm,.string o.tm,.slice a0 o.vs.length c0,.bool o.en,.slice a1 o.hs.length c1,.int .i64 o.vr] 123)).alloc (.cells #[.string p.kd,.string p.nm,.string p.tm,.slice b0 p.vs.length d0,.bool p.en,.slice b1 p.hs.length d1,.int .i64 p.vr] 123):=⟨_,rfl⟩
 have hz0:w.heap.size+1<W0.heap.size:=by rw[hW0];simp
 rw[<- hW0]at HB0 hX0 hY0 ⊢;clear hW0;have hS:(∀j,W0.drew.cell? ⟨w.heap.size,j,none⟩=(#[.string o.kd,.string o.nm,.string o.tm,.slice a0 o.vs.length c0,.bool o.en,.slice a1 o.hs.length c1,.int .i64 o.vr]:Array Value)[j]?)/\(∀j,W0.drew.cell? ⟨w.heap.size+1,j,none⟩=(#[.string p.kd,.string p.nm,.string p.tm,.slice b0 p.vs.length d0,.bool p.en,.slice b1 p.hs.length d1,.int .i64 p.vr]:Array Value)[j]?):=⟨hX0,hY0⟩
 have hSa:∀ob,(∀j,(W0.alloc ob).drew.cell? ⟨w.heap.size,j,none⟩=(#[.string o.kd,.string o.nm,.string o.tm,.slice a0 o.vs.length c0,.bool o.en,.slice a1 o.hs.length c1,.int .i64 o.vr]:Array Value)[j]?)/\(∀j,(W0.alloc ob).drew.cell? ⟨w.heap.size+1,j,none⟩=(#[.string p.kd,.string p.nm,.string p.tm,.slice b0 p.vs.length d0,.bool p.en,.slice b1 p.hs.length d1,.int .i64 p.vr]:Array Value)[j]?):=fun ob=>⟨za (b:=w.heap.size) (wk:=W0) hX0 (nSl hz0) ((bAl _ _).drew),za (b:=w.heap.size+1) (wk:=W0) hY0 hz0 ((bAl _ _).drew)⟩
 clear hX0 hY0
 go_region_held3 (fun w'=>(∀j,w'.cell? ⟨w.heap.size,j,none⟩=(#[.string o.kd,.string o.nm,.string o.tm,.slice a0 o.vs.length c0,.bool o.en,.slice a1 o.hs.length c1,.int .i64 o.vr]:Array Value)[j]?)/\(∀j,w'.cell? ⟨w.heap.size+1,j,none⟩=(#[.string p.kd,.string p.nm,.string p.tm,.slice b0 p.vs.length d0,.bool p.en,.slice b1 p.hs.length d1,.int .i64 p.vr]:Array Value)[j]?)) (first|exact hS|exact hSa _) (first
  | (go_at_call 195;refine(zeP _ _ _).mono ?_;rintro e w3⟨rfl,rfl⟩)
  | (go_at_call 194;refine(zlq _ _ _).mono ?_;rintro e w3⟨rfl,rfl⟩))
 go_wp2_with fail
 go_ret;exact⟨zo HR.out,(HB0.out.alloc HB0.out.size _).drew⟩
theorem zcr (o p:Lg)(w:World) :
 Calls Tryz.prog 161 #[.agg o.cells,.agg p.cells] w fun e w'=>e=.returned (.int .i64 (qP o p))/\Below w.heap.size w w':=by
 have HR:Hid (zc7 [key o.tm p.tm,key o.rs p.rs]=qP o p):=by unfold Hid;rw[zle];rfl
 unfold Lg.cells;go_enter Tryz.func161,Tryz.ntmps161;go_wp2_with fail
 obtain⟨hX0,hY0⟩:=qx w #[.string o.tm,.string o.rs,.int .i64 o.mo,.int .i64 o.fr] #[.string p.tm,.string p.rs,.int .i64 p.mo,.int .i64 p.fr] 142 142;have HB0:Hid (Below w.heap.size w ((w.alloc (.cells #[.string o.tm,.string o.rs,.int .i64 o.mo,.int .i64 o.fr] 142)).alloc (.cells #[.string p.tm,.string p.rs,.int .i64 p.mo,.int .i64 p.fr] 142))):=zw w _ _;obtain⟨W0,hW0⟩:∃W0,W0=(w.alloc (.cells #[.string o.tm,.string o.rs,.int .i64 o.mo,.int .i64 o.fr] 142)).alloc (.cells #[.string p.tm,.string p.rs,.int .i64 p.mo,.int .i64 p.fr] 142):=⟨_,rfl⟩
 have hz0:w.heap.size+1<W0.heap.size:=by rw[hW0];simp
 rw[<- hW0]at HB0 hX0 hY0 ⊢;clear hW0;have hS:(∀j,W0.drew.cell? ⟨w.heap.size,j,none⟩=(#[.string o.tm,.string o.rs,.int .i64 o.mo,.int .i64 o.fr]:Array Value)[j]?)/\(∀j,W0.drew.cell? ⟨w.heap.size+1,j,none⟩=(#[.string p.tm,.string p.rs,.int .i64 p.mo,.int .i64 p.fr]:Array Value)[j]?):=⟨hX0,hY0⟩
 have hSa:∀ob,(∀j,(W0.alloc ob).drew.cell? ⟨w.heap.size,j,none⟩=(#[.string o.tm,.string o.rs,.int .i64 o.mo,.int .i64 o.fr]:Array Value)[j]?)/\(∀j,(W0.alloc ob).drew.cell? ⟨w.heap.size+1,j,none⟩=(#[.string p.tm,.string p.rs,.int .i64 p.mo,.int .i64 p.fr]:Array Value)[j]?):=fun ob=>⟨za (b:=w.heap.size) (wk:=W0) hX0 (nSl hz0) ((bAl _ _).drew),za (b:=w.heap.size+1) (wk:=W0) hY0 hz0 ((bAl _ _).drew)⟩
 clear hX0 hY0
 go_region_held3 (fun w'=>(∀j,w'.cell? ⟨w.heap.size,j,none⟩=(#[.string o.tm,.string o.rs,.int .i64 o.mo,.int .i64 o.fr]:Array Value)[j]?)/\(∀j,w'.cell? ⟨w.heap.size+1,j,none⟩=(#[.string p.tm,.string p.rs,.int .i64 p.mo,.int .i64 p.fr]:Array Value)[j]?)) (first|exact hS|exact hSa _) (first
  | (go_at_call 195;refine(zeP _ _ _).mono ?_;rintro e w3⟨rfl,rfl⟩)
  | (go_at_call 194;refine(zlq _ _ _).mono ?_;rintro e w3⟨rfl,rfl⟩))
 go_wp2_with fail
 go_ret;exact⟨zo HR.out,(HB0.out.alloc HB0.out.size _).drew⟩
theorem zjj (o p:Pu)(w:World) :
 Calls Tryz.prog 164 #[.agg o.cells,.agg p.cells] w fun e w'=>e=.returned (.int .i64 (zaB o p))/\Below w.heap.size w w':=by
 have HR:Hid (zc7 [key o.dr p.dr,key o.tm p.tm,key o.rs p.rs]=zaB o p):=by unfold Hid;rw[zmN];rfl
 unfold Pu.cells;go_enter Tryz.func164,Tryz.ntmps164;go_wp2_with fail
 obtain⟨hX0,hY0⟩:=qx w #[.string o.dr,.string o.tm,.string o.rs,.int .i64 o.am,.int .i64 o.un] #[.string p.dr,.string p.tm,.string p.rs,.int .i64 p.am,.int .i64 p.un] 144 144;have HB0:Hid (Below w.heap.size w ((w.alloc (.cells #[.string o.dr,.string o.tm,.string o.rs,.int .i64 o.am,.int .i64 o.un] 144)).alloc (.cells #[.string p.dr,.string p.tm,.string p.rs,.int .i64 p.am,.int .i64 p.un] 144))):=zw w _ _;obtain⟨W0,hW0⟩:∃W0,W0=(w.alloc (.cells #[.string o.dr,.string o.tm,.string o.rs,.int .i64 o.am,.int .i64 o.un] 144)).alloc (.cells #[.string p.dr,.string p.tm,.string p.rs,.int .i64 p.am,.int .i64 p.un] 144):=⟨_,rfl⟩
 have hz0:w.heap.size+1<W0.heap.size:=by rw[hW0];simp
 rw[<- hW0]at HB0 hX0 hY0 ⊢;clear hW0;have hS:(∀j,W0.drew.cell? ⟨w.heap.size,j,none⟩=(#[.string o.dr,.string o.tm,.string o.rs,.int .i64 o.am,.int .i64 o.un]:Array Value)[j]?)/\(∀j,W0.drew.cell? ⟨w.heap.size+1,j,none⟩=(#[.string p.dr,.string p.tm,.string p.rs,.int .i64 p.am,.int .i64 p.un]:Array Value)[j]?):=⟨hX0,hY0⟩
 have hSa:∀ob,(∀j,(W0.alloc ob).drew.cell? ⟨w.heap.size,j,none⟩=(#[.string o.dr,.string o.tm,.string o.rs,.int .i64 o.am,.int .i64 o.un]:Array Value)[j]?)/\(∀j,(W0.alloc ob).drew.cell? ⟨w.heap.size+1,j,none⟩=(#[.string p.dr,.string p.tm,.string p.rs,.int .i64 p.am,.int .i64 p.un]:Array Value)[j]?):=fun ob=>⟨za (b:=w.heap.size) (wk:=W0) hX0 (nSl hz0) ((bAl _ _).drew),za (b:=w.heap.size+1) (wk:=W0) hY0 hz0 ((bAl _ _).drew)⟩
 clear hX0 hY0
 go_region_held3 (fun w'=>(∀j,w'.cell? ⟨w.heap.size,j,none⟩=(#[.string o.dr,.string o.tm,.string o.rs,.int .i64 o.am,.int .i64 o.un]:Array Value)[j]?)/\(∀j,w'.cell? ⟨w.heap.size+1,j,none⟩=(#[.string p.dr,.string p.tm,.string p.rs,.int .i64 p.am,.int .i64 p.un]:Array Value)[j]?)) (first|exact hS|exact hSa _) (first
  | (go_at_call 195;refine(zeP _ _ _).mono ?_;rintro e w3⟨rfl,rfl⟩)
  | (go_at_call 194;refine(zm4 _ _ _ _).mono ?_;rintro e w3⟨rfl,rfl⟩))
 go_wp2_with fail
 go_ret;exact⟨zo HR.out,(HB0.out.alloc HB0.out.size _).drew⟩
def zrb:Ob:=⟨ByteArray.empty,ByteArray.empty,ByteArray.empty,[],false,[],0⟩
def zbJ (l:Lw)(team res:ByteArray)(o:Ob):Int:=if under l.ts 4 o.tm team=true then qV l.ss o res else 0
def zaJ (l:Lw)(os:List Ob)(team res:ByteArray):Nat->Int
 | 0=>0
 | k+1=>zaJ l os team res k+zbJ l team res (os.getD k zrb)
def used (l:Lw)(os:List Ob)(team res:ByteArray):Int:=zaJ l os team res os.length
theorem zpV (ss:List Shp)(o:Ob)(res:ByteArray):0<=qV ss o res/\qV ss o res<=1+o.sz*10000000:=by
 have h0:o.vs.length<=o.sz:=by unfold Ob.sz zdN qX;omega
 unfold qV
 split
 ·rename_i hc
  have hc1:=hc.1;unfold zy at hc1;simp only[Bool.and_eq_true,decide_eq_true_eq]at hc1
  have:=zcM (shapeOf ss o.kd).fs o.vs res (shapeOf ss o.kd).fs.length
  have h3:=hc1.2
  split <;> omega
 ·omega
theorem zll (l:Lw)(team res:ByteArray)(o:Ob):0<=zbJ l team res o/\zbJ l team res o<=1+o.sz*10000000:=by
 unfold zbJ
 split
 ·exact zpV _ _ _
 ·omega
theorem zf9 (l:Lw)(os:List Ob)(team res:ByteArray)(k:Nat)(h:k<os.length):zaJ l os team res (k+1)=zaJ l os team res k+zbJ l team res os[k]:=by
 have e1:os.getD k zrb=os[k]:=by simp[List.getD,h]
 simp only[zaJ];rw[e1]
theorem zcd (l:Lw)(os:List Ob)(team res:ByteArray):∀k,k<=os.length->0<=zaJ l os team res k/\zaJ l os team res k<=k+zbe (os.take k)*10000000
 | 0,_=>by simp[zaJ,zbe]
 | k+1,h=>by
  have h1:=zcd l os team res k (by omega);have h2:=zll l team res os[k];have h3:zbe (os.take (k+1))=zbe (os.take k)+os[k].sz:=zbd Ob.sz os k h;rw[zf9 l os team res k h,h3];omega
theorem zlW (l:Lw)(la lb lc:Option Addr)(lca lcb lcc:Nat)(b:Bk)(a0 a1 a2 a3:Option Addr)(c0 c1 c2 c3:Nat)(team res:ByteArray)(w:World)(hl:jh w l la lb lc)(hb:jk w b a0 a1 a2 a3)(hz:qG b.os<=1048576) :
 Calls Tryz.prog 202 #[.agg (l.cells la lb lc lca lcb lcc),.agg (b.cells a0 a1 a2 a3 c0 c1 c2 c3),.string team,.string res] w fun e w'=>e=.returned (.int .i64 (used l b.os team res))/\Below w.heap.size w w':=by
 have HL:Hid (jh w l la lb lc):=hl;have HK:Hid (jk w b a0 a1 a2 a3):=hb;have HZ:Hid (qG b.os<=1048576/\b.os.length<=1048576):=⟨hz,by unfold qG at hz;omega⟩
 clear hl hb hz;unfold Lw.cells Bk.cells;go_enter Tryz.func202,Tryz.ntmps202;go_wp2_with fail
 obtain⟨hX0,hY0⟩:=qx w #[.slice la l.ss.length lca,.slice lb l.ms.length lcb,.slice lc l.ts.length lcc] #[.int .i64 b.now,.int .i64 b.tick,.int .i64 b.given,.slice a0 b.os.length c0,.slice a1 b.gs.length c1,.slice a2 b.ls.length c2,.slice a3 b.ps.length c3] 41 48;have HB0:Hid (Below w.heap.size w ((w.alloc (.cells #[.slice la l.ss.length lca,.slice lb l.ms.length lcb,.slice lc l.ts.length lcc] 41)).alloc (.cells #[.int .i64 b.now,.int .i64 b.tick,.int .i64 b.given,.slice a0 b.os.length c0,.slice a1 b.gs.length c1,.slice a2 b.ls.length c2,.slice a3 b.ps.length c3] 48))):=zw w _ _;obtain⟨W0,hW0⟩:∃W0,W0=(w.alloc (.cells #[.slice la l.ss.length lca,.slice lb l.ms.length lcb,.slice lc l.ts.length lcc] 41)).alloc (.cells #[.int .i64 b.now,.int .i64 b.tick,.int .i64 b.given,.slice a0 b.os.length c0,.slice a1 b.gs.length c1,.slice a2 b.ls.length c2,.slice a3 b.ps.length c3] 48):=⟨_,rfl⟩
 have hz0:w.heap.size+1<W0.heap.size:=by rw[hW0];simp
 rw[<- hW0]at HB0 hX0 hY0 ⊢;clear hW0
 go_loopw [9,15] (fun nv iv wr=>∃(k:Nat) (s:Int),k<=b.os.length/\iv=.int .i64 k/\nv=.int .i64 s/\Hid (s=zaJ l b.os team res k/\Below W0.heap.size W0 wr)) (fun _ iv _=>b.os.length-(intOf iv).toNat)
 case atStart=>exact⟨0,0,Nat.zero_le _,rfl,rfl,by simp[zaJ],bRf _ _⟩
 case round=>
  obtain⟨k,s,hk,rfl,rfl,HQ⟩:=hrel
  have hsb:0<=s/\s<=20000000000000:=by
   have h1:=HQ.out.1;have h2:=zcd l b.os team res k hk;have h3:=HZ.out;have h4:zbe (b.os.take k)<=zbe b.os:=zcY Ob.sz b.os k;unfold qG at h3;omega
  have hkn:k<=1048576:=by have:=HZ.out.2;omega
  by_cases hlt:k<b.os.length
  ·obtain⟨ob,off,v0,v1,q0,q1,rfl,hob,hsm,hl0,hl1,d0,d1,d2,d3,d4,d5,d6⟩:=HK.out.os.load (HB0.out.trans (HQ.out.2.mono HB0.out.size)) k hlt
   have hob':=nLt hob (HB0.out.trans (HQ.out.2.mono HB0.out.size)).size;have hltI:(k:Int)<(b.os.length:Int):=by omega
   have hX:=za hX0 (nSl hz0) HQ.out.2;have hz:=nLt hz0 HQ.out.2.size;have hzX:=nSl hz;have HSt:=hid (zf9 l b.os team res k hlt);have HOo:Hid (jK wr b.os[k] v0 v1):=⟨hsm,hl0,hl1⟩
   have HOl:Hid (b.os[k].vs.length<=1048576):=by
    have h3:=HZ.out.1
    have:=(zmi (left:=1048576) (ms:=b.os) (by omega) (by omega)).2 k hlt
    exact this.1
   have hub:=zll l team res b.os[k];have hwb:=zgE l.ss b.os[k] res HOl.out;clear hsm hl0 hl1 hub;go_wp2_with fail
   have hb1:Below wr.heap.size wr (wr.alloc (.cells #[.string b.os[k].kd,.string b.os[k].nm,.string b.os[k].tm,.slice v0 b.os[k].vs.length q0,.bool b.os[k].en,.slice v1 b.os[k].hs.length q1,.int .i64 b.os[k].vr] 123)):=bAl _ _;have hN:=zl wr #[.string b.os[k].kd,.string b.os[k].nm,.string b.os[k].tm,.slice v0 b.os[k].vs.length q0,.bool b.os[k].en,.slice v1 b.os[k].hs.length q1,.int .i64 b.os[k].vr] 123;obtain⟨w1,hw1⟩:∃w1,w1=wr.alloc (.cells #[.string b.os[k].kd,.string b.os[k].nm,.string b.os[k].tm,.slice v0 b.os[k].vs.length q0,.bool b.os[k].en,.slice v1 b.os[k].hs.length q1,.int .i64 b.os[k].vr] 123):=⟨_,rfl⟩
   have hn1:wr.heap.size<w1.heap.size:=by rw[hw1];simp
   rw[<- hw1]at hb1 hN ⊢;clear hw1 d0 d1 d2 d3 d4 d5 d6;have HB1:=hid (HQ.out.2.trans (hb1.mono HQ.out.2.size));have hX1:=za hX (nSl hz) hb1;have HO1:=hid (HOo.out.mono hb1);have hz1:=Nat.lt_trans hz hn1;clear hb1 hX;refine(zkP _ _ l.ts b.os[k].tm team _ (HL.out.ts.mono (HB0.out.trans (HB1.out.mono HB0.out.size)))).mono ?_;rintro e w2⟨rfl,hb2⟩;have HB2:=hid (HB1.out.trans (hb2.mono HB1.out.size));have hX2:=za hX1 (nSl hz1) hb2;have hN2:=za hN hn1 hb2;have HO2:=hid (HO1.out.mono hb2);have hz2:=nLt hz1 hb2.size;have hn2:=nLt hn1 hb2.size;clear hb2 hX1 hN
   by_cases hu:under l.ts 4 b.os[k].tm team=true
   ·have HU:Hid (zbJ l team res b.os[k]=qV l.ss b.os[k] res):=by unfold Hid zbJ;rw[if_pos hu]
    rw[hu];clear hu;go_wp2_with fail
    refine(zjt l _ _ _ _ _ _ b.os[k] _ _ _ _ res _ (HL.out.mono (HB0.out.trans (HB2.out.mono HB0.out.size))) HO2.out HOl.out).mono ?_;rintro e w3⟨rfl,hb3⟩;have HB3:=hid (HB2.out.trans (hb3.mono HB2.out.size));clear hb3;go_wp2_with fail
    exact⟨⟨k+1,s+qV l.ss b.os[k] res,by omega,by go_num,by go_num,by rw[HSt.out,HU.out,HQ.out.1],HB3.out⟩,zm hlt⟩
   ·have hu':under l.ts 4 b.os[k].tm team=false:=by simpa using hu
    have HU:Hid (zbJ l team res b.os[k]=0):=by unfold Hid zbJ;rw[if_neg hu]
    rw[hu'];clear hu hu';go_wp2_with fail
    exact⟨⟨k+1,s,by omega,by go_num,rfl,by rw[HSt.out,HU.out,HQ.out.1];omega,HB2.out⟩,zm hlt⟩
  ·have e:k=b.os.length:=by omega
   subst e;have HE:Hid (used l b.os team res=s):=by unfold Hid used;rw[HQ.out.1]
   clear hlt hk;go_wp2_with fail
   go_ret;exact⟨zo HE.out.symm,HB0.out.trans (HQ.out.2.mono HB0.out.size)⟩
end Go.Proofs.YtnapmdofidgliaaGreat
