import Derived.Test.YtcgpjfcocmcodaaGreatM19
import Derived.Test.YtcgpjfcocmcodaaGreatM18
import Derived.Test.YtcgpjfcocmcodaaGreatM20
import Derived.Shelf.Lay
import Derived.Shelf.LaySoft
import Derived.Shelf.LaysM
import Derived.Shelf.Small.Strs
set_option maxHeartbeats 4000000
namespace Go.Proofs.YtcgpjfcocmcodaaGreat
open Go.RowKit
def yA (s:Shp)(ms:List Mnd)(p:Nat):List Int:=ms.flatMap fun m=>if turns m s p=true then (zP m).map (zS s.fs) else []
theorem zik (s:Shp)(ms:List Mnd)(p k:Nat)(h:k<ms.length):yA s (ms.take (k+1)) p=yA s (ms.take k) p++if turns ms[k] s p=true then (zP ms[k]).map (zS s.fs) else []:=by
 unfold yA;rw[tSe h,List.flatMap_append]
 simp
theorem zec (m:Mnd):(zP m).length<=2:=List.length_filter_le _ _
theorem zhu (s:Shp)(p:Nat):∀ms:List Mnd,(yA s ms p).length<=ms.length*2
 | []=>Nat.le_refl _
 | m :: ms=>by
  have h1:=zhu s p ms;have h2:=zec m;unfold yA at h1 ⊢;rw[List.flatMap_cons,List.length_append,List.length_cons]
  by_cases h:turns m s p=true
  ·rw[if_pos h,List.length_map];omega
  ·rw[if_neg h,List.length_nil];omega
theorem zoT {w:World}{lo lo':Nat}{e e':TypeId}{v v':Value}{n n':Nat}{xs xs':List Value}(h:w.ownsRow lo e 1 v n xs)(h':w.ownsRow lo' e' 1 v' n' xs')(he:e≠e'):∀g,v.ownBlock=some g->∀g',v'.ownBlock=some g'->g≠g':=by
 intro g hg g' hg' hgg;subst hgg;obtain⟨_,⟨rfl,_⟩|⟨b,cap,cur,rfl,_,hh,_⟩⟩:=h
 ·cases hg
 ·obtain⟨_,⟨rfl,_⟩|⟨b',cap',cur',rfl,_,hh',_⟩⟩:=h'
  ·cases hg'
  ·have e1:b=g:=Option.some.inj hg
   have e2:b'=g:=Option.some.inj hg';rw[e1]at hh;rw[e2,hh]at hh';simp only[Option.some.injEq,Obj.cells.injEq]at hh';exact he hh'.2.1
def ints (l:List Int):List Value:=l.map (Value.int .i64)
set_option maxRecDepth 20000 in
theorem zmM (s:Shp)(ms:List Mnd)(p bm bs:Nat)(ma fa:OA)(mcap fcap:Nat)(w:World)(hm:qL w ma ms)(hf:yg w fa s.fs)(hp:p<s.fs.length)(hl:ms.length<=1048576)
 (hbs:bs<w.heap.size) (hcm:w.cell? (aD bm 0)=some (.l ma ms.length mcap)) (hcs:∀j,w.cell? (aD bs j)=(#[.s s.kd,.l fa s.fs.length fcap]:AV)[j]?) :
 Calls Tryz.prog 206 #[.i p,.pointer (some (aD bm 0)),.pointer (some (aD bs 0))] w fun e w'=>∃v,e=.returned v/\w'.ownsRow w.heap.size 3 1 v (yA s ms p).length (ints (yA s ms p))/\Bw w w':=by
 obtain⟨i0,hi,hz0,hz1',hz2⟩:=info_parts Tryz.zhd;have HM:=hid hm;have HF:=hid hf;clear hm hf;go_enter Tryz.func206,Tryz.ntmps206;go_wp2_with fail
 go_loopw [5,12] (fun v0 iv wr=>∃(k:Nat) (v:Value),v=v0/\k<=ms.length/\iv=.i k/\wr.ownsRow w.heap.size 3 1 v (yA s (ms.take k) p).length (ints (yA s (ms.take k) p))/\Bw w wr) (fun _ iv _=>ms.length-(intOf iv).toNat)
 case atStart=>exact⟨0,_,rfl,Nat.zero_le _,rfl,World.ownsRow_nil _ _ _ _,bRf _ _⟩
 case round=>
  obtain⟨k,v,hv,hk,rfl,hown,hB⟩:=hrel;subst hv
  by_cases hlt:k<ms.length
  ·obtain⟨b,off,rfl,hb,c0,c1,c2,c3,c4,c5⟩:=HM.o.load hB k hlt
   have hltI:(k:Int)<(ms.length:Int):=by omega
   have hbw:=nLt hb hB.size;have hcsr:=za hcs hbs hB;have hbsr:=nLt hbs hB.size;have HW:=hid hown;have HB:=hid hB;clear hown hB;go_wp2_with fail
   have hba:=(bRf wr.heap.size wr).alloc (Nat.le_refl _) (.cells #[.s ms[k].kd,.s ms[k].fd,.s ms[k].wh,.s ms[k].wi,.s ms[k].pt,.s ms[k].fr] 136);have ht:=zlm ms[k] s fa fcap p (wr.alloc (.cells #[.s ms[k].kd,.s ms[k].fd,.s ms[k].wh,.s ms[k].wi,.s ms[k].pt,.s ms[k].fr] 136)) (HF.o.mono (HB.o.trans (hba.mono HB.o.size))) hp
   by_cases htt:turns ms[k] s p=true
   ·have HS:Hid (yA s (ms.take (k+1)) p=yA s (ms.take k) p++(zP ms[k]).map (zS s.fs)):=by unfold Hid;rw[zik s ms p k hlt,if_pos htt]
    rw[htt]at ht;refine ht.mono ?_;rintro e w1⟨rfl,hb1⟩;have hX1:=za (zl wr _ _) (by simp) hb1;have HB1:=hid (hba.trans (hb1.mono hba.size));have hz1:wr.heap.size<w1.heap.size:=by have:=hb1.size;simp at this;omega
    have hcs1:=za hcsr hbsr HB1.o;clear ht hba hb1 c0 c1 c2 c3 c4 c5;go_wp2_with fail
    refine(zfQ ms[k] w1).mono ?_;rintro e w2⟨nv,rfl,hn,hb2⟩;obtain⟨na,ncap,rfl⟩:=qD hn;have HN2:=hid hn;have HB2:=hid (HB1.o.trans (hb2.mono HB1.o.size));have HW2:Hid (w2.ownsRow w.heap.size 3 1 v (yA s (ms.take k) p).length (ints (yA s (ms.take k) p))):=yC HW.o HB2.o;have HNL:Hid ((zP ms[k]).length<=2):=zec _;have HRL:Hid ((yA s (ms.take k) p).length<=2097152):=by have h1:=zhu s p (ms.take k);rw[List.length_take]at h1;show _<=_;omega
    have hcs2:=za hcs1 (Nat.lt_trans hbsr hz1) hb2;clear hn hb2 hX1 hcs1 hcsr
    revert HS HN2 HNL
    generalize zP ms[k]=names
    intro HS HN2 HNL;go_wp2_with fail
    have hszw:=HB2.o.size
    go_loopw [5,24] (fun v0 iv wq=>∃(j:Nat) (v1:Value),v1=v0/\j<=names.length/\iv=.i j/\wq.ownsRow w.heap.size 3 1 v1 ((yA s (ms.take k) p)++(names.take j).map (zS s.fs)).length (ints ((yA s (ms.take k) p)++(names.take j).map (zS s.fs)))/\wq.ownsRow w1.heap.size 9 1 (.l na names.length ncap) names.length (names.map Value.string)/\Bw w wq) (fun _ iv _=>names.length-(intOf iv).toNat)
    case atStart=>exact⟨0,_,rfl,Nat.zero_le _,rfl,by simpa using HW2.o,HN2.o,HB.o.trans (HB2.o.mono HB.o.size)⟩
    case round=>
     obtain⟨j,v1,hv1,hj,rfl,hown,hnames,hB⟩:=hrel;subst hv1
     by_cases hjl:j<names.length
     ·obtain⟨g,rfl,hcell⟩:∃g,na=some (aD g 0)/\wr.cell? (aD g j)=some (.s names[j]):=by
       obtain⟨_,⟨h0,h1⟩|⟨g,cap,cur,h0,h1⟩⟩:=id hnames
       ·rw[h1]at hjl;exact absurd hjl (by omega)
       ·cases h0
        refine⟨g,rfl,?_⟩;rw[hnames.cellAt j (by omega)]
        simp[hjl]
      have hjI:(j:Int)<(names.length:Int):=by omega
      have hcsr:=za hcs hbs hB;have hbsr':=nLt hbs hB.size;have HX:=zbQ hown hnames hB;have HTK:Hid ((names.take (j+1)).map (zS s.fs)=(names.take j).map (zS s.fs)++[zS s.fs names[j]]):=by unfold Hid;rw[tSe hjl,List.map_append];rfl
      have HLL:Hid (((yA s (ms.take k) p)++(names.take j).map (zS s.fs)).length<=2097156):=by have h1:=HRL.o;have h2:=HNL.o;show _<=_;rw[List.length_append,List.length_map,List.length_take];omega
      clear hown hnames hB;go_wp2_with fail
      refine(jk fa fcap s.fs names[j] wr (HF.o.mono HX.o.2.2)).mono ?_;rintro e w3⟨rfl,hb3⟩;have HB3:=hid hb3;have HX3:=zbQ (yC HX.o.1 hb3) (yC HX.o.2.1 hb3) (HX.o.2.2.trans (hb3.mono HX.o.2.2.size));clear hb3 hcell hcsr
      go_wp2_with (at_builtin;refine wpList_append_own _ rfl (.tmp 28) (.tmp 33) 109 rfl w.heap.size 3 i0 (.i 0) 1 8 Tryz.underlying109 hi hz0 hz1' hz2 rfl (by decide) _ _ _ rfl (HX3.o.1.alloc _) (aD w3.heap.size 0) 1 1 [.i (zS s.fs names[j])] rfl rfl (zfo _ _ _) (by intro u hu;simp at hu;subst hu;rfl) (by have:=HLL.o;unfold maxLen;omega) (by have:=HLL.o;omega) (by have:=HX3.o.2.2.size;simp;omega) ?_;intro v' w4 hown' hgr _)
      have hgb:∀g',v1.ownBlock=some g'->w.heap.size<=g':=fun g' hg'=>(HX3.o.1.lt g' hg').1
      have hap:=zoT HX3.o.1 HX3.o.2.1 (by decide);refine⟨⟨j+1,_,rfl,by omega,by rw[wrap_one (by have:=HNL.o;omega)],?_,?_,zdo HX3.o.2.2 HX3.o.2.2.size hgr hgb⟩,yR hjl (by have:=HNL.o;omega)⟩
      ·rw[HTK.o,<- List.append_assoc,List.length_append]
       have e1:ints ((yA s (ms.take k) p++(names.take j).map (zS s.fs))++[zS s.fs names[j]])=ints (yA s (ms.take k) p++(names.take j).map (zS s.fs))++[.i (zS s.fs names[j])]:=by simp[ints]
       rw[e1];exact hown'
      ·refine qG HX3.o.2.1 (fun g' hg'=>?_)
       rw[zaQ hgr (by have:=(HX3.o.2.1.lt g' hg').2;simp;omega) (fun q hq=>fun e=>hap q hq g' hg' e.symm),Below.heap_alloc _ _ _ (HX3.o.2.1.lt g' hg').2]
     ·have e:j=names.length:=by omega
      subst e;rw[tOl (Nat.le_refl _),<- HS.o]at hown;have HX:=ql hown hB;clear hown hnames hB;go_wp2_with fail
      exact⟨⟨k+1,_,rfl,by omega,by go_num,HX.o.1,HX.o.2⟩,zq hlt⟩
   ·have htf:turns ms[k] s p=false:=by simpa using htt
    have HS:Hid (yA s (ms.take (k+1)) p=yA s (ms.take k) p):=by unfold Hid;rw[zik s ms p k hlt,if_neg htt];simp
    rw[htf]at ht;refine ht.mono ?_;rintro e w1⟨rfl,hb1⟩;have HB1:=hid (hba.trans (hb1.mono hba.size));clear ht hba hb1;go_wp2_with fail
    exact⟨⟨k+1,_,rfl,by omega,by go_num,by rw[HS.o];exact yC HW.o HB1.o,HB.o.trans (HB1.o.mono HB.o.size)⟩,zq hlt⟩
  ·have e:k=ms.length:=by omega
   subst e;rw[tOl (Nat.le_refl _)]at hown;have HW:=ql hown hB;clear hown hB;go_wp2_with fail
   go_ret;exact⟨v,rfl,HW.o⟩
theorem zqQ {fs:List Fld}{k:Nat}(h:k<fs.length)(hh:hasName (fs.take k) fs[k].nm=true):(zS fs fs[k].nm != (k:Int))=true:=by
 obtain⟨j,hj,e⟩:=zkQ fs _ k h hh;rw[e,bne_iff_ne];omega
theorem zqZ {fs:List Fld}{k:Nat}(h:k<fs.length)(hh:hasName (fs.take k) fs[k].nm=false):(zS fs fs[k].nm != (k:Int))=false:=by
 rw[zd7 fs _ k h hh rfl];simp
theorem zcA (r:Nat)(a0:OA)(cap0:Nat)(ss:List Shp)(a:OA)(cap:Nat)(fs:List Fld)(w:World)(hr:w.heap[r]?=some (.map yO 4))(hss:yT w a0 ss)(hw:yg w a fs) :
 Calls Tryz.prog 196 #[.map (some r),.l a0 ss.length cap0,.l a fs.length cap] w fun e w'=>e=.returned (.bool (yY ss fs))/\Bw w w':=by
 have hl:=hw.len;unfold maxLen at hl;have hrlt:=(gES hr).1
 by_cases h6:fs.length<=6
 rotate_left
 ·have HF:Hid (yY ss fs=false):=by simp[Hid,yY,h6]
  clear hw hr hss;go_enter Tryz.func196,Tryz.ntmps196
  go_wp2
  go_ret;exact⟨ze HF.o.symm,bRf _ _⟩
 have HG:Hid (yY ss fs=up (zfn ss fs) fs.length):=by simp[Hid,yY,h6]
 have h6I:(fs.length:Int)<=6:=by omega
 go_enter Tryz.func196,Tryz.ntmps196
 go_wp2
 go_loopw [14] (fun i wr=>∃k:Nat,k<=fs.length/\i=.i k/\up (zfn ss fs) k=true/\Bw w wr) (fun i _=>fs.length-(intOf i).toNat)
 case atStart=>exact⟨0,Nat.zero_le _,rfl,rfl,bRf _ _⟩
 case round=>
  obtain⟨k,hk,rfl,hup,hB⟩:=hrel;have hsz:=hB.size
  by_cases hlt:k<fs.length
  ·obtain⟨b,off,rfl,hb,hrw⟩:=hw.rows (by rintro rfl;simp at hlt)
   obtain⟨wa,wcap,hf⟩:=hrw k hlt;obtain⟨c0,c1,c2,c3,c4,c5,c6,c7,c8,c9,c10⟩:=(hf.mono hb hB).load;have hsm:=hf.small;have hst:=hf.strs.mono hB;have hfa:=hw.mono hB;have hsa:=hss.mono hB;have hra:=(hB.block r hrlt).trans hr;have HO:=hid (zjl ss fs k hlt);have HS:Hid (zfn ss fs k=true->up (zfn ss fs) (k+1)=true):=fun h=>by rw[q8,hup,h];rfl
   have HN:Hid (zfn ss fs k=false->yY ss fs=false):=fun h=>by rw[HG.o];exact zaK hlt h
   clear hw hrw hf hup hss hr
   by_cases hn:zx fs[k].nm=true
   rotate_left
   ·have HNm:Hid (zx fs[k].nm=false):=by simpa[Hid] using hn
    clear hn;go_wp2_with fail
    refine(zf HNm.o (zH _ _ hsm.nm)).mono ?_;rintro e w1⟨rfl,rfl⟩;go_wp2_with fail
    go_ret;exact⟨ze (HN.o (by rw[HO.o,HNm.o];rfl)).symm,hB.alloc hsz _⟩
   have HNm:=hid hn;clear hn
   by_cases hh:hasName (fs.take k) fs[k].nm=true
   ·have HH:=hid hh
    have hpl:=zqQ hlt hh;clear hh;go_wp2_with fail
    refine(zf HNm.o (zH _ _ hsm.nm)).mono ?_;rintro e w1⟨rfl,rfl⟩;go_wp2_with fail
    refine(jk _ _ _ _ _ (hfa.mono (bAl _ _))).mono ?_;rintro e w2⟨rfl,hb2⟩;have hB2:Bw w w2:=(hB.alloc hsz _).trans (hb2.mono (by simp;omega));clear hb2;go_wp2_with fail
    go_ret;exact⟨ze (HN.o (by rw[HO.o,HNm.o,HH.o];rfl)).symm,hB2⟩
   ·have HH:Hid (hasName (fs.take k) fs[k].nm=false):=by simpa[Hid] using hh
    have hpl:=zqZ hlt HH.o;clear hh
    by_cases hok:yH ss fs[k]=true
    all_goals
     first
      | (have HK:Hid (yH ss fs[k]=true):=hok)
      | (have HK:Hid (yH ss fs[k]=false):=by simpa[Hid] using hok)
     clear hok;go_wp2_with fail
     refine(zf HNm.o (zH _ _ hsm.nm)).mono ?_;rintro e w1⟨rfl,rfl⟩;go_wp2_with fail
     refine(jk _ _ _ _ _ (hfa.mono (bAl _ _))).mono ?_;rintro e w2⟨rfl,hb2⟩;have hX2:=za (zl wr _ _) (by simp) hb2;have hz2:wr.heap.size<w2.heap.size:=by have:=hb2.size;simp at this;omega
     have hbr2:Bw wr w2:=(bAl _ _).trans (hb2.mono (by simp));have hB2:=hB.trans (hbr2.mono hsz);have hra2:w2.heap[r]?=some (.map yO 4):=(hbr2.block r (by omega)).trans hra;clear hb2;go_wp2_with fail
     refine(zf HK.o (zm5 _ _ _ _ _ _ _ _ _ _ _ _ _ _ _ _ _ _ hra2 hsm.df hsm.wg (hst.mono hbr2) (hsa.mono hbr2))).mono ?_;rintro e w3⟨rfl,hb3⟩;have hB3:Bw w w3:=hB2.trans (hb3.mono (by omega));clear hb3 hX2;go_wp2_with fail
    ·exact⟨⟨k+1,by omega,by go_num,HS.o (by rw[HO.o,HNm.o,HH.o,HK.o];rfl),hB3⟩,by simp[intOf];omega⟩
    ·go_ret
     exact⟨ze (HN.o (by rw[HO.o,HNm.o,HH.o,HK.o];rfl)).symm,hB3⟩
  ·have HF:Hid (yY ss fs=true):=by
    have e:k=fs.length:=by omega
    subst e;rw[HG.o];exact hup
   clear hup hw
   go_wp2
   go_ret;exact⟨ze HF.o.symm,hB⟩
theorem ziT (a0:OA)(cap0:Nat)(ss:List Shp)(nm:BA)(kd ls ms:Int)(a:OA)(cap:Nat)(ws:List BA)(to:BA)(rl:Int)(mu fx:Bool)(df wg:BA)(w:World)(hnm:nm.size<=maxLen)(hdf:df.size<=maxLen)(hws:zG w a ws)(h1:kd≠1)(h2:kd≠2)(h3:kd≠3)(h4:kd≠4) :
 Calls Tryz.prog 190 #[.l a0 ss.length cap0,.agg #[.s nm,.i kd,.i ls,.i ms,.l a ws.length cap,.s to,.i rl,.bool mu,.bool fx,.s df,.s wg]] w
  fun e w'=>e=.returned (.bool (zx nm&&yH ss ⟨nm,kd,ls,ms,ws,to,rl,mu,fx,df,wg⟩))/\Bw w w':=by
 have HO:Hid ((zx nm&&yH ss ⟨nm,kd,ls,ms,ws,to,rl,mu,fx,df,wg⟩)=false):=by simp[Hid,yH,bare,yM,h1,h2,h3,h4]
 generalize (zx nm&&yH ss ⟨nm,kd,ls,ms,ws,to,rl,mu,fx,df,wg⟩)=res at HO
 have HFit:Hid (fits kd ls ms ws df=false):=zga kd ls ms ws df h1 h2 h3 h4;have HH:Hid (kd≠1/\kd≠2/\kd≠3/\kd≠4):=⟨h1,h2,h3,h4⟩
 have e1:(kd == 1)=false:=by simpa using h1
 have e2:(kd == 2)=false:=by simpa using h2
 have e3:(kd == 3)=false:=by simpa using h3
 have e4:(kd == 4)=false:=by simpa using h4
 clear h1 h2 h3 h4
 by_cases hn:zx nm=true
 rotate_left
 ·have HNm:Hid (zx nm=false):=by simpa[Hid] using hn
  clear hn;go_enter Tryz.func190,Tryz.ntmps190;go_wp2_with fail
  refine(zf HNm.o (zk _ _ hnm)).mono ?_;rintro e w1⟨rfl,rfl⟩;go_wp2_with fail
  go_ret;exact⟨ze HO.o.symm,bAl _ _⟩
 have HNm:Hid (zx nm=true):=hn;clear hn
 by_cases hd:df.toList.isEmpty=true
 all_goals
  first
   | (have hd1:df.toList.isEmpty=true:=hd)
   | (have hd1:df.toList.isEmpty=false:=by simpa using hd)
  clear hd;go_enter Tryz.func190,Tryz.ntmps190;go_wp2_with fail
  refine(zf HNm.o (zk _ _ hnm)).mono ?_;rintro e w1⟨rfl,rfl⟩;go_wp2_with fail
  refine(zjK _ _ _ _ _ _ _ _ _ _ _ _ _ _ HH.o.1 HH.o.2.1 HH.o.2.2.1 HH.o.2.2.2).mono ?_;rintro e w2⟨bb,rfl,hb2⟩;have hX2:=za (zl w _ _) (by simp) hb2;have hz2:w.heap.size<w2.heap.size:=by have:=hb2.size;simp at this;omega
  have hB2:Bw w w2:=(bAl _ _).trans (hb2.mono (by simp));clear hb2
  cases bb
  ·go_wp2_with fail
   go_ret;exact⟨ze HO.o.symm,hB2⟩
 ·go_wp2_with fail
  go_ret;exact⟨ze HO.o.symm,hB2⟩
 ·go_wp2_with fail
  refine(zf HFit.o (yX _ _ _ _ _ _ _ _ _ _ _ _ _ _ _ hdf (hws.mono hB2))).mono ?_;rintro e w3⟨rfl,hb3⟩;have hB3:Bw w w3:=hB2.trans (hb3.mono (by omega));go_wp2_with fail
  go_ret;exact⟨ze HO.o.symm,hB3⟩
theorem zfY (a0:OA)(cap0:Nat)(ss:List Shp)(nm:BA)(kd ls ms:Int)(a:OA)(cap:Nat)(ws:List BA)(to:BA)(rl:Int)(mu fx:Bool)(df wg:BA)(w:World)(hnm:nm.size<=maxLen)(hdf:df.size<=maxLen)(hwg:wg.size<=maxLen)(hws:zG w a ws)(hss:yT w a0 ss) :
 Calls Tryz.prog 190 #[.l a0 ss.length cap0,.agg #[.s nm,.i kd,.i ls,.i ms,.l a ws.length cap,.s to,.i rl,.bool mu,.bool fx,.s df,.s wg]] w
  fun e w'=>e=.returned (.bool (zx nm&&yH ss ⟨nm,kd,ls,ms,ws,to,rl,mu,fx,df,wg⟩))/\Bw w w':=by
 by_cases h1:kd=1
 ·subst h1;exact znK a0 cap0 ss nm ls ms a cap ws to rl mu fx df wg w hnm hdf hwg hws
 by_cases h2:kd=2
 ·subst h2;exact znZ a0 cap0 ss nm ls ms a cap ws to rl mu fx df wg w hnm hdf hws
 by_cases h3:kd=3
 ·subst h3;exact znq a0 cap0 ss nm ls ms a cap ws to rl mu fx df wg w hnm hdf hws
 by_cases h4:kd=4
 ·subst h4;exact znv a0 cap0 ss nm ls ms a cap ws to rl mu fx df wg w hnm hdf hws hss
 exact ziT a0 cap0 ss nm kd ls ms a cap ws to rl mu fx df wg w hnm hdf hws h1 h2 h3 h4
end Go.Proofs.YtcgpjfcocmcodaaGreat
namespace Go.Proofs
open Go.Shelf
shelf_lay Lays.n106 Nm 106 at Tryz as YtcgpjfcocmcodaaGreat.lays106
end Go.Proofs
namespace Go.Proofs.YtcgpjfcocmcodaaGreat
open Go.RowKit
def key (a b:BA):Int:=Lib.compareBytes a.data.toList b.data.toList
theorem zm7:∀a b:List UInt8,Lib.compareBytes a b=-1 \/ Lib.compareBytes a b=0 \/ Lib.compareBytes a b=1
 | [],[]=>by simp[Lib.compareBytes]
 | [],_ :: _=>by simp[Lib.compareBytes]
 | _ :: _,[]=>by simp[Lib.compareBytes]
 | a :: xs,b :: ys=>by
  simp only[Lib.compareBytes]
  split
  ·simp
  ·split
   ·simp
   ·exact zm7 xs ys
theorem znS:∀a b:List UInt8,Op.bytesLess a b=decide (Lib.compareBytes a b=-1)
 | [],[]=>by simp[Lib.compareBytes,Op.bytesLess]
 | [],_ :: _=>by simp[Lib.compareBytes,Op.bytesLess]
 | _ :: _,[]=>by simp[Lib.compareBytes,Op.bytesLess]
 | a :: xs,b :: ys=>by
  simp only[Lib.compareBytes,Op.bytesLess];rw[znS xs ys]
  by_cases h:a<b
  ·simp[h]
  ·by_cases h':b<a
   ·have hne:¬a=b:=fun e=>by subst e;exact h h'
    simp[h,h',hne]
   ·have he:a=b:=by
     have h1:¬a.toNat<b.toNat:=h;have h2:¬b.toNat<a.toNat:=h';exact UInt8.toNat_inj.1 (by omega)
    simp[he]
theorem zn2:∀a b:List UInt8,Lib.compareBytes b a=- Lib.compareBytes a b
 | [],[]=>by simp[Lib.compareBytes]
 | [],_ :: _=>by simp[Lib.compareBytes]
 | _ :: _,[]=>by simp[Lib.compareBytes]
 | a :: xs,b :: ys=>by
  simp only[Lib.compareBytes]
  by_cases h:a<b
  ·have h':¬b<a:=fun h2=>absurd (UInt8.lt_trans h h2) (UInt8.lt_irrefl _)
   simp[h,h']
  ·by_cases h':b<a
   ·simp[h,h']
   ·simp[h,h',zn2 xs ys]
theorem zqF (a b:BA):key b a=- key a b:=zn2 _ _
theorem zn3 (a b:BA):key a b=-1 \/ key a b=0 \/ key a b=1:=zm7 _ _
theorem zkC (a b:BA):less a b=decide (key a b=-1):=by
 unfold less key;rw[<- znS,ByteArray.toList_eq,ByteArray.toList_eq]
theorem zno:∀a b:List UInt8,Lib.compareBytes a b=0↔a=b
 | [],[]=>by simp[Lib.compareBytes]
 | [],_ :: _=>by simp[Lib.compareBytes]
 | _ :: _,[]=>by simp[Lib.compareBytes]
 | a :: xs,b :: ys=>by
  simp only[Lib.compareBytes]
  by_cases h:a<b
  ·have hne:¬a=b:=fun e=>by subst e;exact UInt8.lt_irrefl _ h
   simp[h,hne]
  ·by_cases h':b<a
   ·have hne:¬a=b:=fun e=>by subst e;exact UInt8.lt_irrefl _ h'
    simp[h,h',hne]
   ·have he:a=b:=by
     have h1:¬a.toNat<b.toNat:=h;have h2:¬b.toNat<a.toNat:=h';exact UInt8.toNat_inj.1 (by omega)
    simp[he,zno xs ys]
theorem zbO (a b:BA):key a b=0↔a=b:=by
 unfold key;rw[zno]
 constructor
 ·intro h
  cases a;cases b
  simp only at h
  rw[Array.toList_inj.1 h]
 ·rintro rfl;rfl
def zdj (vs:List Int):Int:=(vs.find? (fun v=>decide (¬v=0))).getD 0
theorem zlP (a b:Int):zdj [a,b]=if a=0 then b else a:=by
 unfold zdj
 by_cases h:a=0
 ·by_cases h2:b=0 <;> simp[h,h2]
 ·simp[h]
theorem znP (a b c:Int):zdj [a,b,c]=if a=0 then (if b=0 then c else b) else a:=by
 unfold zdj
 by_cases h:a=0
 ·by_cases h2:b=0
  ·by_cases h3:c=0 <;> simp[h,h2,h3]
  ·simp[h,h2]
 ·simp[h]
def key2 (a b c d:BA):Int:=if key a c=0 then key b d else key a c
def zcg (a b:Ob):Int:=key2 a.kd a.nm b.kd b.nm
def y9 (a b:Lg):Int:=key2 a.tm a.rs b.tm b.rs
def zar (a b:Pu):Int:=if key a.dr b.dr=0 then key2 a.tm a.rs b.tm b.rs else key a.dr b.dr
theorem zeR (a b:BA)(w:World):Calls Tryz.prog 186 #[.s a,.s b] w fun e w'=>e=.returned (.i (key a b))/\w'=w:=
 Any.strings_Compare lays106 a b w
theorem zlO (a:OA)(cap:Nat)(vs:List Int)(w:World)(hw:qm w a vs)(hl:vs.length<=100) :
 Calls Tryz.prog 185 #[.l a vs.length cap] w fun e w'=>e=.returned (.i (zdj vs))/\w'=w:=by
 go_enter Tryz.func185,Tryz.ntmps185;go_wp2_with fail
 go_loopw [8] (fun i wr=>∃k:Nat,k<=vs.length/\i=.i k/\Hid (∀v∈vs.take k,v=0)/\wr=w) (fun i _=>vs.length-(intOf i).toNat)
 case atStart=>exact⟨0,Nat.zero_le _,rfl,fun v hv=>by simp at hv,rfl⟩
 case round=>
  obtain⟨k,hk,rfl,hz,rfl⟩:=hrel
  by_cases hlt:k<vs.length
  ·obtain⟨b,off,rfl,hb,hck⟩:=hw.load (bRf _ _) k hlt
   have hltI:(k:Int)<(vs.length:Int):=by omega
   clear hw
   by_cases h0:vs[k]=0
   ·have e0:(vs[k] != 0)=false:=by simpa using h0
    have HZ:Hid (∀v∈vs.take (k+1),v=0):=by
     intro v hv;rw[tSe hlt,List.mem_append,List.mem_singleton]at hv
     rcases hv with hv|hv
     ·exact hz.out v hv
     ·rw[hv];exact h0
    clear h0;go_wp2_with fail
    exact⟨⟨k+1,by omega,by go_num,HZ.o,trivial⟩,by simp[intOf];omega⟩
   ·have e0:(vs[k] != 0)=true:=by simpa using h0
    have HF:Hid (zdj vs=vs[k]):=by
     unfold Hid zdj;have e:vs=vs.take k++vs[k] :: vs.drop (k+1):=by rw[<- List.drop_eq_getElem_cons hlt,List.take_append_drop]
     have hn:(vs.take k).find? (fun v=>decide (¬v=0))=none:=by
      rw[List.find?_eq_none];intro v hv;simp[hz.out v hv]
     have:vs.find? (fun v=>decide (¬v=0))=some vs[k]:=by
      rw[List.find?_eq_some_iff_append];refine⟨by simpa using h0,vs.take k,vs.drop (k+1),e,fun v hv=>by simp[hz.out v hv]⟩
     rw[this];rfl
    clear h0;go_wp2_with fail
    go_ret;exact⟨zo HF.o.symm,rfl⟩
  ·have HF:Hid (zdj vs=0):=by
    unfold Hid zdj;have h:=hz.out;rw[tOl (by omega)]at h
    have:vs.find? (fun v=>decide (¬v=0))=none:=by
     rw[List.find?_eq_none];intro v hv;simp[h v hv]
    rw[this];rfl
   clear hw;go_wp2_with fail
   go_ret;exact⟨zo HF.o.symm,rfl⟩
end Go.Proofs.YtcgpjfcocmcodaaGreat
namespace Go.Proofs.YtcgpjfcocmcodaaGreat
open Go.RowKit
theorem zim (s:BA):(0<qU s/\zay s=qU s) \/ (¬0<qU s/\zay s=0):=by
 unfold qU zay
 by_cases h:zak s=true
 ·rw[if_pos h,if_pos h]
  have:=zdm s h
  omega
 ·rw[if_neg h,if_neg h]
  omega
theorem zkX (l:Lw)(la lb lc:OA)(lca lcb lcc:Nat)(o:Ob)(oa oa':OA)(ocap ocap':Nat)(res:BA)(w:World)(hl:jA w l la lb lc)(ho:jU w o oa oa')(hc:¬(zB l.ss o=true/\res.toList.isEmpty=false)) :
 Calls Tryz.prog 77 #[.agg (l.cells la lb lc lca lcb lcc),.agg #[.s o.kd,.s o.nm,.s o.tm,.l oa o.vs.length ocap,.bool o.en,.l oa' o.hs.length ocap',.i o.vr],.s res] w fun e w'=>e=.returned (.i (qW l.ss o res))/\Bw w w':=by
 have HL:=hid hl;have HO:=hid ho;have HW:Hid (qW l.ss o res=0):=by unfold Hid qW;rw[if_neg hc]
 have HC:=hid hc;clear hl ho hc;unfold Lw.cells
 by_cases hk:zB l.ss o=true
 ·have he:res.toList.isEmpty=true:=by
   cases h:res.toList.isEmpty with
   | true=>rfl
   | false=>exact absurd ⟨hk,h⟩ HC.o
  have HK:=hid hk;clear hk;go_enter Tryz.func77,Tryz.ntmps77;go_wp2_with fail
  refine(je _ _ l.ss o _ _ _ _ _ (HL.o.ss.mono (zw _ _ _)) (HO.o.mono (zw _ _ _)) HK.o).mono ?_;rintro e w1⟨fa,fcap,rfl,hfl,hb⟩;have HB1:Hid (Bw w w1):=(zw w _ _).trans (hb.mono (by simp;omega));clear hfl hb;go_wp2_with fail
  go_ret;exact⟨zo HW.o.symm,HB1.o⟩
 ·have HK:Hid (zB l.ss o=false):=by unfold Hid;simpa using hk
  clear hk;go_enter Tryz.func77,Tryz.ntmps77;go_wp2_with fail
  refine(zdh _ _ l.ss o _ _ _ _ _ (HL.o.ss.mono (zw _ _ _)) (HO.o.mono (zw _ _ _)) HK.o).mono ?_;rintro e w1⟨v,rfl,hb⟩;have HB1:Hid (Bw w w1):=(zw w _ _).trans (hb.mono (by simp;omega));clear hb;go_wp2_with fail
  go_ret;exact⟨zo HW.o.symm,HB1.o⟩
theorem zjO (l:Lw)(la lb lc:OA)(lca lcb lcc:Nat)(o:Ob)(oa oa':OA)(ocap ocap':Nat)(res:BA)(w:World)(hl:jA w l la lb lc)(ho:jU w o oa oa')(hc:zB l.ss o=true)(he:res.toList.isEmpty=false)(hlen:o.vs.length<=1048576) :
 Calls Tryz.prog 77 #[.agg (l.cells la lb lc lca lcb lcc),.agg #[.s o.kd,.s o.nm,.s o.tm,.l oa o.vs.length ocap,.bool o.en,.l oa' o.hs.length ocap',.i o.vr],.s res] w fun e w'=>e=.returned (.i (qW l.ss o res))/\Bw w w':=by
 have HL:=hid hl;have HO:=hid ho;have HW:Hid (qW l.ss o res=(if res=o.kd then 1 else 0)+zd8 (shapeOf l.ss o.kd).fs o.vs res (shapeOf l.ss o.kd).fs.length):=by unfold Hid qW;rw[if_pos ⟨hc,he⟩]
 have HC:=hid hc;have HK:Hid (zJ l.ss o.kd=true/\o.vs.length=(shapeOf l.ss o.kd).fs.length):=by unfold zB at hc;unfold Hid;simpa using hc
 have HN:=hid hlen;clear hl ho hc hlen;unfold Lw.cells;go_enter Tryz.func77,Tryz.ntmps77;go_wp2_with fail
 refine(je _ _ l.ss o _ _ _ _ _ (HL.o.ss.mono (zw _ _ _)) (HO.o.mono (zw _ _ _)) HC.o).mono ?_;rintro e w1⟨fa,fcap,rfl,hfl,hb⟩;obtain⟨hX0,hY0⟩:=qX w #[.l la l.ss.length lca,.l lb l.ms.length lcb,.l lc l.ts.length lcc] (oC o oa oa' ocap ocap') 47 121;have hY1:=za hY0 (by simp) hb;have hz1:w.heap.size+1<w1.heap.size:=by have:=hb.size;simp at this;omega
 have HB1:Hid (Bw w w1):=(zw w _ _).trans (hb.mono (by simp;omega));have HFl:=hid (hfl.mono hb);clear hfl hb hX0 hY0;obtain⟨S,HS⟩:∃S,Hid (S=shapeOf l.ss o.kd):=⟨_,rfl⟩
 rw[<- HS.o]at HFl HK HW ⊢;obtain⟨n0,hn0⟩:∃n0:Int,n0=if res=o.kd then 1 else 0:=⟨_,rfl⟩
 have hb0:0<=n0/\n0<=1:=by rw[hn0];split <;> omega
 rw[<- hn0]at HW;have HN0:=hid hn0;clear hn0
 by_cases hk:res=o.kd
 all_goals (
  first
  | (have hq:(res.toList == o.kd.toList)=true:=by rw[beq_toList];simpa using hk)
  | (have hq:(res.toList == o.kd.toList)=false:=by rw[beq_toList];simpa using hk)
  have HKE:=zkH hk;clear hk;go_wp2_with fail
  go_loopw [9,10] (fun nv iv wr=>∃(k:Nat) (s:Int),k<=S.fs.length/\iv=.i k/\nv=.i s/\Hid (s=n0+zd8 S.fs o.vs res k/\Bw w1 wr)) (fun _ iv _=>S.fs.length-(intOf iv).toNat)
  case atStart=>exact⟨0,n0,Nat.zero_le _,rfl,by have:=HN0.o;first|(rw[if_pos HKE.o]at this;rw[this])|(rw[if_neg HKE.o]at this;rw[this]),by simp[zd8],bRf _ _⟩
  case round=>
   obtain⟨k,s,hk,rfl,rfl,HQ⟩:=hrel;have hsb:0<=s/\s<=1+k*10000000:=by have h1:=HQ.o.1;have h2:=zcO S.fs o.vs res k;omega
   have hkn:k<=1048576:=by have:=HN.o;have:=HK.o.2;omega
   by_cases hlt:k<S.fs.length
   ·obtain⟨b,off,rfl,hb,hr⟩:=HFl.o.rows (by intro e;rw[e]at hlt;simp at hlt)
    obtain⟨wa,wcap,hf⟩:=hr k hlt;obtain⟨c0,c1,c2,c3,c4,c5,c6,c7,c8,c9,c10⟩:=(hf.mono hb HQ.o.2).load;have hlv:k<o.vs.length:=by have:=HK.o.2;omega
    have hltI:(k:Int)<(S.fs.length:Int):=by omega
    have hlvI:(k:Int)<(o.vs.length:Int):=by omega
    obtain⟨vb,voff,rfl,hvb,hvc0⟩:=HO.o.vals.cells (by intro e;rw[e]at hlv;simp at hlv);have hvc:=((HB1.o.trans (HQ.o.2.mono HB1.o.size)).cell (p:=(aD vb (voff+k))) hvb).trans (hvc0 k hlv);have hvb':=nLt hvb (HB1.o.trans (HQ.o.2.mono HB1.o.size)).size;have hb':=nLt hb HQ.o.2.size;have hY:=za hY1 hz1 HQ.o.2;have hz:=nLt hz1 HQ.o.2.size;have HSt:Hid (zd8 S.fs o.vs res (k+1)=zd8 S.fs o.vs res k+yK S.fs[k] o.vs[k] res):=zpq S.fs o.vs res k hlt hlv;have HVs:Hid (o.vs[k].size<=maxLen):=HO.o.vals.small _ (List.getElem_mem _)
    have hnr:-1<=qU o.vs[k]/\qU o.vs[k]<=10000000:=by
     have h1:=zim o.vs[k];have h2:=zd4 o.vs[k]
     have h3:qU o.vs[k]=-1 \/ 0<=qU o.vs[k]:=by
      unfold qU;split
      ·rename_i h;exact Or.inr (zdm _ h)
      ·exact Or.inl rfl
     omega
    clear hf hr hvc0 c0 c2 c3 c4 c5 c6 c7 c8 c9;go_wp2_with fail
    refine(zep o.vs[k] _ HVs.o).mono ?_;rintro e w2⟨rfl,rfl⟩
    by_cases h1:S.fs[k].kd=1
    ·have e1:(S.fs[k].kd == 1)=true:=by simpa using h1
     by_cases h2:S.fs[k].wg=res
     ·have e2:(S.fs[k].wg.toList == res.toList)=true:=by rw[beq_toList];simpa using h2
      have HFw:Hid (yK S.fs[k] o.vs[k] res=zay o.vs[k]):=by unfold Hid yK;rw[if_pos ⟨h1,h2⟩]
      clear h1 h2
      rcases zim o.vs[k] with⟨hp,hd⟩|⟨hp,hd⟩
      ·have HD:=zkH hd
       have hpd:decide (0<qU o.vs[k])=true:=by simpa using hp
       clear hd;go_wp2_with fail
       first
        | exact⟨⟨k+1,s+qU o.vs[k],by omega,by go_num,by go_num,by rw[HSt.o,HFw.o,HQ.o.1,HD.o];omega,HQ.o.2⟩,zq hlt⟩
        | (go_quiet (fail);go_wp2_with fail;exact⟨⟨k+1,s+qU o.vs[k],by omega,by go_num,by go_num,by rw[HSt.o,HFw.o,HQ.o.1,HD.o];omega,below_drewN HQ.o.2 _⟩,zq hlt⟩)
      ·have HD:=zkH hd
       have hpd:decide (0<qU o.vs[k])=false:=by simpa using hp
       clear hd;go_wp2_with fail
       first
        | exact⟨⟨k+1,s,by omega,by go_num,rfl,by rw[HSt.o,HFw.o,HQ.o.1,HD.o];omega,HQ.o.2⟩,zq hlt⟩
        | (go_quiet (fail);go_wp2_with fail;exact⟨⟨k+1,s,by omega,by go_num,rfl,by rw[HSt.o,HFw.o,HQ.o.1,HD.o];omega,below_drewN HQ.o.2 _⟩,zq hlt⟩)
     ·have e2:(S.fs[k].wg.toList == res.toList)=false:=by rw[beq_toList];simpa using h2
      have HFw:Hid (yK S.fs[k] o.vs[k] res=0):=by unfold Hid yK;rw[if_neg (fun h=>h2 h.2)]
      clear h1 h2;go_wp2_with fail
      first
       | exact⟨⟨k+1,s,by omega,by go_num,rfl,by rw[HSt.o,HFw.o,HQ.o.1];omega,HQ.o.2⟩,zq hlt⟩
       | (go_quiet (fail);go_wp2_with fail;exact⟨⟨k+1,s,by omega,by go_num,rfl,by rw[HSt.o,HFw.o,HQ.o.1];omega,below_drewN HQ.o.2 _⟩,zq hlt⟩)
    ·have e1:(S.fs[k].kd == 1)=false:=by simpa using h1
     have HFw:Hid (yK S.fs[k] o.vs[k] res=0):=by unfold Hid yK;rw[if_neg (fun h=>h1 h.1)]
     clear h1;go_wp2_with fail
     first
      | exact⟨⟨k+1,s,by omega,by go_num,rfl,by rw[HSt.o,HFw.o,HQ.o.1];omega,HQ.o.2⟩,zq hlt⟩
      | (go_quiet (fail);go_wp2_with fail;exact⟨⟨k+1,s,by omega,by go_num,rfl,by rw[HSt.o,HFw.o,HQ.o.1];omega,below_drewN HQ.o.2 _⟩,zq hlt⟩)
   ·have e:k=S.fs.length:=by omega
    subst e;have HE:Hid (qW l.ss o res=s):=by unfold Hid;rw[HW.o,HQ.o.1]
    clear hlt hk;go_wp2_with fail
    go_ret;exact⟨zo HE.o.symm,HB1.o.trans (HQ.o.2.mono HB1.o.size)⟩)
theorem zjS (l:Lw)(la lb lc:OA)(lca lcb lcc:Nat)(o:Ob)(oa oa':OA)(ocap ocap':Nat)(res:BA)(w:World)(hl:jA w l la lb lc)(ho:jU w o oa oa')(hlen:o.vs.length<=1048576) :
 Calls Tryz.prog 99 #[.agg (l.cells la lb lc lca lcb lcc),.agg #[.s o.kd,.s o.nm,.s o.tm,.l oa o.vs.length ocap,.bool o.en,.l oa' o.hs.length ocap',.i o.vr],.s res] w fun e w'=>e=.returned (.i (qW l.ss o res))/\Bw w w':=by
 by_cases hc:zB l.ss o=true/\res.toList.isEmpty=false
 ·exact zkv l la lb lc lca lcb lcc o oa oa' ocap ocap' res w hl ho hc.1 hc.2 hlen
 ·exact zk4 l la lb lc lca lcb lcc o oa oa' ocap ocap' res w hl ho hc
theorem zjo (l:Lw)(la lb lc:OA)(lca lcb lcc:Nat)(o:Ob)(oa oa':OA)(ocap ocap':Nat)(res:BA)(w:World)(hl:jA w l la lb lc)(ho:jU w o oa oa')(hlen:o.vs.length<=1048576) :
 Calls Tryz.prog 77 #[.agg (l.cells la lb lc lca lcb lcc),.agg #[.s o.kd,.s o.nm,.s o.tm,.l oa o.vs.length ocap,.bool o.en,.l oa' o.hs.length ocap',.i o.vr],.s res] w fun e w'=>e=.returned (.i (qW l.ss o res))/\Bw w w':=by
 by_cases hc:zB l.ss o=true/\res.toList.isEmpty=false
 ·exact zjO l la lb lc lca lcb lcc o oa oa' ocap ocap' res w hl ho hc.1 hc.2 hlen
 ·exact zkX l la lb lc lca lcb lcc o oa oa' ocap ocap' res w hl ho hc
theorem zeO (g n cap:Nat)(C:AV)(k:Nat)(w:World)(hC:w.heap[g]?=some (.cells C 9))(hn:n<=C.size)(hns:∀i,i<n->∀a m c,C[i]?≠some (Value.slice a m c))(hk:0<k)(hkn:k+n<9000000000000000000) :
 Calls Tryz.prog 109 #[.l (some (aD g 0)) n cap,.i k] w fun e w'=>e=.returned (.i ((k+n:Nat):Int))/\Marked g (g+1) w w'/\∃C',w'.heap[g]?=some (.cells C' 9)/\C'.size=C.size/\∀i,i<n->C'[i]?=some (.s (zaG (k+i))):=by
 have HS:=hid hns;have HC:=hid hC;have HN:=hid hn;have HKN:=hid hkn;clear hns hC hn hkn;go_enter Tryz.func109,Tryz.ntmps109;go_wp2_with fail
 go_loopw [1,5] (fun kv iv wr=>∃i:Nat,i<=n/\kv=.i ((k+i:Nat):Int)/\iv=.i i/\Marked g (g+1) w wr/\∃C',wr.heap[g]?=some (.cells C' 9)/\C'.size=C.size/\∀j,j<i->C'[j]?=some (.s (zaG (k+j)))) (fun _ iv _=>n-(intOf iv).toNat)
 case atStart=>exact⟨0,Nat.zero_le _,by simp,rfl,Marked.refl _ _ _,C,HC.o,rfl,fun j h=>absurd h (by omega)⟩
 case round=>
  obtain⟨i,hi,rfl,rfl,hM,C',hC',hs',hc'⟩:=hrel
  by_cases hlt:i<n
  ·have hkn:=HKN.o
   have hltI:(i:Int)<(n:Int):=by omega
   have HX:=zbX hM hC' hs' hc';have hglt:=(gES hC').1;clear hM hC' hs' hc' hkn;go_wp2_with fail
   rw[<- Int.natCast_add];refine(zcH (k+i) _ (by omega) (by have:=HKN.o;omega)).mono ?_;rintro e w1⟨rfl,hb1⟩;have hC1:w1.heap[g]?=some (.cells C' 9):=(hb1.block g hglt).trans HX.o.2.1;have hi1:i<C'.size:=by have h1:=HX.o.2.2.1;have h2:=HN.o;omega
   have hcell:w1.cell? (aD g i)=some C'[i]:=by rw[cell_of_block hC1];exact Array.getElem?_eq_getElem hi1
   have hfz:w1.frozen? (aD g i)=false:=zh hC1;have HC1:=hid hC1;have HM1:=hid (HX.o.1.trans (Marked.of_below hb1));have HR:Hid (wrap64 ((k:Int)+i+1)=((k+(i+1):Nat):Int)):=by have:=HKN.o;rw[Hid,zA _ ⟨by omega,by omega⟩];omega
   clear hb1 hC1;go_wp2_with fail
   go_roundw
   case rel=>
    refine⟨i+1,by omega,?_,by rw[wrap_one (by have:=HKN.o;omega)],?_,C'.setIfInBounds i (.s (zaG (k+i))),zi HC1.o _,by simp[HX.o.2.2.1],fun j hj=>?_⟩
    ·rw[HR.o]
    ·exact HM1.o.put (Nat.le_refl _) (Nat.lt_succ_self _) HC.o (HS.o i hlt) _ (fun _ _ _ h=>by cases h)
    ·by_cases e:j=i
     ·subst e;rw[Array.getElem?_setIfInBounds_self_of_lt hi1]
     ·rw[Array.getElem?_setIfInBounds_ne (fun h=>e h.symm)];exact HX.o.2.2.2 j (by omega)
   case measure=>
    have hkn:=HKN.o;exact yR hlt (by omega)
  ·have e:i=n:=by omega
   have HX:Hid (Marked g (g+1) w wr/\∃C',wr.heap[g]?=some (.cells C' 9)/\C'.size=C.size/\∀j,j<n->C'[j]?=some (.s (zaG (k+j)))):=⟨hM,C',hC',hs',by rw[<- e];exact hc'⟩
   clear hM hC' hs' hc';subst e;go_wp2_with fail
   go_ret;exact⟨rfl,HX.o⟩
theorem zhT (k:Int)(a:OA)(cap:Nat)(w:World) :
 Calls Tryz.prog 109 #[.l a 0 cap,.i k] w fun e w'=>e=.returned (.i k)/\w'=w:=by
 go_enter Tryz.func109,Tryz.ntmps109;go_wp2_with fail
 go_loopw [1,5] (fun kv iv wr=>kv=.i k/\iv=.i 0/\wr=w) (fun _ _ _=>0)
 case atStart=>exact⟨rfl,rfl,rfl⟩
 case round=>
  obtain⟨rfl,rfl,rfl⟩:=hrel;go_wp2_with fail
  go_ret;exact⟨rfl,rfl⟩
theorem zcM (b:Bk)(a0 a1 a2 a3:OA)(c0 c1 c2 c3:Nat)(w:World)(hl:ji w b a0 a1 a2 a3)(hf:b.Few) :
 Calls Tryz.prog 8 #[.agg (b.cells a0 a1 a2 a3 c0 c1 c2 c3)] w fun e w'=>∃lo g0 g1 g2 g3,e=.returned (.agg (b.cells (some (aD g0 0)) (some (aD g1 0)) (some (aD g2 0)) (some (aD g3 0)) b.os.length b.gs.length b.ls.length b.ps.length))/\w.heap.size<=lo/\zmU lo w' b g0 g1 g2 g3/\Bw w w':=by
 have HL:Hid (ji w b a0 a1 a2 a3):=hl;have HF:Hid b.Few:=hf;clear hl hf;unfold Bk.cells;go_enter Tryz.func8,Tryz.ntmps8;go_wp2_with fail
 have k0:=zob w (.cells (bC b a0 a1 a2 a3 c0 c1 c2 c3) 32) (.cells bZ 40) (.cells #[.i b.now,.i b.tick,.i b.given,.l none 0 0,.l none 0 0,.l none 0 0,.l none 0 0] 40);have hB0:=below3' w (.cells (bC b a0 a1 a2 a3 c0 c1 c2 c3) 32) (.cells bZ 40) (.cells #[.i b.now,.i b.tick,.i b.given,.l none 0 0,.l none 0 0,.l none 0 0,.l none 0 0] 40);obtain⟨W0,hW0⟩:=xN (((w.alloc (.cells (bC b a0 a1 a2 a3 c0 c1 c2 c3) 32)).alloc (.cells bZ 40)).alloc (.cells #[.i b.now,.i b.tick,.i b.given,.l none 0 0,.l none 0 0,.l none 0 0,.l none 0 0] 40));have hz0:w.heap.size+1+1<W0.heap.size:=by rw[hW0];simp
 rw[<- hW0]at k0 hB0 ⊢;clear hW0;have HLO:Hid (w.heap.size+1+1<W0.heap.size):=hz0;refine(zg1 _ _ b.os _ (HL.o.os.mono hB0) HF.o.os.1 HF.o.os.2).mono ?_;rintro e w1⟨rfl,hown,hb⟩;obtain⟨g0,hp'⟩:∃g0,g0=W0.heap.size:=⟨_,rfl⟩
 have HN1:Hid (zah W0.heap.size w1 g0 b.os b.os.length):=by rw[hp'];exact hown
 have hX1:=(hb.block _ (by omega)).trans k0.1;have hR1:=(hb.block _ (by omega)).trans k0.2.1;have hO1:=(hb.block _ hz0).trans k0.2.2;have HZ1:Hid (W0.heap.size<=w1.heap.size):=hb.size;have HB1:Hid (Bw w w1):=hB0.trans (hb.mono hB0.size);rw[<- hp'];clear hown hb k0 hB0 hz0 hp';have cO1:=fun j=>cell_of_block (o:=j) hO1
 have fO1:=fun j=>zh (o:=j) hO1
 have HX1':Hid ((w1.setCell (aD (w.heap.size+1+1) 3) (.l (some (aD g0 0)) b.os.length b.os.length)).heap[w.heap.size]?=some (.cells (bC b a0 a1 a2 a3 c0 c1 c2 c3) 32)):=(zD (by omega)).trans hX1;have HR1':Hid ((w1.setCell (aD (w.heap.size+1+1) 3) (.l (some (aD g0 0)) b.os.length b.os.length)).heap[w.heap.size+1]?=some (.cells bZ 40)):=(zD (by omega)).trans hR1;have HO1':Hid ((w1.setCell (aD (w.heap.size+1+1) 3) (.l (some (aD g0 0)) b.os.length b.os.length)).heap[w.heap.size+1+1]?=some (.cells #[.i b.now,.i b.tick,.i b.given,.l (some (aD g0 0)) b.os.length b.os.length,.l none 0 0,.l none 0 0,.l none 0 0] 40)):=zi hO1 _;have HAB1:Hid (yN W0.heap.size w1 (w1.setCell (aD (w.heap.size+1+1) 3) (.l (some (aD g0 0)) b.os.length b.os.length))):=yN.setCell HLO.o _;have HBB1:Hid (Bw w (w1.setCell (aD (w.heap.size+1+1) 3) (.l (some (aD g0 0)) b.os.length b.os.length))):=HB1.o.setCell (by show w.heap.size<=w.heap.size+1+1;omega) _;have HZZ1:Hid (W0.heap.size<=(w1.setCell (aD (w.heap.size+1+1) 3) (.l (some (aD g0 0)) b.os.length b.os.length)).heap.size):=by unfold Hid;rw[World.size_setCell];exact HZ1.o
 clear hX1 hR1 hO1;have cX1:=fun j=>cell_of_block (o:=j) HX1'.out
 have cR1:=fun j=>cell_of_block (o:=j) HR1'.out
 have fR1:=fun j=>zh (o:=j) HR1'.out
 have cOO1:=fun j=>cell_of_block (o:=j) HO1'.out
 go_wp2_with fail
 refine(zhl _ _ b.gs _ (HL.o.gs.mono HBB1.o) HF.o.gs.1 HF.o.gs.2).mono ?_;rintro e w2⟨rfl,hown,hb⟩;obtain⟨g1,hp'⟩:∃g1,g1=(w1.setCell (aD (w.heap.size+1+1) 3) (.l (some (aD g0 0)) b.os.length b.os.length)).heap.size:=⟨_,rfl⟩
 have HN2:Hid (j5 W0.heap.size w2 g1 b.gs b.gs.length):=by rw[hp'];exact hown.weaken HZZ1.o
 have HAA2:Hid (yN W0.heap.size w1 w2):=HAB1.o.trans (yN.below hb);have hX2:=(hb.block _ (lt_of_some HX1'.out)).trans HX1'.out;have hR2:=(hb.block _ (lt_of_some HR1'.out)).trans HR1'.out;have hO2:=(hb.block _ (lt_of_some HO1'.out)).trans HO1'.out;have HZ2:Hid (W0.heap.size<=w2.heap.size):=Nat.le_trans HZZ1.o hb.size;have HB2:Hid (Bw w w2):=HBB1.o.trans (hb.mono HBB1.o.size);rw[<- hp'];clear hown hb hp' cX1 cR1 fR1 cOO1;have cO2:=fun j=>cell_of_block (o:=j) hO2
 have fO2:=fun j=>zh (o:=j) hO2
 have HX2':Hid ((w2.setCell (aD (w.heap.size+1+1) 4) (.l (some (aD g1 0)) b.gs.length b.gs.length)).heap[w.heap.size]?=some (.cells (bC b a0 a1 a2 a3 c0 c1 c2 c3) 32)):=(zD (by omega)).trans hX2;have HR2':Hid ((w2.setCell (aD (w.heap.size+1+1) 4) (.l (some (aD g1 0)) b.gs.length b.gs.length)).heap[w.heap.size+1]?=some (.cells bZ 40)):=(zD (by omega)).trans hR2;have HO2':Hid ((w2.setCell (aD (w.heap.size+1+1) 4) (.l (some (aD g1 0)) b.gs.length b.gs.length)).heap[w.heap.size+1+1]?=some (.cells #[.i b.now,.i b.tick,.i b.given,.l (some (aD g0 0)) b.os.length b.os.length,.l (some (aD g1 0)) b.gs.length b.gs.length,.l none 0 0,.l none 0 0] 40)):=zi hO2 _;have HAB2:Hid (yN W0.heap.size w2 (w2.setCell (aD (w.heap.size+1+1) 4) (.l (some (aD g1 0)) b.gs.length b.gs.length))):=yN.setCell HLO.o _;have HBB2:Hid (Bw w (w2.setCell (aD (w.heap.size+1+1) 4) (.l (some (aD g1 0)) b.gs.length b.gs.length))):=HB2.o.setCell (by show w.heap.size<=w.heap.size+1+1;omega) _;have HZZ2:Hid (W0.heap.size<=(w2.setCell (aD (w.heap.size+1+1) 4) (.l (some (aD g1 0)) b.gs.length b.gs.length)).heap.size):=by unfold Hid;rw[World.size_setCell];exact HZ2.o
 clear hX2 hR2 hO2;have cX2:=fun j=>cell_of_block (o:=j) HX2'.out
 have cR2:=fun j=>cell_of_block (o:=j) HR2'.out
 have fR2:=fun j=>zh (o:=j) HR2'.out
 have cOO2:=fun j=>cell_of_block (o:=j) HO2'.out
 go_wp2_with fail
 refine(zgE _ _ b.ls _ (HL.o.ls.mono HBB2.o) HF.o.ls).mono ?_;rintro e w3⟨rfl,hown,hb⟩;obtain⟨g2,hp'⟩:∃g2,g2=(w2.setCell (aD (w.heap.size+1+1) 4) (.l (some (aD g1 0)) b.gs.length b.gs.length)).heap.size:=⟨_,rfl⟩
 have HN3:Hid (zac W0.heap.size w3 g2 b.ls b.ls.length):=by rw[hp'];exact hown.weaken HZZ2.o
 have HAA3:Hid (yN W0.heap.size w2 w3):=HAB2.o.trans (yN.below hb);have hX3:=(hb.block _ (lt_of_some HX2'.out)).trans HX2'.out;have hR3:=(hb.block _ (lt_of_some HR2'.out)).trans HR2'.out;have hO3:=(hb.block _ (lt_of_some HO2'.out)).trans HO2'.out;have HZ3:Hid (W0.heap.size<=w3.heap.size):=Nat.le_trans HZZ2.o hb.size;have HB3:Hid (Bw w w3):=HBB2.o.trans (hb.mono HBB2.o.size);rw[<- hp'];clear hown hb hp' cX2 cR2 fR2 cOO2;have cO3:=fun j=>cell_of_block (o:=j) hO3
 have fO3:=fun j=>zh (o:=j) hO3
 have HX3':Hid ((w3.setCell (aD (w.heap.size+1+1) 5) (.l (some (aD g2 0)) b.ls.length b.ls.length)).heap[w.heap.size]?=some (.cells (bC b a0 a1 a2 a3 c0 c1 c2 c3) 32)):=(zD (by omega)).trans hX3;have HR3':Hid ((w3.setCell (aD (w.heap.size+1+1) 5) (.l (some (aD g2 0)) b.ls.length b.ls.length)).heap[w.heap.size+1]?=some (.cells bZ 40)):=(zD (by omega)).trans hR3;have HO3':Hid ((w3.setCell (aD (w.heap.size+1+1) 5) (.l (some (aD g2 0)) b.ls.length b.ls.length)).heap[w.heap.size+1+1]?=some (.cells #[.i b.now,.i b.tick,.i b.given,.l (some (aD g0 0)) b.os.length b.os.length,.l (some (aD g1 0)) b.gs.length b.gs.length,.l (some (aD g2 0)) b.ls.length b.ls.length,.l none 0 0] 40)):=zi hO3 _;have HAB3:Hid (yN W0.heap.size w3 (w3.setCell (aD (w.heap.size+1+1) 5) (.l (some (aD g2 0)) b.ls.length b.ls.length))):=yN.setCell HLO.o _;have HBB3:Hid (Bw w (w3.setCell (aD (w.heap.size+1+1) 5) (.l (some (aD g2 0)) b.ls.length b.ls.length))):=HB3.o.setCell (by show w.heap.size<=w.heap.size+1+1;omega) _;have HZZ3:Hid (W0.heap.size<=(w3.setCell (aD (w.heap.size+1+1) 5) (.l (some (aD g2 0)) b.ls.length b.ls.length)).heap.size):=by unfold Hid;rw[World.size_setCell];exact HZ3.o
 clear hX3 hR3 hO3;have cX3:=fun j=>cell_of_block (o:=j) HX3'.out
 have cR3:=fun j=>cell_of_block (o:=j) HR3'.out
 have fR3:=fun j=>zh (o:=j) HR3'.out
 have cOO3:=fun j=>cell_of_block (o:=j) HO3'.out
 go_wp2_with fail
 refine(zhr _ _ b.ps _ (HL.o.ps.mono HBB3.o) HF.o.ps).mono ?_;rintro e w4⟨rfl,hown,hb⟩;obtain⟨g3,hp'⟩:∃g3,g3=(w3.setCell (aD (w.heap.size+1+1) 5) (.l (some (aD g2 0)) b.ls.length b.ls.length)).heap.size:=⟨_,rfl⟩
 have HN4:Hid (zaa W0.heap.size w4 g3 b.ps b.ps.length):=by rw[hp'];exact hown.weaken HZZ3.o
 have HAA4:Hid (yN W0.heap.size w3 w4):=HAB3.o.trans (yN.below hb);have hX4:=(hb.block _ (lt_of_some HX3'.out)).trans HX3'.out;have hR4:=(hb.block _ (lt_of_some HR3'.out)).trans HR3'.out;have hO4:=(hb.block _ (lt_of_some HO3'.out)).trans HO3'.out;have HZ4:Hid (W0.heap.size<=w4.heap.size):=Nat.le_trans HZZ3.o hb.size;have HB4:Hid (Bw w w4):=HBB3.o.trans (hb.mono HBB3.o.size);rw[<- hp'];clear hown hb hp' cX3 cR3 fR3 cOO3;have cO4:=fun j=>cell_of_block (o:=j) hO4
 have fO4:=fun j=>zh (o:=j) hO4
 have HX4':Hid ((w4.setCell (aD (w.heap.size+1+1) 6) (.l (some (aD g3 0)) b.ps.length b.ps.length)).heap[w.heap.size]?=some (.cells (bC b a0 a1 a2 a3 c0 c1 c2 c3) 32)):=(zD (by omega)).trans hX4;have HR4':Hid ((w4.setCell (aD (w.heap.size+1+1) 6) (.l (some (aD g3 0)) b.ps.length b.ps.length)).heap[w.heap.size+1]?=some (.cells bZ 40)):=(zD (by omega)).trans hR4;have HO4':Hid ((w4.setCell (aD (w.heap.size+1+1) 6) (.l (some (aD g3 0)) b.ps.length b.ps.length)).heap[w.heap.size+1+1]?=some (.cells (bC b (some (aD g0 0)) (some (aD g1 0)) (some (aD g2 0)) (some (aD g3 0)) (b.os.length) (b.gs.length) (b.ls.length) (b.ps.length)) 40)):=zi hO4 _;have HAB4:Hid (yN W0.heap.size w4 (w4.setCell (aD (w.heap.size+1+1) 6) (.l (some (aD g3 0)) b.ps.length b.ps.length))):=yN.setCell HLO.o _;have HBB4:Hid (Bw w (w4.setCell (aD (w.heap.size+1+1) 6) (.l (some (aD g3 0)) b.ps.length b.ps.length))):=HB4.o.setCell (by show w.heap.size<=w.heap.size+1+1;omega) _;have HZZ4:Hid (W0.heap.size<=(w4.setCell (aD (w.heap.size+1+1) 6) (.l (some (aD g3 0)) b.ps.length b.ps.length)).heap.size):=by unfold Hid;rw[World.size_setCell];exact HZ4.o
 clear hX4 hR4 hO4;have cX4:=fun j=>cell_of_block (o:=j) HX4'.out
 have cR4:=fun j=>cell_of_block (o:=j) HR4'.out
 have fR4:=fun j=>zh (o:=j) HR4'.out
 have cOO4:=fun j=>cell_of_block (o:=j) HO4'.out
 go_wp2_with fail
 refine bodyPost_ret (v:=.agg #[.i b.now,.i b.tick,.i b.given,.l (some (aD g0 0)) b.os.length b.os.length,.l (some (aD g1 0)) b.gs.length b.gs.length,.l (some (aD g2 0)) b.ls.length b.ls.length,.l (some (aD g3 0)) b.ps.length b.ps.length]) (by simp[results,Tryz.results8,go_sem,cR4]) rfl ⟨W0.heap.size,g0,g1,g2,g3,rfl,by have:=HLO.o;omega,?_,?_⟩
 ·have hlt1:w.heap.size+1<W0.heap.size:=by have:=HLO.o;omega
  have hA4:∀v0 v1 v2 v3 v4 v5 v6,yN W0.heap.size w4 ((((((((w4.setCell (aD (w.heap.size+1+1) 6) (.l (some (aD g3 0)) b.ps.length b.ps.length)).setCell (aD (w.heap.size+1) 0) v0).setCell (aD (w.heap.size+1) 1) v1).setCell (aD (w.heap.size+1) 2) v2).setCell (aD (w.heap.size+1) 3) v3).setCell (aD (w.heap.size+1) 4) v4).setCell (aD (w.heap.size+1) 5) v5).setCell (aD (w.heap.size+1) 6) v6):=fun v0 v1 v2 v3 v4 v5 v6=>(((((((HAB4.o.trans (yN.setCell (p:=(aD (w.heap.size+1) 0)) hlt1 v0)).trans (yN.setCell (p:=(aD (w.heap.size+1) 1)) hlt1 v1)).trans (yN.setCell (p:=(aD (w.heap.size+1) 2)) hlt1 v2)).trans (yN.setCell (p:=(aD (w.heap.size+1) 3)) hlt1 v3)).trans (yN.setCell (p:=(aD (w.heap.size+1) 4)) hlt1 v4)).trans (yN.setCell (p:=(aD (w.heap.size+1) 5)) hlt1 v5)).trans (yN.setCell (p:=(aD (w.heap.size+1) 6)) hlt1 v6))
  exact⟨HN1.o.above (((HAA2.o.trans HAA3.o).trans HAA4.o).trans (hA4 _ _ _ _ _ _ _)),HN2.o.above ((HAA3.o.trans HAA4.o).trans (hA4 _ _ _ _ _ _ _)),HN3.o.above (HAA4.o.trans (hA4 _ _ _ _ _ _ _)),HN4.o.above (hA4 _ _ _ _ _ _ _)⟩
 ·exact((((((HBB4.o.setCell (Nat.le_succ _) _).setCell (Nat.le_succ _) _).setCell (Nat.le_succ _) _).setCell (Nat.le_succ _) _).setCell (Nat.le_succ _) _).setCell (Nat.le_succ _) _).setCell (Nat.le_succ _) _
theorem zkn (b:Bk)(a0 a1 a2 a3:OA)(c0 c1 c2 c3:Nat)(w:World)(hl:ji w b a0 a1 a2 a3)(hf:b.Few) :
 Calls Tryz.prog 8 #[.agg (b.cells a0 a1 a2 a3 c0 c1 c2 c3)] w fun e w'=>∃a0' a1' a2' a3',e=.returned (.agg (b.cells a0' a1' a2' a3' b.os.length b.gs.length b.ls.length b.ps.length))/\ji w' b a0' a1' a2' a3'/\Bw w w':=by
 refine(zcM b a0 a1 a2 a3 c0 c1 c2 c3 w hl hf).mono ?_;rintro e w'⟨lo,g0,g1,g2,g3,he,_,ho,hb⟩;exact⟨_,_,_,_,he,ho.at hl.small,hb⟩
end Go.Proofs.YtcgpjfcocmcodaaGreat
namespace Go.Proofs.YtcgpjfcocmcodaaGreat
open Go.ChangeShapes Go.WideShapes Go.ChangeAt Go.RowKit
theorem Tryz.zis:Tryz.prog.cellsOf 115=4:=by kernel_rfl
theorem Tryz.zkF:Tryz.prog.cellsOf 118=5:=by kernel_rfl
theorem Tryz.zkb:Tryz.prog.cellsOf 113=7:=by kernel_rfl
theorem Tryz.zpM:Tryz.prog.cellsOf 32=7:=by kernel_rfl
theorem Tryz.zl4:Tryz.prog.cellsOf 27=1:=by kernel_rfl
theorem Tryz.znG:Tryz.prog.cellsOf 28=1:=by kernel_rfl
theorem Tryz.zms:Tryz.prog.cellsOf 29=1:=by kernel_rfl
theorem Tryz.znd:Tryz.prog.cellsOf 30=1:=by kernel_rfl
section
variable {H:Type} {enc:TypeId × Value->H} {w:World} {base:Nat} {spare:Nat->Bool} {held:Bool}
theorem zpg {P:Program}{t:TypeId}{fs:Array Field}{fuel:Nat}{cs:List Value}{x:DataW H × List MemPlace}(ht:P.underlying t=some (.struct fs))(h:DataW.trod enc P w base spare held fuel t cs=some x)
 (i tf off n:Nat) (hf:(fs[i]?).map (fun f=>(f.type,f.offset))=some (tf,off)) (hn:P.cellsOf tf=n):∃m y,DataW.trod enc P w base spare held m tf ((cs.drop off).take n)=some y:=by
 obtain⟨f,hf1,hf2⟩:=Option.map_eq_some_iff.1 hf;simp only[Prod.mk.injEq]at hf2;obtain⟨rfl,rfl⟩:=hf2;subst hn;exact zjm ht h i f hf1
theorem znt {fuel:Nat}{cs:List Value}{x:DataW H × List MemPlace}(h:DataW.trod enc Tryz.prog w base spare held fuel 115 cs=some x) :
 ∃m:Lg,cs=m.cells.toList/\m.Small:=by
 have hlen:cs.length=4:=by
  obtain⟨_,_,_,_,hl,_,_⟩:=DataW.trod_struct Tryz.underlying115 h;rw[hl];exact Tryz.zis
 match cs,hlen with
 | [c0,c1,c2,c3],_=>
  have hf:=zai Tryz.underlying115 h;obtain⟨_,_,f0⟩:=hf 0 9 0 c0 rfl Tryz.zT rfl;obtain⟨_,_,f1⟩:=hf 1 9 1 c1 rfl Tryz.zT rfl;obtain⟨_,_,f2⟩:=hf 2 3 2 c2 rfl Tryz.jX rfl;obtain⟨_,_,f3⟩:=hf 3 3 3 c3 rfl Tryz.jX rfl;obtain⟨x0,e0,_,s0⟩:=DataW.trod_string Tryz.underlying9 f0;obtain⟨x1,e1,_,s1⟩:=DataW.trod_string Tryz.underlying9 f1;obtain⟨x2,e2,_,_⟩:=DataW.trod_int Tryz.underlying3 f2;obtain⟨x3,e3,_,_⟩:=DataW.trod_int Tryz.underlying3 f3;simp only[List.cons.injEq,and_true]at e0 e1 e2 e3;subst e0 e1 e2 e3;exact⟨⟨x0,x1,x2,x3⟩,rfl,s0,s1⟩
theorem zmu {fuel:Nat}{cs:List Value}{x:DataW H × List MemPlace}(h:DataW.trod enc Tryz.prog w base spare held fuel 29 cs=some x) :
 ∃a cap ms,cs=[.l a (List.length ms) cap]/\zbn w a ms:=by
 obtain⟨a,len,cap,rfl,hm,hr⟩:=zaY Tryz.underlying29 Tryz.zis (by omega) h
 rcases Nat.eq_zero_or_pos len with h0|hp
 ·subst h0
  exact⟨a,cap,[],rfl,⟨by simp[maxLen],fun i h=>absurd h (by simp),fun h=>absurd rfl h⟩⟩
 ·obtain⟨b,off,rfl,hb,hrow⟩:=hr hp
  have hf:∀i,i<len->∃m:Lg,m.Small/\∀j,j<4->w.cell? (aD b (off+i*4+j))=m.cells[j]?:=by
   intro i hi;obtain⟨es,n,y,hel,hcell,hy⟩:=hrow i hi;obtain⟨m,rfl,hs⟩:=znt hy;exact⟨m,hs,fun j hj=>by rw[hcell j hj];simp⟩
  obtain⟨ms,hl,hms⟩:=zb6 len hf;exact⟨_,cap,ms,by rw[hl],⟨by omega,fun i hi=>(hms i hi).1,fun _=>⟨b,off,rfl,hb,fun i hi=>(hms i hi).2⟩⟩⟩
theorem zo9 {fuel:Nat}{cs:List Value}{x:DataW H × List MemPlace}(h:DataW.trod enc Tryz.prog w base spare held fuel 118 cs=some x) :
 ∃m:Pu,cs=m.cells.toList/\m.Small:=by
 have hlen:cs.length=5:=by
  obtain⟨_,_,_,_,hl,_,_⟩:=DataW.trod_struct Tryz.underlying118 h;rw[hl];exact Tryz.zkF
 match cs,hlen with
 | [c0,c1,c2,c3,c4],_=>
  have hf:=zai Tryz.underlying118 h;obtain⟨_,_,f0⟩:=hf 0 9 0 c0 rfl Tryz.zT rfl;obtain⟨_,_,f1⟩:=hf 1 9 1 c1 rfl Tryz.zT rfl;obtain⟨_,_,f2⟩:=hf 2 9 2 c2 rfl Tryz.zT rfl;obtain⟨_,_,f3⟩:=hf 3 3 3 c3 rfl Tryz.jX rfl;obtain⟨_,_,f4⟩:=hf 4 3 4 c4 rfl Tryz.jX rfl;obtain⟨x0,e0,_,s0⟩:=DataW.trod_string Tryz.underlying9 f0;obtain⟨x1,e1,_,s1⟩:=DataW.trod_string Tryz.underlying9 f1;obtain⟨x2,e2,_,s2⟩:=DataW.trod_string Tryz.underlying9 f2;obtain⟨x3,e3,_,_⟩:=DataW.trod_int Tryz.underlying3 f3;obtain⟨x4,e4,_,_⟩:=DataW.trod_int Tryz.underlying3 f4;simp only[List.cons.injEq,and_true]at e0 e1 e2 e3 e4;subst e0 e1 e2 e3 e4;exact⟨⟨x0,x1,x2,x3,x4⟩,rfl,s0,s1,s2⟩
theorem zni {fuel:Nat}{cs:List Value}{x:DataW H × List MemPlace}(h:DataW.trod enc Tryz.prog w base spare held fuel 30 cs=some x) :
 ∃a cap ms,cs=[.l a (List.length ms) cap]/\zce w a ms:=by
 obtain⟨a,len,cap,rfl,hm,hr⟩:=zaY Tryz.underlying30 Tryz.zkF (by omega) h
 rcases Nat.eq_zero_or_pos len with h0|hp
 ·subst h0
  exact⟨a,cap,[],rfl,⟨by simp[maxLen],fun i h=>absurd h (by simp),fun h=>absurd rfl h⟩⟩
 ·obtain⟨b,off,rfl,hb,hrow⟩:=hr hp
  have hf:∀i,i<len->∃m:Pu,m.Small/\∀j,j<5->w.cell? (aD b (off+i*5+j))=m.cells[j]?:=by
   intro i hi;obtain⟨es,n,y,hel,hcell,hy⟩:=hrow i hi;obtain⟨m,rfl,hs⟩:=zo9 hy;exact⟨m,hs,fun j hj=>by rw[hcell j hj];simp⟩
  obtain⟨ms,hl,hms⟩:=zb6 len hf;exact⟨_,cap,ms,by rw[hl],⟨by omega,fun i hi=>(hms i hi).1,fun _=>⟨b,off,rfl,hb,fun i hi=>(hms i hi).2⟩⟩⟩
theorem zl7 {fuel:Nat}{cs:List Value}{x:DataW H × List MemPlace}(h:DataW.trod enc Tryz.prog w base spare held fuel 27 cs=some x) :
 ∃a cap ms,cs=[.l a (List.length ms) cap]/\zbG w a ms:=by
 obtain⟨a,len,cap,rfl,hm,hr⟩:=zaY Tryz.underlying27 Tryz.zil (by omega) h
 rcases Nat.eq_zero_or_pos len with h0|hp
 ·subst h0
  exact⟨a,cap,[],rfl,⟨by simp[maxLen],fun h=>absurd rfl h⟩⟩
 ·obtain⟨b,off,rfl,hb,hrow⟩:=hr hp
  have hf:∀i,i<len->∃o:Ob,∃a0 a1 c0 c1,zpU w b (off+i*7) o a0 a1 c0 c1:=by
   intro i hi;obtain⟨es,n,y,hel,hcell,hy⟩:=hrow i hi;obtain⟨o,a0,a1,c0,c1,rfl,hs⟩:=zmE hy;exact⟨o,a0,a1,c0,c1,hs.small,hs.vals,hs.holds,fun j hj=>by rw[hcell j hj];simp[Ob.row]⟩
  obtain⟨ms,hl,hms⟩:=zb6 len hf;exact⟨_,cap,ms,by rw[hl],⟨by omega,fun _=>⟨b,off,rfl,hb,hms⟩⟩⟩
theorem zoh {fuel:Nat}{cs:List Value}{x:DataW H × List MemPlace}(h:DataW.trod enc Tryz.prog w base spare held fuel 113 cs=some x) :
 ∃(g:Gr) (a:OA) (cap:Nat),cs=(g.cells a cap).toList/\g.Small/\qm w a g.r.vs:=by
 have hlen:cs.length=7:=by
  obtain⟨_,_,_,_,hl,_,_⟩:=DataW.trod_struct Tryz.underlying113 h;rw[hl];exact Tryz.zkb
 match cs,hlen with
 | [c0,c1,c2,c3,c4,c5,c6],_=>
  have hf:=zai Tryz.underlying113 h;obtain⟨_,_,f0⟩:=hf 0 3 0 c0 rfl Tryz.jX rfl;obtain⟨_,_,f1⟩:=hf 1 9 1 c1 rfl Tryz.zT rfl;obtain⟨_,_,f2⟩:=hf 2 9 2 c2 rfl Tryz.zT rfl;obtain⟨_,_,f3⟩:=zpg Tryz.underlying113 h 3 111 3 4 rfl Tryz.zlG;obtain⟨x0,e0,_,_⟩:=DataW.trod_int Tryz.underlying3 f0;obtain⟨x1,e1,_,s1⟩:=DataW.trod_string Tryz.underlying9 f1;obtain⟨x2,e2,_,s2⟩:=DataW.trod_string Tryz.underlying9 f2;obtain⟨r,a,cap,e3,hs,hI⟩:=zpF f3;simp only[List.cons.injEq,and_true]at e0 e1 e2;subst e0 e1 e2;have e3':[c3,c4,c5,c6]=(r.cells a cap).toList:=e3;unfold Rl.cells at e3';simp only[List.cons.injEq,and_true]at e3';obtain⟨e3,e4,e5,e6⟩:=e3';subst e3 e4 e5 e6;exact⟨⟨x0,x1,x2,r⟩,a,cap,rfl,⟨s1,s2,hs⟩,hI⟩
theorem zn0 {fuel:Nat}{cs:List Value}{x:DataW H × List MemPlace}(h:DataW.trod enc Tryz.prog w base spare held fuel 28 cs=some x) :
 ∃a cap ms,cs=[.l a (List.length ms) cap]/\zcj w a ms:=by
 obtain⟨a,len,cap,rfl,hm,hr⟩:=zaY Tryz.underlying28 Tryz.zkb (by omega) h
 rcases Nat.eq_zero_or_pos len with h0|hp
 ·subst h0
  exact⟨a,cap,[],rfl,⟨by simp[maxLen],fun h=>absurd rfl h⟩⟩
 ·obtain⟨b,off,rfl,hb,hrow⟩:=hr hp
  have hf:∀i,i<len->∃g:Gr,∃a0 c0,zq3 w b (off+i*7) g a0 c0:=by
   intro i hi;obtain⟨es,n,y,hel,hcell,hy⟩:=hrow i hi;obtain⟨g,a0,c0,rfl,hs,hI⟩:=zoh hy;exact⟨g,a0,c0,hs,hI,fun j hj=>by rw[hcell j hj];simp⟩
  obtain⟨ms,hl,hms⟩:=zb6 len hf;exact⟨_,cap,ms,by rw[hl],⟨by omega,fun _=>⟨b,off,rfl,hb,hms⟩⟩⟩
theorem zpI {fuel:Nat}{cs:List Value}{x:DataW H × List MemPlace}(h:DataW.trod enc Tryz.prog w base spare held fuel 32 cs=some x) :
 ∃(b:Bk) (a0 a1 a2 a3:OA) (k0 k1 k2 k3:Nat),cs=(b.cells a0 a1 a2 a3 k0 k1 k2 k3).toList/\ji w b a0 a1 a2 a3:=by
 have hlen:cs.length=7:=by
  obtain⟨_,_,_,_,hl,_,_⟩:=DataW.trod_struct Tryz.underlying32 h;rw[hl];exact Tryz.zpM
 match cs,hlen with
 | [c0,c1,c2,c3,c4,c5,c6],_=>
  have hf:=zai Tryz.underlying32 h;obtain⟨_,_,f0⟩:=hf 0 3 0 c0 rfl Tryz.jX rfl;obtain⟨_,_,f1⟩:=hf 1 3 1 c1 rfl Tryz.jX rfl;obtain⟨_,_,f2⟩:=hf 2 3 2 c2 rfl Tryz.jX rfl;obtain⟨_,_,f3⟩:=hf 3 27 3 c3 rfl Tryz.zl4 rfl;obtain⟨_,_,f4⟩:=hf 4 28 4 c4 rfl Tryz.znG rfl;obtain⟨_,_,f5⟩:=hf 5 29 5 c5 rfl Tryz.zms rfl;obtain⟨_,_,f6⟩:=hf 6 30 6 c6 rfl Tryz.znd rfl;obtain⟨x0,e0,_,_⟩:=DataW.trod_int Tryz.underlying3 f0;obtain⟨x1,e1,_,_⟩:=DataW.trod_int Tryz.underlying3 f1;obtain⟨x2,e2,_,_⟩:=DataW.trod_int Tryz.underlying3 f2;obtain⟨a0,k0,os,e3,hO⟩:=zl7 f3;obtain⟨a1,k1,gs,e4,hG⟩:=zn0 f4;obtain⟨a2,k2,ls,e5,hL⟩:=zmu f5;obtain⟨a3,k3,ps,e6,hP⟩:=zni f6;simp only[List.cons.injEq,and_true]at e0 e1 e2 e3 e4 e5 e6;subst e0 e1 e2 e3 e4 e5 e6;exact⟨⟨x0,x1,x2,os,gs,ls,ps⟩,a0,a1,a2,a3,k0,k1,k2,k3,rfl,⟨hO,hG,hL,hP⟩⟩
end
end Go.Proofs.YtcgpjfcocmcodaaGreat
