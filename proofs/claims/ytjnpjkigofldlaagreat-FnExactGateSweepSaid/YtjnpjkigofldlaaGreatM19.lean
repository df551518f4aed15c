import Derived.Test.YtjnpjkigofldlaaGreatM14
import Derived.Test.YtjnpjkigofldlaaGreatM13
import Derived.Deep.Cut
set_option maxRecDepth 20000
set_option maxHeartbeats 4000000
namespace Go.Proofs.YtjnpjkigofldlaaGreat
open Go.RowKit
def isSet (s:BA):Bool:=!s.toList.isEmpty
def zT (m:Mnd):List BA:=[m.wh,m.fr].filter isSet
def turns (m:Mnd)(s:Shp)(p:Nat):Bool:=decide (m.kd=s.kd)&&decide (m.fd=(s.fs.getD p zbz).nm)
theorem zgi (m:Mnd)(w:World) :
 Calls Tryz.prog 214 #[.agg m.cells] w fun e w'=>∃v,e=.returned v/\w'.ownsRow w.heap.size 9 1 v (zT m).length ((zT m).map Value.string)/\Bw w w':=by
 unfold Mnd.cells;obtain⟨i0,hi,hz0,hz1',hz2⟩:=info_parts Tryz.zeB;go_in;go_wp2
 go_loopw [3,12] (fun nv0 iv wr=>∃(k:Nat) (nv:Value),nv=nv0/\k<=2/\iv=.i k/\wr.ownsRow (w.heap.size+2) 9 1 nv (([m.wh,m.fr].take k).filter isSet).length ((([m.wh,m.fr].take k).filter isSet).map Value.string)/\wr.heap[w.heap.size+1]?=some (.cells #[.s m.wh,.s m.fr] 9)/\Bw w wr) (fun _ iv _=>2-(intOf iv).toNat)
 case atStart=>exact⟨0,_,rfl,by omega,rfl,World.ownsRow_nil _ _ _ _,(zK _ _ _).2,zo _ _ _⟩
 case round=>
  obtain⟨k,nv,hnv,hk,rfl,hown,hlit,hB⟩:=hrel;subst hnv
  by_cases hlt:k<2
  ·have hltI:(k:Int)<2:=by omega
   obtain⟨x,hx,HT⟩:∃x,(#[.s m.wh,.s m.fr]:AV)[k]?=some (.s x)/\Hid (([m.wh,m.fr].take (k+1)).filter isSet=([m.wh,m.fr].take k).filter isSet++if isSet x=true then [x] else []):=by
    rcases k with _|_|k
    ·refine⟨m.wh,rfl,?_⟩
     by_cases h:isSet m.wh=true <;> simp[Hid,h]
    ·refine⟨m.fr,rfl,?_⟩
     by_cases h:isSet m.fr=true <;> by_cases h':isSet m.wh=true <;> simp[Hid,h,h']
    ·omega
   have hcx:wr.cell? (aD (w.heap.size+1) k)=some (.s x):=by rw[cell_of_block hlit];exact hx
   have hlen:(([m.wh,m.fr].take k).filter isSet).length<=2:=Nat.le_trans (List.length_filter_le _ _) (by simp;omega);have HB:=zao hlit hB ((gES hlit).1);have HW:=hid hown;clear hlit hB hx hown
   by_cases hs:x.toList.isEmpty=true
   ·have HE:Hid (isSet x=false):=by unfold Hid isSet;rw[hs];rfl
    go_wp2_with fail
    have HT':([m.wh,m.fr].take (k+1)).filter isSet=([m.wh,m.fr].take k).filter isSet:=by rw[HT.o,HE.o];simp
    exact⟨⟨k+1,_,rfl,by omega,by go_num,by rw[HT'];exact HW.o,HB.o.1,HB.o.2.1⟩,zi hlt⟩
   ·have hs':x.toList.isEmpty=false:=by simpa using hs
    have HE:Hid (isSet x=true):=by unfold Hid isSet;rw[hs'];rfl
    clear hs
    go_wp2_with (at_builtin;refine wpList_append_own _ rfl (.tmp 18) (.tmp 20) 98 rfl (w.heap.size+2) 9 i0 (.s ByteArray.empty) 1 16 Tryz.underlying98 hi hz0 hz1' hz2 rfl (by decide) _ _ _ rfl (HW.o.alloc _) (aD wr.heap.size 0) 1 1 [.s x] rfl rfl (zbA _ _ _) (by intro u hu;simp at hu;subst hu;rfl) (by unfold maxLen;omega) (by omega) (by have:=HB.o.2.2;simp;omega) ?_;intro v' w1 hown' hgr _)
    have HT':([m.wh,m.fr].take (k+1)).filter isSet=([m.wh,m.fr].take k).filter isSet++[x]:=by rw[HT.o,HE.o];simp
    have hgb:∀g,nv.ownBlock=some g->w.heap.size+2<=g:=fun g hg=>(HW.o.lt g hg).1
    refine⟨⟨k+1,_,rfl,by omega,by go_num,?_,?_,zar HB.o.2.1 HB.o.2.1.size hgr (fun g hg=>by have:=hgb g hg;omega)⟩,zi hlt⟩
    ·rw[HT',List.length_append,List.map_append];exact hown'
    ·rw[zaT hgr (by have:=HB.o.2.2;simp;omega) (fun g hg=>by have:=hgb g hg;omega),Below.heap_alloc _ _ _ HB.o.2.2];exact HB.o.1
  ·have e:k=2:=by omega
   subst e;have HF:Hid (wr.ownsRow w.heap.size 9 1 nv (zT m).length ((zT m).map Value.string)/\Bw w wr):=⟨jU hown (by omega),hB⟩
   clear hown hlit hB;go_wp2
   go_ret;exact⟨nv,rfl,HF.o⟩
theorem zna (m:Mnd)(s:Shp)(fa:OA)(fcap p:Nat)(w:World)(hf:yw w fa s.fs)(hp:p<s.fs.length) :
 Calls Tryz.prog 219 #[.agg m.cells,.agg #[.s s.kd,.l fa s.fs.length fcap],.i p] w fun e w'=>e=.returned (.bool (turns m s p))/\Bw w w':=by
 unfold Mnd.cells;have hB:∀o1 o2,Bw w ((w.alloc o1).alloc o2):=fun o1 o2=>zo w o1 o2
 have hl:=hf.len;unfold maxLen at hl;obtain⟨b,off,rfl,hb,hr⟩:=hf.rows (by intro e;rw[e]at hp;simp at hp);obtain⟨wa,wcap,hf0⟩:=hr p hp;obtain⟨c0,c1,c2,c3,c4,c5,c6,c7,c8,c9,c10⟩:=hf0.load;have hpI:(p:Int)<(s.fs.length:Int):=by omega
 have HD:Hid ((s.fs.getD p zbz).nm=s.fs[p].nm):=by unfold Hid;rw[getD_at _ _ _ hp]
 clear hf hr hf0 c1 c2 c3 c4 c5 c6 c7 c8 c9 c10
 by_cases h1:m.kd=s.kd
 ·by_cases h2:m.fd=s.fs[p].nm
  ·have HR:Hid (turns m s p=true):=by unfold Hid turns;rw[HD.o];simp[h1,h2]
   have hq:(m.kd.toList == s.kd.toList)=true:=by rw[beq_toList];simpa using h1
   have hr:(m.fd.toList == s.fs[p].nm.toList)=true:=by rw[beq_toList];simpa using h2
   clear h1 h2;go_in;go_wp2_with fail
   go_quiet (fail)
   go_wp2
   go_ret;exact⟨by rw[HR.o];rfl,below_drewN (hB _ _) _⟩
  ·have HR:Hid (turns m s p=false):=by unfold Hid turns;rw[HD.o];simp[h1,h2]
   have hq:(m.kd.toList == s.kd.toList)=true:=by rw[beq_toList];simpa using h1
   have hr:(m.fd.toList == s.fs[p].nm.toList)=false:=by rw[beq_toList];simpa using h2
   clear h1 h2;go_in;go_wp2_with fail
   go_quiet (fail)
   go_wp2
   go_ret;exact⟨by rw[HR.o];rfl,below_drewN (hB _ _) _⟩
 ·have HR:Hid (turns m s p=false):=by unfold Hid turns;rw[HD.o];simp[h1]
  have hq:(m.kd.toList == s.kd.toList)=false:=by rw[beq_toList];simpa using h1
  clear h1;go_in;go_wp2_with fail
  go_quiet (fail)
  go_wp2
  go_ret;exact⟨by rw[HR.o];rfl,below_drewN (hB _ _) _⟩
def yC (s:Shp)(ms:List Mnd)(p:Nat):List Int:=ms.flatMap fun m=>if turns m s p=true then (zT m).map (yh s.fs) else []
theorem zjb (s:Shp)(ms:List Mnd)(p k:Nat)(h:k<ms.length):yC s (ms.take (k+1)) p=yC s (ms.take k) p++if turns ms[k] s p=true then (zT ms[k]).map (yh s.fs) else []:=by
 unfold yC;rw[tSe h,List.flatMap_append]
 simp
theorem zel (m:Mnd):(zT m).length<=2:=List.length_filter_le _ _
theorem ziy (s:Shp)(p:Nat):∀ms:List Mnd,(yC s ms p).length<=ms.length*2
 | []=>Nat.le_refl _
 | m :: ms=>by
  have h1:=ziy s p ms;have h2:=zel m;unfold yC at h1 ⊢;rw[List.flatMap_cons,List.length_append,List.length_cons]
  by_cases h:turns m s p=true
  ·rw[if_pos h,List.length_map];omega
  ·rw[if_neg h,List.length_nil];omega
theorem zqq {w:World}{lo lo':Nat}{e e':TypeId}{v v':Value}{n n':Nat}{xs xs':List Value}(h:w.ownsRow lo e 1 v n xs)(h':w.ownsRow lo' e' 1 v' n' xs')(he:e≠e'):∀g,v.ownBlock=some g->∀g',v'.ownBlock=some g'->g≠g':=by
 intro g hg g' hg' hgg;subst hgg;obtain⟨_,⟨rfl,_⟩|⟨b,cap,cur,rfl,_,hh,_⟩⟩:=h
 ·cases hg
 ·obtain⟨_,⟨rfl,_⟩|⟨b',cap',cur',rfl,_,hh',_⟩⟩:=h'
  ·cases hg'
  ·have e1:b=g:=Option.some.inj hg
   have e2:b'=g:=Option.some.inj hg';rw[e1]at hh;rw[e2,hh]at hh';simp only[Option.some.injEq,Obj.cells.injEq]at hh';exact he hh'.2.1
def ints (l:List Int):List Value:=l.map (Value.int .i64)
theorem zpH (s:Shp)(ms:List Mnd)(p bm bs:Nat)(ma fa:OA)(mcap fcap:Nat)(w:World)(hm:qQ w ma ms)(hf:yw w fa s.fs)(hp:p<s.fs.length)(hl:ms.length<=1048576)
 (hbs:bs<w.heap.size) (hcm:w.cell? (aD bm 0)=some (.l ma ms.length mcap)) (hcs:∀j,w.cell? (aD bs j)=(#[.s s.kd,.l fa s.fs.length fcap]:AV)[j]?) :
 Calls Tryz.prog 218 #[.i p,.pointer (some (aD bm 0)),.pointer (some (aD bs 0))] w fun e w'=>∃v,e=.returned v/\w'.ownsRow w.heap.size 3 1 v (yC s ms p).length (ints (yC s ms p))/\Bw w w':=by
 obtain⟨i0,hi,hz0,hz1',hz2⟩:=info_parts Tryz.zdo;have HM:=hid hm;have HF:=hid hf;clear hm hf;go_in;go_wp2
 go_loopw [5,12] (fun v0 iv wr=>∃(k:Nat) (v:Value),v=v0/\k<=ms.length/\iv=.i k/\wr.ownsRow w.heap.size 3 1 v (yC s (ms.take k) p).length (ints (yC s (ms.take k) p))/\Bw w wr) (fun _ iv _=>ms.length-(intOf iv).toNat)
 case atStart=>exact⟨0,_,rfl,Nat.zero_le _,rfl,World.ownsRow_nil _ _ _ _,bRf _ _⟩
 case round=>
  obtain⟨k,v,hv,hk,rfl,hown,hB⟩:=hrel;subst hv
  by_cases hlt:k<ms.length
  ·obtain⟨b,off,rfl,hb,c0,c1,c2,c3,c4,c5⟩:=HM.o.load hB k hlt
   have hltI:(k:Int)<(ms.length:Int):=by omega
   have hbw:=nLt hb hB.size;have hcsr:=za hcs hbs hB;have hbsr:=nLt hbs hB.size;have HW:=hid hown;have HB:=hid hB;clear hown hB;go_wp2_with fail
   have hba:=(bRf wr.heap.size wr).alloc (Nat.le_refl _) (.cells #[.s ms[k].kd,.s ms[k].fd,.s ms[k].wh,.s ms[k].wi,.s ms[k].pt,.s ms[k].fr] 132);have ht:=zna ms[k] s fa fcap p (wr.alloc (.cells #[.s ms[k].kd,.s ms[k].fd,.s ms[k].wh,.s ms[k].wi,.s ms[k].pt,.s ms[k].fr] 132)) (HF.o.mono (HB.o.trans (hba.mono HB.o.size))) hp
   by_cases htt:turns ms[k] s p=true
   ·have HS:Hid (yC s (ms.take (k+1)) p=yC s (ms.take k) p++(zT ms[k]).map (yh s.fs)):=by unfold Hid;rw[zjb s ms p k hlt,if_pos htt]
    rw[htt]at ht;refine ht.mono ?_;rintro e w1⟨rfl,hb1⟩;have hX1:=za (zI wr _ _) (by simp) hb1;have HB1:=hid (hba.trans (hb1.mono hba.size));have hz1:wr.heap.size<w1.heap.size:=by have:=hb1.size;simp at this;omega
    have hcs1:=za hcsr hbsr HB1.o;clear ht hba hb1 c0 c1 c2 c3 c4 c5;go_wp2_with fail
    refine(zgi ms[k] w1).mono ?_;rintro e w2⟨nv,rfl,hn,hb2⟩;obtain⟨na,ncap,rfl⟩:=yY hn;have HN2:=hid hn;have HB2:=hid (HB1.o.trans (hb2.mono HB1.o.size));have HW2:Hid (w2.ownsRow w.heap.size 3 1 v (yC s (ms.take k) p).length (ints (yC s (ms.take k) p))):=yc HW.o HB2.o;have HNL:Hid ((zT ms[k]).length<=2):=zel _;have HRL:Hid ((yC s (ms.take k) p).length<=2097152):=by have h1:=ziy s p (ms.take k);rw[List.length_take]at h1;show _<=_;omega
    have hcs2:=za hcs1 (Nat.lt_trans hbsr hz1) hb2;clear hn hb2 hX1 hcs1 hcsr
    revert HS HN2 HNL
    generalize zT ms[k]=names
    intro HS HN2 HNL;go_wp2_with fail
    have hszw:=HB2.o.size
    go_loopw [5,24] (fun v0 iv wq=>∃(j:Nat) (v1:Value),v1=v0/\j<=names.length/\iv=.i j/\wq.ownsRow w.heap.size 3 1 v1 ((yC s (ms.take k) p)++(names.take j).map (yh s.fs)).length (ints ((yC s (ms.take k) p)++(names.take j).map (yh s.fs)))/\wq.ownsRow w1.heap.size 9 1 (.l na names.length ncap) names.length (names.map Value.string)/\Bw w wq) (fun _ iv _=>names.length-(intOf iv).toNat)
    case atStart=>exact⟨0,_,rfl,Nat.zero_le _,rfl,by simpa using HW2.o,HN2.o,HB.o.trans (HB2.o.mono HB.o.size)⟩
    case round=>
     obtain⟨j,v1,hv1,hj,rfl,hown,hnames,hB⟩:=hrel;subst hv1
     by_cases hjl:j<names.length
     ·obtain⟨g,rfl,hcell⟩:∃g,na=some (aD g 0)/\wr.cell? (aD g j)=some (.s names[j]):=by
       obtain⟨_,⟨h0,h1⟩|⟨g,cap,cur,h0,h1⟩⟩:=id hnames
       ·rw[h1]at hjl;exact absurd hjl (by omega)
       ·cases h0
        refine⟨g,rfl,?_⟩;rw[hnames.cellAt j (by omega)]
        simp[hjl]
      have hjI:(j:Int)<(names.length:Int):=by omega
      have hcsr:=za hcs hbs hB;have hbsr':=nLt hbs hB.size;have HX:=zao hown hnames hB;have HTK:Hid ((names.take (j+1)).map (yh s.fs)=(names.take j).map (yh s.fs)++[yh s.fs names[j]]):=by unfold Hid;rw[tSe hjl,List.map_append];rfl
      have HLL:Hid (((yC s (ms.take k) p)++(names.take j).map (yh s.fs)).length<=2097156):=by have h1:=HRL.o;have h2:=HNL.o;show _<=_;rw[List.length_append,List.length_map,List.length_take];omega
      clear hown hnames hB;go_wp2_with fail
      refine(jd fa fcap s.fs names[j] wr (HF.o.mono HX.o.2.2)).mono ?_;rintro e w3⟨rfl,hb3⟩;have HB3:=hid hb3;have HX3:=zao (yc HX.o.1 hb3) (yc HX.o.2.1 hb3) (HX.o.2.2.trans (hb3.mono HX.o.2.2.size));clear hb3 hcell hcsr
      go_wp2_with (at_builtin;refine wpList_append_own _ rfl (.tmp 28) (.tmp 33) 71 rfl w.heap.size 3 i0 (.i 0) 1 8 Tryz.underlying71 hi hz0 hz1' hz2 rfl (by decide) _ _ _ rfl (HX3.o.1.alloc _) (aD w3.heap.size 0) 1 1 [.i (yh s.fs names[j])] rfl rfl (zbA _ _ _) (by intro u hu;simp at hu;subst hu;rfl) (by have:=HLL.o;unfold maxLen;omega) (by have:=HLL.o;omega) (by have:=HX3.o.2.2.size;simp;omega) ?_;intro v' w4 hown' hgr _)
      have hgb:∀g',v1.ownBlock=some g'->w.heap.size<=g':=fun g' hg'=>(HX3.o.1.lt g' hg').1
      have hap:=zqq HX3.o.1 HX3.o.2.1 (by decide);refine⟨⟨j+1,_,rfl,by omega,by rw[wrap_one (by have:=HNL.o;omega)],?_,?_,zar HX3.o.2.2 HX3.o.2.2.size hgr hgb⟩,yO hjl (by have:=HNL.o;omega)⟩
      ·rw[HTK.o,<- List.append_assoc,List.length_append]
       have e1:ints ((yC s (ms.take k) p++(names.take j).map (yh s.fs))++[yh s.fs names[j]])=ints (yC s (ms.take k) p++(names.take j).map (yh s.fs))++[.i (yh s.fs names[j])]:=by simp[ints]
       rw[e1];exact hown'
      ·refine q9 HX3.o.2.1 (fun g' hg'=>?_)
       rw[zaT hgr (by have:=(HX3.o.2.1.lt g' hg').2;simp;omega) (fun q hq=>fun e=>hap q hq g' hg' e.symm),Below.heap_alloc _ _ _ (HX3.o.2.1.lt g' hg').2]
     ·have e:j=names.length:=by omega
      subst e;rw[tOl (Nat.le_refl _),<- HS.o]at hown;have HX:=yB hown hB;clear hown hnames hB;go_wp2
      exact⟨⟨k+1,_,rfl,by omega,by go_num,HX.o.1,HX.o.2⟩,zi hlt⟩
   ·have htf:turns ms[k] s p=false:=by simpa using htt
    have HS:Hid (yC s (ms.take (k+1)) p=yC s (ms.take k) p):=by unfold Hid;rw[zjb s ms p k hlt,if_neg htt];simp
    rw[htf]at ht;refine ht.mono ?_;rintro e w1⟨rfl,hb1⟩;have HB1:=hid (hba.trans (hb1.mono hba.size));clear ht hba hb1;go_wp2
    exact⟨⟨k+1,_,rfl,by omega,by go_num,by rw[HS.o];exact yc HW.o HB1.o,HB.o.trans (HB1.o.mono HB.o.size)⟩,zi hlt⟩
  ·have e:k=ms.length:=by omega
   subst e;rw[tOl (Nat.le_refl _)]at hown;have HW:=yB hown hB;clear hown hB;go_wp2
   go_ret;exact⟨v,rfl,HW.o⟩
theorem zqz (nm:BA)(ls ms:Int)(a:OA)(n cap:Nat)(to:BA)(rl:Int)(mu fx:Bool)(df wg:BA)(w:World) :
 Calls Tryz.prog 233 #[.agg #[.s nm,.i 1,.i ls,.i ms,.l a n cap,.s to,.i rl,.bool mu,.bool fx,.s df,.s wg]] w fun e w'=>e=.returned (.bool (jq 1 ls ms n to rl wg))/\Bw w w':=by
 go_in
 go_wp2
 all_goals
  go_ret;refine⟨ze ?_,bAl _ _⟩
  simp_all [jq]
  try first|omega|(intros;omega)|(rw[Bool.eq_iff_iff];simp)
theorem zrk (nm:BA)(ls ms:Int)(a:OA)(n cap:Nat)(to:BA)(rl:Int)(mu fx:Bool)(df wg:BA)(w:World) :
 Calls Tryz.prog 233 #[.agg #[.s nm,.i 2,.i ls,.i ms,.l a n cap,.s to,.i rl,.bool mu,.bool fx,.s df,.s wg]] w fun e w'=>e=.returned (.bool (jq 2 ls ms n to rl wg))/\Bw w w':=by
 go_in
 go_wp2
 all_goals
  go_ret;refine⟨ze ?_,bAl _ _⟩
  simp_all [jq]
  try first|omega|(intros;omega)|(rw[Bool.eq_iff_iff];simp)
theorem zqF (nm:BA)(ls ms:Int)(a:OA)(n cap:Nat)(to:BA)(rl:Int)(mu fx:Bool)(df wg:BA)(w:World) :
 Calls Tryz.prog 233 #[.agg #[.s nm,.i 3,.i ls,.i ms,.l a n cap,.s to,.i rl,.bool mu,.bool fx,.s df,.s wg]] w fun e w'=>e=.returned (.bool (jq 3 ls ms n to rl wg))/\Bw w w':=by
 go_in
 go_wp2
 all_goals
  go_ret;refine⟨ze ?_,bAl _ _⟩
  simp_all [jq]
  try first|omega|(intros;omega)|(rw[Bool.eq_iff_iff];simp)
theorem zqA (nm:BA)(ls ms:Int)(a:OA)(n cap:Nat)(to:BA)(rl:Int)(mu fx:Bool)(df wg:BA)(w:World) :
 Calls Tryz.prog 233 #[.agg #[.s nm,.i 4,.i ls,.i ms,.l a n cap,.s to,.i rl,.bool mu,.bool fx,.s df,.s wg]] w fun e w'=>e=.returned (.bool (jq 4 ls ms n to rl wg))/\Bw w w':=by
 go_in
 go_wp2
 all_goals
  go_ret;refine⟨ze ?_,bAl _ _⟩
  simp_all [jq]
  try first|omega|(intros;omega)|(rw[Bool.eq_iff_iff];simp)
theorem zkr (nm:BA)(kd ls ms:Int)(a:OA)(n cap:Nat)(to:BA)(rl:Int)(mu fx:Bool)(df wg:BA)(w:World)(h1:kd≠1)(h2:kd≠2)(h3:kd≠3)(h4:kd≠4) :
 Calls Tryz.prog 233 #[.agg #[.s nm,.i kd,.i ls,.i ms,.l a n cap,.s to,.i rl,.bool mu,.bool fx,.s df,.s wg]] w fun e w'=>∃b,e=.returned (.bool b)/\Bw w w':=by
 have e1:(kd == 1)=false:=by simpa using h1
 have e2:(kd == 2)=false:=by simpa using h2
 have e3:(kd == 3)=false:=by simpa using h3
 have e4:(kd == 4)=false:=by simpa using h4
 have n1:(kd != 1)=true:=by simpa using h1
 have n2:(kd != 2)=true:=by simpa using h2
 clear h1 h2 h3 h4;go_in
 go_wp2
 all_goals
  go_ret;exact⟨_,rfl,bAl _ _⟩
theorem zgp (a0:OA)(cap0:Nat)(ss:List Shp)(nm:BA)(kd ls ms:Int)(a:OA)(cap:Nat)(ws:List BA)(to:BA)(rl:Int)(mu fx:Bool)(df wg:BA)(w:World)(hnm:nm.size<=maxLen)(hdf:df.size<=maxLen)(hwg:wg.size<=maxLen)(hws:zD w a ws)(hss:yU w a0 ss) :
 Calls Tryz.prog 202 #[.l a0 ss.length cap0,.agg #[.s nm,.i kd,.i ls,.i ms,.l a ws.length cap,.s to,.i rl,.bool mu,.bool fx,.s df,.s wg]] w
  fun e w'=>e=.returned (.bool (zC nm&&zau ss ⟨nm,kd,ls,ms,ws,to,rl,mu,fx,df,wg⟩))/\Bw w w':=by
 obtain⟨so,hso⟩:=xN (qE ss ⟨nm,kd,ls,ms,ws,to,rl,mu,fx,df,wg⟩);obtain⟨res,hres⟩:=xN ((zC nm&&zau ss ⟨nm,kd,ls,ms,ws,to,rl,mu,fx,df,wg⟩));have HO:Hid (res=(zC nm&&(jq kd ls ms ws.length to rl wg&&so&&(df.toList.isEmpty||fits kd ls ms ws df)))):=by rw[Hid,hres,hso];rfl
 have HSo:=hid hso;have HH:=yB hws hss
 have HBr:Hid (∀W,Calls Tryz.prog 233 #[.agg #[.s nm,.i kd,.i ls,.i ms,.l a ws.length cap,.s to,.i rl,.bool mu,.bool fx,.s df,.s wg]] W fun e w'=>∃bb,e=.returned (.bool bb)/\(so=true->bb=jq kd ls ms ws.length to rl wg)/\Bw W w'):=fun W=>by
  by_cases h1:kd=1
  ·subst h1;exact(zqz _ _ _ _ _ _ _ _ _ _ _ _ _).mono fun _ _ h=>⟨_,h.1,fun _=>rfl,h.2⟩
  by_cases h2:kd=2
  ·subst h2;exact(zrk _ _ _ _ _ _ _ _ _ _ _ _ _).mono fun _ _ h=>⟨_,h.1,fun _=>rfl,h.2⟩
  by_cases h3:kd=3
  ·subst h3;exact(zqF _ _ _ _ _ _ _ _ _ _ _ _ _).mono fun _ _ h=>⟨_,h.1,fun _=>rfl,h.2⟩
  by_cases h4:kd=4
  ·subst h4;exact(zqA _ _ _ _ _ _ _ _ _ _ _ _ _).mono fun _ _ h=>⟨_,h.1,fun _=>rfl,h.2⟩
  refine(zkr _ _ _ _ _ _ _ _ _ _ _ _ _ _ h1 h2 h3 h4).mono fun _ _ h=>?_
  obtain⟨bb,he,hb⟩:=h;exact⟨bb,he,fun h=>by rw[hso]at h;simp[qE,h1,h2,h3,h4]at h,hb⟩
 have hl:=hws.len;unfold maxLen at hl;have hba:=(bRf w.heap.size w).alloc (Nat.le_refl _) (.cells #[.s nm,.i kd,.i ls,.i ms,.l a ws.length cap,.s to,.i rl,.bool mu,.bool fx,.s df,.s wg] 183);have kX:=zI w #[.s nm,.i kd,.i ls,.i ms,.l a ws.length cap,.s to,.i rl,.bool mu,.bool fx,.s df,.s wg] 183;rw[<- hres];clear hws hss hso hres;go_in
 go_upto_region 1 with fail
 obtain⟨W0,hW0⟩:=xN (w.alloc (.cells #[.s nm,.i kd,.i ls,.i ms,.l a ws.length cap,.s to,.i rl,.bool mu,.bool fx,.s df,.s wg] 183));have hz0:w.heap.size<W0.heap.size:=by rw[hW0];simp
 rw[<- hW0]at hba kX ⊢;clear hW0;have HS:Hid (∀W,Bw W0 W->(∀j,W.cell? (aD w.heap.size j)=(#[.s nm,.i kd,.i ls,.i ms,.l a ws.length cap,.s to,.i rl,.bool mu,.bool fx,.s df,.s wg]:AV)[j]?)/\w.heap.size<W.heap.size/\Bw w W):=fun W hW=>⟨za kX hz0 hW,nLt hz0 hW.size,hba.trans (hW.mono hba.size)⟩
 clear hba kX;refine zca (fun A A' w'=>∃u5 u6 u7 u8 u9 u10 u11 u12 u13 u14 u15 u16 u17 u18 u19 u20 u21 u22 u23 u24 t,A'=(((((((((((((((((((((A.put (some 5) u5).put (some 6) u6).put (some 7) u7).put (some 8) u8).put (some 9) u9).put (some 10) u10).put (some 11) u11).put (some 12) u12).put (some 13) u13).put (some 14) u14).put (some 15) u15).put (some 16) u16).put (some 17) u17).put (some 18) u18).put (some 19) u19).put (some 20) u20).put (some 21) u21).put (some 22) u22).put (some 23) u23).put (some 24) u24).put (some 25) (.bool t))/\Hid (res=(!t&&so)/\Bw W0 w')) ?_ ?_
 ·have cX:=(HS.o W0 (bRf _ _)).1
  go_wp2_with fail
  refine(yg _ _ hnm).mono ?_;rintro e w1⟨rfl,rfl⟩
  cases hn:zC nm with
  | false=>
   have HR:Hid (res=(!true&&so)):=by rw[Hid,HO.o,hn];rfl
   go_wp2_with fail
   exact⟨HR.o,bRf _ _⟩
  | true=>
   go_wp2_with fail
   refine(HBr.o _).mono ?_;rintro e w2⟨bb,rfl,hbb,hb2⟩;have HB2:=yB hbb hb2;clear hbb hb2 cX;obtain⟨cX,hz2,hB2⟩:=HS.o w2 HB2.o.2
   cases bb with
   | false=>
    have HR:Hid (res=(!true&&so)):=by
     rw[Hid,HO.o,hn]
     cases so with
     | false=>simp
     | true=>rw[<- HB2.o.1 rfl];rfl
    go_wp2_with fail
    exact⟨HR.o,HB2.o.2⟩
   | true=>
    have HE:Hid (res=(so&&(df.toList.isEmpty||fits kd ls ms ws df))):=by
     rw[Hid,HO.o,hn]
     cases so with
     | false=>simp
     | true=>rw[<- HB2.o.1 rfl];rfl
    cases hd:df.toList.isEmpty with
    | true=>
     have HR:Hid (res=(!false&&so)):=by rw[Hid,HE.o,hd];simp
     go_wp2_with fail
     exact⟨HR.o,HB2.o.2⟩
    | false=>
     go_wp2_with fail
     refine(zeL _ _ _ _ _ _ _ _ _ _ _ _ _ _ _ hdf (HH.o.1.mono hB2)).mono ?_;rintro e w3⟨rfl,hb3⟩;have HB3:=hid (HB2.o.2.trans (hb3.mono HB2.o.2.size));have HR:Hid (res=(!(!(fits kd ls ms ws df))&&so)):=by rw[Hid,HE.o,hd];simp[Bool.and_comm]
     clear hb3 cX
     cases hf:fits kd ls ms ws df with
     | true=>
      rw[hf]at HR;go_wp2_with fail
      exact⟨HR.o,HB3.o⟩
     | false=>
      rw[hf]at HR;go_wp2_with fail
      exact⟨HR.o,HB3.o⟩
 rintro A' w3⟨u5,u6,u7,u8,u9,u10,u11,u12,u13,u14,u15,u16,u17,u18,u19,u20,u21,u22,u23,u24,t,rfl,H3⟩;obtain⟨cX,hz3,hB3⟩:=HS.o w3 H3.o.2
 (try simp only[Act.put,sA,s0,sS])
 cases t with
 | true=>
  go_wp2
  go_ret;exact⟨ze (by rw[H3.o.1];rfl),hB3⟩
 | false=>
 have HR:Hid (res=so):=by rw[Hid,H3.o.1];simp
 have HB3:=hid hB3
 by_cases h1:kd=1
 ·have e1:(kd == 1)=true:=by simp[h1]
  have HE:Hid (so=(jO ls ms 0 1000000&&(wg.toList.isEmpty||zC wg))):=by rw[Hid,HSo.o];simp[qE,h1]
  clear h1
  go_wp2_with (go_at_call 122;refine(yg _ _ hwg).mono ?_;rintro e w5⟨rfl,rfl⟩)
  all_goals
   go_ret;refine⟨ze ?_,HB3.o⟩;rw[HR.o,HE.o];clear HS HBr cX
   simp_all [jO]
   try omega
 have e1:(kd == 1)=false:=by simp[h1]
 by_cases h2:kd=2
 ·have e2:(kd == 2)=true:=by simp[h2]
  have HE:Hid (so=(decide (1<=ws.length)&&decide (ws.length<=6)&&asc ws)):=by rw[Hid,HSo.o];simp[qE,h2]
  clear h1 h2;go_wp2_with fail
  by_cases h16:1<=ws.length/\ws.length<=6
  ·refine(zdb _ _ _ _ (by omega) (by omega)).mono ?_
   rintro e w5⟨rfl,rfl⟩;go_wp2_with fail
   refine(ze5 _ _ _ _ (HH.o.1.mono HB3.o)).mono ?_;rintro e w6⟨rfl,nd,rfl⟩;go_wp2
   go_ret;exact⟨ze (by rw[HR.o,HE.o,decide_eq_true h16.1,decide_eq_true h16.2];rfl),below_drewN HB3.o _⟩
  ·refine(zfU _ _ _ _ (by omega)).mono ?_
   rintro e w5⟨rfl,rfl⟩;have HN:Hid ((decide (1<=ws.length)&&decide (ws.length<=6))=false):=by rw[Hid,Bool.eq_false_iff];simp;omega
   go_wp2
   go_ret;exact⟨ze (by rw[HR.o,HE.o,HN.o];rfl),HB3.o⟩
 have e2:(kd == 2)=false:=by simp[h2]
 by_cases h3:kd=3
 ·have e3:(kd == 3)=true:=by simp[h3]
  have HE:Hid (so=jO ls ms 1 40):=by rw[Hid,HSo.o];simp[qE,h3]
  clear h1 h2 h3;go_wp2_with fail
  all_goals
   go_ret;refine⟨ze ?_,HB3.o⟩;rw[HR.o,HE.o];clear HS HBr cX
   simp_all [jO]
   try omega
 have e3:(kd == 3)=false:=by simp[h3]
 by_cases h4:kd=4
 ·have e4:(kd == 4)=true:=by simp[h4]
  have HE:Hid (so=(zF ss to&&(decide (1<=rl)&&decide (rl<=3))&&df.toList.isEmpty&&(decide (rl≠2)||!mu))):=by rw[Hid,HSo.o];simp[qE,h4]
  clear h1 h2 h3 h4;go_wp2_with fail
  cases hk:zF ss to with
  | false=>
   refine(zgS _ _ _ _ _ (HH.o.2.mono HB3.o) hk).mono ?_;rintro e w5⟨rfl,rfl⟩;go_wp2
   go_ret;exact⟨ze (by rw[HR.o,HE.o,hk];rfl),HB3.o⟩
  | true=>
   refine(zbx _ _ _ _ _ (HH.o.2.mono HB3.o) hk).mono ?_;rintro e w5⟨ix,hix,rfl,_,rfl⟩;have hix0:(0:Int)<=(ix:Int):=by omega
   go_wp2_with fail
   by_cases h13:1<=rl/\rl<=3
   ·have HT:Hid ((decide (1<=rl)&&decide (rl<=3))=true):=by unfold Hid;simp;omega
    refine(zdb _ _ _ _ h13.1 h13.2).mono ?_;rintro e w6⟨rfl,rfl⟩
    cases hd:df.toList.isEmpty with
    | false=>
     go_wp2
     go_ret;exact⟨ze (by rw[HR.o,HE.o,hd];simp),HB3.o⟩
    | true=>
     cases e5:(rl != 2) with
     | false=>
      have HN:Hid (decide (rl≠2)=false):=by rw[Hid];simpa using e5
      go_wp2
      go_ret;exact⟨ze (by rw[HR.o,HE.o,hk,HT.o,hd,HN.o];simp),HB3.o⟩
     | true=>
      have HN:Hid (decide (rl≠2)=true):=by rw[Hid];simpa using e5
      go_wp2
      go_ret;exact⟨ze (by rw[HR.o,HE.o,hk,HT.o,hd,HN.o];simp),HB3.o⟩
   ·refine(zfU _ _ _ _ h13).mono ?_
    rintro e w6⟨rfl,rfl⟩;have HT:Hid ((decide (1<=rl)&&decide (rl<=3))=false):=by unfold Hid;rw[Bool.eq_false_iff];simp;omega
    go_wp2
    go_ret;exact⟨ze (by rw[HR.o,HE.o,HT.o];simp),HB3.o⟩
 have e4:(kd == 4)=false:=by simp[h4]
 have HE:Hid (so=false):=by rw[Hid,HSo.o];simp[qE,h1,h2,h3,h4]
 go_wp2
 go_ret;exact⟨ze (by rw[HR.o,HE.o]),HB3.o⟩
end Go.Proofs.YtjnpjkigofldlaaGreat
