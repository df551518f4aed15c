import Derived.Test.YtkficnallnpjnaaGreatM20
import Derived.Test.YtkficnallnpjnaaGreatM19
import Derived.Test.YtkficnallnpjnaaGreatM21
set_option maxHeartbeats 4000000
namespace Go.Proofs.YtkficnallnpjnaaGreat
open Go.RowKit
theorem zev (g n cap:Nat)(C:Array Value)(k:Nat)(w:World)(hC:w.heap[g]?=some (.cells C 9))(hn:n<=C.size)(hns:∀i,i<n->∀a m c,C[i]?≠some (Value.slice a m c))(hk:0<k)(hkn:k+n<9000000000000000000) :
 Calls Tryz.prog 93 #[.slice (some ⟨g,0,none⟩) n cap,.int .i64 k] w fun e w'=>e=.returned (.int .i64 ((k+n:Nat):Int))/\Marked g (g+1) w w'/\∃C',w'.heap[g]?=some (.cells C' 9)/\C'.size=C.size/\∀i,i<n->C'[i]?=some (.string (zaz (k+i))):=by
 have HS:=hid hns;have HC:=hid hC;have HN:=hid hn;have HKN:=hid hkn;clear hns hC hn hkn;go_enter Tryz.func93,Tryz.ntmps93;go_wp2_with fail
 go_loopw [1,5] (fun kv iv wr=>∃i:Nat,i<=n/\kv=.int .i64 ((k+i:Nat):Int)/\iv=.int .i64 i/\Marked g (g+1) w wr/\∃C',wr.heap[g]?=some (.cells C' 9)/\C'.size=C.size/\∀j,j<i->C'[j]?=some (.string (zaz (k+j)))) (fun _ iv _=>n-(intOf iv).toNat)
 case atStart=>exact⟨0,Nat.zero_le _,by simp,rfl,Marked.refl _ _ _,C,HC.out,rfl,fun j h=>absurd h (by omega)⟩
 case round=>
  obtain⟨i,hi,rfl,rfl,hM,C',hC',hs',hc'⟩:=hrel
  by_cases hlt:i<n
  ·have hkn:=HKN.out
   have hltI:(i:Int)<(n:Int):=by omega
   have HX:=zbJ hM hC' hs' hc';have hglt:=(gES hC').1;clear hM hC' hs' hc' hkn;go_wp2_with fail
   rw[<- Int.natCast_add];refine(zcv (k+i) _ (by omega) (by have:=HKN.out;omega)).mono ?_;rintro e w1⟨rfl,hb1⟩;have hC1:w1.heap[g]?=some (.cells C' 9):=(hb1.block g hglt).trans HX.out.2.1;have hi1:i<C'.size:=by have h1:=HX.out.2.2.1;have h2:=HN.out;omega
   have hcell:w1.cell? ⟨g,i,none⟩=some C'[i]:=by rw[cell_of_block hC1];exact Array.getElem?_eq_getElem hi1
   have hfz:w1.frozen? ⟨g,i,none⟩=false:=zh hC1;have HC1:=hid hC1;have HM1:=hid (HX.out.1.trans (Marked.of_below hb1));have HR:Hid (wrap64 ((k:Int)+i+1)=((k+(i+1):Nat):Int)):=by have:=HKN.out;rw[Hid,zy _ ⟨by omega,by omega⟩];omega
   clear hb1 hC1;go_wp2_with fail
   go_roundw
   case rel=>
    refine⟨i+1,by omega,?_,by rw[wrap_one (by have:=HKN.out;omega)],?_,C'.setIfInBounds i (.string (zaz (k+i))),zi HC1.out _,by simp[HX.out.2.2.1],fun j hj=>?_⟩
    ·rw[HR.out]
    ·exact HM1.out.put (Nat.le_refl _) (Nat.lt_succ_self _) HC.out (HS.out i hlt) _ (fun _ _ _ h=>by cases h)
    ·by_cases e:j=i
     ·subst e;rw[Array.getElem?_setIfInBounds_self_of_lt hi1]
     ·rw[Array.getElem?_setIfInBounds_ne (fun h=>e h.symm)];exact HX.out.2.2.2 j (by omega)
   case measure=>
    have hkn:=HKN.out;exact yP hlt (by omega)
  ·have e:i=n:=by omega
   have HX:Hid (Marked g (g+1) w wr/\∃C',wr.heap[g]?=some (.cells C' 9)/\C'.size=C.size/\∀j,j<n->C'[j]?=some (.string (zaz (k+j)))):=⟨hM,C',hC',hs',by rw[<- e];exact hc'⟩
   clear hM hC' hs' hc';subst e;go_wp2_with fail
   go_ret;exact⟨rfl,HX.out⟩
theorem zg5 (k:Int)(a:Option Addr)(cap:Nat)(w:World) :
 Calls Tryz.prog 93 #[.slice a 0 cap,.int .i64 k] w fun e w'=>e=.returned (.int .i64 k)/\w'=w:=by
 go_enter Tryz.func93,Tryz.ntmps93;go_wp2_with fail
 go_loopw [1,5] (fun kv iv wr=>kv=.int .i64 k/\iv=.int .i64 0/\wr=w) (fun _ _ _=>0)
 case atStart=>exact⟨rfl,rfl,rfl⟩
 case round=>
  obtain⟨rfl,rfl,rfl⟩:=hrel;go_wp2_with fail
  go_ret;exact⟨rfl,rfl⟩
def yw (s:Shp)(ms:List Mnd)(p:Nat):List Int:=ms.flatMap fun m=>if turns m s p=true then (zP m).map (zR s.fs) else []
theorem zh7 (s:Shp)(ms:List Mnd)(p k:Nat)(h:k<ms.length):yw s (ms.take (k+1)) p=yw s (ms.take k) p++if turns ms[k] s p=true then (zP ms[k]).map (zR s.fs) else []:=by
 unfold yw;rw[tSe h,List.flatMap_append]
 simp
theorem zdX (m:Mnd):(zP m).length<=2:=List.length_filter_le _ _
theorem zhs (s:Shp)(p:Nat):∀ms:List Mnd,(yw s ms p).length<=ms.length*2
 | []=>Nat.le_refl _
 | m :: ms=>by
  have h1:=zhs s p ms;have h2:=zdX m;unfold yw at h1 ⊢;rw[List.flatMap_cons,List.length_append,List.length_cons]
  by_cases h:turns m s p=true
  ·rw[if_pos h,List.length_map];omega
  ·rw[if_neg h,List.length_nil];omega
theorem zoa {w:World}{lo lo':Nat}{e e':TypeId}{v v':Value}{n n':Nat}{xs xs':List Value}(h:w.ownsRow lo e 1 v n xs)(h':w.ownsRow lo' e' 1 v' n' xs')(he:e≠e'):∀g,v.ownBlock=some g->∀g',v'.ownBlock=some g'->g≠g':=by
 intro g hg g' hg' hgg;subst hgg;obtain⟨_,⟨rfl,_⟩|⟨b,cap,cur,rfl,_,hh,_⟩⟩:=h
 ·cases hg
 ·obtain⟨_,⟨rfl,_⟩|⟨b',cap',cur',rfl,_,hh',_⟩⟩:=h'
  ·cases hg'
  ·have e1:b=g:=Option.some.inj hg
   have e2:b'=g:=Option.some.inj hg';rw[e1]at hh;rw[e2,hh]at hh';simp only[Option.some.injEq,Obj.cells.injEq]at hh';exact he hh'.2.1
def ints (l:List Int):List Value:=l.map (Value.int .i64)
set_option maxRecDepth 20000 in
theorem zmO (s:Shp)(ms:List Mnd)(p bm bs:Nat)(ma fa:Option Addr)(mcap fcap:Nat)(w:World)(hm:qK w ma ms)(hf:yc w fa s.fs)(hp:p<s.fs.length)(hl:ms.length<=1048576)
 (hbs:bs<w.heap.size) (hcm:w.cell? ⟨bm,0,none⟩=some (.slice ma ms.length mcap)) (hcs:∀j,w.cell? ⟨bs,j,none⟩=(#[.string s.kd,.slice fa s.fs.length fcap]:Array Value)[j]?) :
 Calls Tryz.prog 195 #[.int .i64 p,.pointer (some ⟨bm,0,none⟩),.pointer (some ⟨bs,0,none⟩)] w fun e w'=>∃v,e=.returned v/\w'.ownsRow w.heap.size 3 1 v (yw s ms p).length (ints (yw s ms p))/\Below w.heap.size w w':=by
 obtain⟨i0,hi,hz0,hz1',hz2⟩:=info_parts Tryz.zgE;have HM:=hid hm;have HF:=hid hf;clear hm hf;go_enter Tryz.func195,Tryz.ntmps195;go_wp2_with fail
 go_loopw [5,12] (fun v0 iv wr=>∃(k:Nat) (v:Value),v=v0/\k<=ms.length/\iv=.int .i64 k/\wr.ownsRow w.heap.size 3 1 v (yw s (ms.take k) p).length (ints (yw s (ms.take k) p))/\Below w.heap.size w wr) (fun _ iv _=>ms.length-(intOf iv).toNat)
 case atStart=>exact⟨0,_,rfl,Nat.zero_le _,rfl,World.ownsRow_nil _ _ _ _,bRf _ _⟩
 case round=>
  obtain⟨k,v,hv,hk,rfl,hown,hB⟩:=hrel;subst hv
  by_cases hlt:k<ms.length
  ·obtain⟨b,off,rfl,hb,c0,c1,c2,c3,c4,c5⟩:=HM.out.load hB k hlt
   have hltI:(k:Int)<(ms.length:Int):=by omega
   have hbw:=nLt hb hB.size;have hcsr:=za hcs hbs hB;have hbsr:=nLt hbs hB.size;have HW:=hid hown;have HB:=hid hB;clear hown hB;go_wp2_with fail
   have hba:=(bRf wr.heap.size wr).alloc (Nat.le_refl _) (.cells #[.string ms[k].kd,.string ms[k].fd,.string ms[k].wh,.string ms[k].wi,.string ms[k].pt,.string ms[k].fr] 130);have ht:=zld ms[k] s fa fcap p (wr.alloc (.cells #[.string ms[k].kd,.string ms[k].fd,.string ms[k].wh,.string ms[k].wi,.string ms[k].pt,.string ms[k].fr] 130)) (HF.out.mono (HB.out.trans (hba.mono HB.out.size))) hp
   by_cases htt:turns ms[k] s p=true
   ·have HS:Hid (yw s (ms.take (k+1)) p=yw s (ms.take k) p++(zP ms[k]).map (zR s.fs)):=by unfold Hid;rw[zh7 s ms p k hlt,if_pos htt]
    rw[htt]at ht;refine ht.mono ?_;rintro e w1⟨rfl,hb1⟩;have hX1:=za (zl wr _ _) (by simp) hb1;have HB1:=hid (hba.trans (hb1.mono hba.size));have hz1:wr.heap.size<w1.heap.size:=by have:=hb1.size;simp at this;omega
    have hcs1:=za hcsr hbsr HB1.out;clear ht hba hb1 c0 c1 c2 c3 c4 c5;go_wp2_with fail
    refine(zfE ms[k] w1).mono ?_;rintro e w2⟨nv,rfl,hn,hb2⟩;obtain⟨na,ncap,rfl⟩:=qC hn;have HN2:=hid hn;have HB2:=hid (HB1.out.trans (hb2.mono HB1.out.size));have HW2:Hid (w2.ownsRow w.heap.size 3 1 v (yw s (ms.take k) p).length (ints (yw s (ms.take k) p))):=yS HW.out HB2.out;have HNL:Hid ((zP ms[k]).length<=2):=zdX _;have HRL:Hid ((yw s (ms.take k) p).length<=2097152):=by have h1:=zhs s p (ms.take k);rw[List.length_take]at h1;show _<=_;omega
    have hcs2:=za hcs1 (Nat.lt_trans hbsr hz1) hb2;clear hn hb2 hX1 hcs1 hcsr
    revert HS HN2 HNL
    generalize zP ms[k]=names
    intro HS HN2 HNL;go_wp2_with fail
    have hszw:=HB2.out.size
    go_loopw [5,24] (fun v0 iv wq=>∃(j:Nat) (v1:Value),v1=v0/\j<=names.length/\iv=.int .i64 j/\wq.ownsRow w.heap.size 3 1 v1 ((yw s (ms.take k) p)++(names.take j).map (zR s.fs)).length (ints ((yw s (ms.take k) p)++(names.take j).map (zR s.fs)))/\wq.ownsRow w1.heap.size 9 1 (.slice na names.length ncap) names.length (names.map Value.string)/\Below w.heap.size w wq) (fun _ iv _=>names.length-(intOf iv).toNat)
    case atStart=>exact⟨0,_,rfl,Nat.zero_le _,rfl,by simpa using HW2.out,HN2.out,HB.out.trans (HB2.out.mono HB.out.size)⟩
    case round=>
     obtain⟨j,v1,hv1,hj,rfl,hown,hnames,hB⟩:=hrel;subst hv1
     by_cases hjl:j<names.length
     ·obtain⟨g,rfl,hcell⟩:∃g,na=some ⟨g,0,none⟩/\wr.cell? ⟨g,j,none⟩=some (.string names[j]):=by
       obtain⟨_,⟨h0,h1⟩|⟨g,cap,cur,h0,h1⟩⟩:=id hnames
       ·rw[h1]at hjl;exact absurd hjl (by omega)
       ·cases h0
        refine⟨g,rfl,?_⟩;rw[hnames.cellAt j (by omega)]
        simp[hjl]
      have hjI:(j:Int)<(names.length:Int):=by omega
      have hcsr:=za hcs hbs hB;have hbsr':=nLt hbs hB.size;have HX:=zdp hown hnames hB;have HTK:Hid ((names.take (j+1)).map (zR s.fs)=(names.take j).map (zR s.fs)++[zR s.fs names[j]]):=by unfold Hid;rw[tSe hjl,List.map_append];rfl
      have HLL:Hid (((yw s (ms.take k) p)++(names.take j).map (zR s.fs)).length<=2097156):=by have h1:=HRL.out;have h2:=HNL.out;show _<=_;rw[List.length_append,List.length_map,List.length_take];omega
      clear hown hnames hB;go_wp2_with fail
      refine(jh fa fcap s.fs names[j] wr (HF.out.mono HX.out.2.2)).mono ?_;rintro e w3⟨rfl,hb3⟩;have HB3:=hid hb3;have HX3:=zdp (yS HX.out.1 hb3) (yS HX.out.2.1 hb3) (HX.out.2.2.trans (hb3.mono HX.out.2.2.size));clear hb3 hcell hcsr
      go_wp2_with (at_builtin;refine wpList_append_own _ rfl (.tmp 28) (.tmp 33) 104 rfl w.heap.size 3 i0 (.int .i64 0) 1 8 Tryz.underlying104 hi hz0 hz1' hz2 rfl (by decide) _ _ _ rfl (HX3.out.1.alloc _) ⟨w3.heap.size,0,none⟩ 1 1 [.int .i64 (zR s.fs names[j])] rfl rfl (ze0 _ _ _) (by intro u hu;simp at hu;subst hu;rfl) (by have:=HLL.out;unfold maxLen;omega) (by have:=HLL.out;omega) (by have:=HX3.out.2.2.size;simp;omega) ?_;intro v' w4 hown' hgr _)
      have hgb:∀g',v1.ownBlock=some g'->w.heap.size<=g':=fun g' hg'=>(HX3.out.1.lt g' hg').1
      have hap:=zoa HX3.out.1 HX3.out.2.1 (by decide);refine⟨⟨j+1,_,rfl,by omega,by rw[wrap_one (by have:=HNL.out;omega)],?_,?_,zc8 HX3.out.2.2 HX3.out.2.2.size hgr hgb⟩,yP hjl (by have:=HNL.out;omega)⟩
      ·rw[HTK.out,<- List.append_assoc,List.length_append]
       have e1:ints ((yw s (ms.take k) p++(names.take j).map (zR s.fs))++[zR s.fs names[j]])=ints (yw s (ms.take k) p++(names.take j).map (zR s.fs))++[.int .i64 (zR s.fs names[j])]:=by simp[ints]
       rw[e1];exact hown'
      ·refine qP HX3.out.2.1 (fun g' hg'=>?_)
       rw[zaL hgr (by have:=(HX3.out.2.1.lt g' hg').2;simp;omega) (fun q hq=>fun e=>hap q hq g' hg' e.symm),Below.heap_alloc _ _ _ (HX3.out.2.1.lt g' hg').2]
     ·have e:j=names.length:=by omega
      subst e;rw[tOl (Nat.le_refl _),<- HS.out]at hown;have HX:=qE hown hB;clear hown hnames hB;go_wp2_with fail
      exact⟨⟨k+1,_,rfl,by omega,by go_num,HX.out.1,HX.out.2⟩,zq hlt⟩
   ·have htf:turns ms[k] s p=false:=by simpa using htt
    have HS:Hid (yw s (ms.take (k+1)) p=yw s (ms.take k) p):=by unfold Hid;rw[zh7 s ms p k hlt,if_neg htt];simp
    rw[htf]at ht;refine ht.mono ?_;rintro e w1⟨rfl,hb1⟩;have HB1:=hid (hba.trans (hb1.mono hba.size));clear ht hba hb1;go_wp2_with fail
    exact⟨⟨k+1,_,rfl,by omega,by go_num,by rw[HS.out];exact yS HW.out HB1.out,HB.out.trans (HB1.out.mono HB.out.size)⟩,zq hlt⟩
  ·have e:k=ms.length:=by omega
   subst e;rw[tOl (Nat.le_refl _)]at hown;have HW:=qE hown hB;clear hown hB;go_wp2_with fail
   go_ret;exact⟨v,rfl,HW.out⟩
theorem zqC {fs:List Fld}{k:Nat}(h:k<fs.length)(hh:hasName (fs.take k) fs[k].nm=true):(zR fs fs[k].nm != (k:Int))=true:=by
 obtain⟨j,hj,e⟩:=zkY fs _ k h hh;rw[e,bne_iff_ne];omega
theorem zqi {fs:List Fld}{k:Nat}(h:k<fs.length)(hh:hasName (fs.take k) fs[k].nm=false):(zR fs fs[k].nm != (k:Int))=false:=by
 rw[zd7 fs _ k h hh rfl];simp
theorem zcw (r:Nat)(a0:Option Addr)(cap0:Nat)(ss:List Shp)(a:Option Addr)(cap:Nat)(fs:List Fld)(w:World)(hr:w.heap[r]?=some (.map yN 4))(hss:yT w a0 ss)(hw:yc w a fs) :
 Calls Tryz.prog 185 #[.map (some r),.slice a0 ss.length cap0,.slice a fs.length cap] w fun e w'=>e=.returned (.bool (y8 ss fs))/\Below w.heap.size w w':=by
 have hl:=hw.len;unfold maxLen at hl;have hrlt:=(gES hr).1
 by_cases h6:fs.length<=6
 rotate_left
 ·have HF:Hid (y8 ss fs=false):=by simp[Hid,y8,h6]
  clear hw hr hss;go_enter Tryz.func185,Tryz.ntmps185
  go_wp2
  go_ret;exact⟨ze HF.out.symm,bRf _ _⟩
 have HG:Hid (y8 ss fs=up (ze5 ss fs) fs.length):=by simp[Hid,y8,h6]
 have h6I:(fs.length:Int)<=6:=by omega
 go_enter Tryz.func185,Tryz.ntmps185
 go_wp2
 go_loopw [14] (fun i wr=>∃k:Nat,k<=fs.length/\i=.int .i64 k/\up (ze5 ss fs) k=true/\Below w.heap.size w wr) (fun i _=>fs.length-(intOf i).toNat)
 case atStart=>exact⟨0,Nat.zero_le _,rfl,rfl,bRf _ _⟩
 case round=>
  obtain⟨k,hk,rfl,hup,hB⟩:=hrel;have hsz:=hB.size
  by_cases hlt:k<fs.length
  ·obtain⟨b,off,rfl,hb,hrw⟩:=hw.rows (by rintro rfl;simp at hlt)
   obtain⟨wa,wcap,hf⟩:=hrw k hlt;obtain⟨c0,c1,c2,c3,c4,c5,c6,c7,c8,c9,c10⟩:=(hf.mono hb hB).load;have hsm:=hf.small;have hst:=hf.strs.mono hB;have hfa:=hw.mono hB;have hsa:=hss.mono hB;have hra:=(hB.block r hrlt).trans hr;have HO:=hid (zi2 ss fs k hlt);have HS:Hid (ze5 ss fs k=true->up (ze5 ss fs) (k+1)=true):=fun h=>by rw[qZ,hup,h];rfl
   have HN:Hid (ze5 ss fs k=false->y8 ss fs=false):=fun h=>by rw[HG.out];exact zaG hlt h
   clear hw hrw hf hup hss hr
   by_cases hn:zA fs[k].nm=true
   rotate_left
   ·have HNm:Hid (zA fs[k].nm=false):=by simpa[Hid] using hn
    clear hn;go_wp2_with fail
    refine(zf HNm.out (zH _ _ hsm.nm)).mono ?_;rintro e w1⟨rfl,rfl⟩;go_wp2_with fail
    go_ret;exact⟨ze (HN.out (by rw[HO.out,HNm.out];rfl)).symm,hB.alloc hsz _⟩
   have HNm:=hid hn;clear hn
   by_cases hh:hasName (fs.take k) fs[k].nm=true
   ·have HH:=hid hh
    have hpl:=zqC hlt hh;clear hh;go_wp2_with fail
    refine(zf HNm.out (zH _ _ hsm.nm)).mono ?_;rintro e w1⟨rfl,rfl⟩;go_wp2_with fail
    refine(jh _ _ _ _ _ (hfa.mono (bAl _ _))).mono ?_;rintro e w2⟨rfl,hb2⟩;have hB2:Below w.heap.size w w2:=(hB.alloc hsz _).trans (hb2.mono (by simp;omega));clear hb2;go_wp2_with fail
    go_ret;exact⟨ze (HN.out (by rw[HO.out,HNm.out,HH.out];rfl)).symm,hB2⟩
   ·have HH:Hid (hasName (fs.take k) fs[k].nm=false):=by simpa[Hid] using hh
    have hpl:=zqi hlt HH.out;clear hh
    by_cases hok:yF ss fs[k]=true
    all_goals
     first
      | (have HK:Hid (yF ss fs[k]=true):=hok)
      | (have HK:Hid (yF ss fs[k]=false):=by simpa[Hid] using hok)
     clear hok;go_wp2_with fail
     refine(zf HNm.out (zH _ _ hsm.nm)).mono ?_;rintro e w1⟨rfl,rfl⟩;go_wp2_with fail
     refine(jh _ _ _ _ _ (hfa.mono (bAl _ _))).mono ?_;rintro e w2⟨rfl,hb2⟩;have hX2:=za (zl wr _ _) (by simp) hb2;have hz2:wr.heap.size<w2.heap.size:=by have:=hb2.size;simp at this;omega
     have hbr2:Below wr.heap.size wr w2:=(bAl _ _).trans (hb2.mono (by simp));have hB2:=hB.trans (hbr2.mono hsz);have hra2:w2.heap[r]?=some (.map yN 4):=(hbr2.block r (by omega)).trans hra;clear hb2;go_wp2_with fail
     refine(zf HK.out (zm0 _ _ _ _ _ _ _ _ _ _ _ _ _ _ _ _ _ _ hra2 hsm.df hsm.wg (hst.mono hbr2) (hsa.mono hbr2))).mono ?_;rintro e w3⟨rfl,hb3⟩;have hB3:Below w.heap.size w w3:=hB2.trans (hb3.mono (by omega));clear hb3 hX2;go_wp2_with fail
    ·exact⟨⟨k+1,by omega,by go_num,HS.out (by rw[HO.out,HNm.out,HH.out,HK.out];rfl),hB3⟩,by simp[intOf];omega⟩
    ·go_ret
     exact⟨ze (HN.out (by rw[HO.out,HNm.out,HH.out,HK.out];rfl)).symm,hB3⟩
  ·have HF:Hid (y8 ss fs=true):=by
    have e:k=fs.length:=by omega
    subst e;rw[HG.out];exact hup
   clear hup hw
   go_wp2
   go_ret;exact⟨ze HF.out.symm,hB⟩
theorem zcQ (b:Bk)(a0 a1 a2 a3:Option Addr)(c0 c1 c2 c3:Nat)(w:World)(hl:q8 w b a0 a1 a2 a3)(hf:b.Few) :
 Calls Tryz.prog 8 #[.agg (b.cells a0 a1 a2 a3 c0 c1 c2 c3)] w fun e w'=>∃lo g0 g1 g2 g3,e=.returned (.agg (b.cells (some ⟨g0,0,none⟩) (some ⟨g1,0,none⟩) (some ⟨g2,0,none⟩) (some ⟨g3,0,none⟩) b.os.length b.gs.length b.ls.length b.ps.length))/\w.heap.size<=lo/\znc lo w' b g0 g1 g2 g3/\Below w.heap.size w w':=by
 have HL:Hid (q8 w b a0 a1 a2 a3):=hl;have HF:Hid b.Few:=hf;clear hl hf;unfold Bk.cells;go_enter Tryz.func8,Tryz.ntmps8;go_wp2_with fail
 have k0:=znu w (.cells (bC b a0 a1 a2 a3 c0 c1 c2 c3) 32) (.cells bZ 40) (.cells #[.int .i64 b.now,.int .i64 b.tick,.int .i64 b.given,.slice none 0 0,.slice none 0 0,.slice none 0 0,.slice none 0 0] 40);have hB0:=below3' w (.cells (bC b a0 a1 a2 a3 c0 c1 c2 c3) 32) (.cells bZ 40) (.cells #[.int .i64 b.now,.int .i64 b.tick,.int .i64 b.given,.slice none 0 0,.slice none 0 0,.slice none 0 0,.slice none 0 0] 40);obtain⟨W0,hW0⟩:∃W0,W0=((w.alloc (.cells (bC b a0 a1 a2 a3 c0 c1 c2 c3) 32)).alloc (.cells bZ 40)).alloc (.cells #[.int .i64 b.now,.int .i64 b.tick,.int .i64 b.given,.slice none 0 0,.slice none 0 0,.slice none 0 0,.slice none 0 0] 40):=⟨_,rfl⟩
 have hz0:w.heap.size+1+1<W0.heap.size:=by rw[hW0];simp
 rw[<- hW0]at k0 hB0 ⊢;clear hW0;have HLO:Hid (w.heap.size+1+1<W0.heap.size):=hz0;refine(zgK _ _ b.os _ (HL.out.os.mono hB0) HF.out.os.1 HF.out.os.2).mono ?_;rintro e w1⟨rfl,hown,hb⟩;obtain⟨g0,hp'⟩:∃g0,g0=W0.heap.size:=⟨_,rfl⟩
 have HN1:Hid (zah W0.heap.size w1 g0 b.os b.os.length):=by rw[hp'];exact hown
 have hX1:=(hb.block _ (by omega)).trans k0.1;have hR1:=(hb.block _ (by omega)).trans k0.2.1;have hO1:=(hb.block _ hz0).trans k0.2.2;have HZ1:Hid (W0.heap.size<=w1.heap.size):=hb.size;have HB1:Hid (Below w.heap.size w w1):=hB0.trans (hb.mono hB0.size);rw[<- hp'];clear hown hb k0 hB0 hz0 hp';have cO1:=fun j=>cell_of_block (o:=j) hO1
 have fO1:=fun j=>zh (o:=j) hO1
 have HX1':Hid ((w1.setCell ⟨w.heap.size+1+1,3,none⟩ (.slice (some ⟨g0,0,none⟩) b.os.length b.os.length)).heap[w.heap.size]?=some (.cells (bC b a0 a1 a2 a3 c0 c1 c2 c3) 32)):=(zG (by omega)).trans hX1;have HR1':Hid ((w1.setCell ⟨w.heap.size+1+1,3,none⟩ (.slice (some ⟨g0,0,none⟩) b.os.length b.os.length)).heap[w.heap.size+1]?=some (.cells bZ 40)):=(zG (by omega)).trans hR1;have HO1':Hid ((w1.setCell ⟨w.heap.size+1+1,3,none⟩ (.slice (some ⟨g0,0,none⟩) b.os.length b.os.length)).heap[w.heap.size+1+1]?=some (.cells #[.int .i64 b.now,.int .i64 b.tick,.int .i64 b.given,.slice (some ⟨g0,0,none⟩) b.os.length b.os.length,.slice none 0 0,.slice none 0 0,.slice none 0 0] 40)):=zi hO1 _;have HAB1:Hid (yM W0.heap.size w1 (w1.setCell ⟨w.heap.size+1+1,3,none⟩ (.slice (some ⟨g0,0,none⟩) b.os.length b.os.length))):=yM.setCell HLO.out _;have HBB1:Hid (Below w.heap.size w (w1.setCell ⟨w.heap.size+1+1,3,none⟩ (.slice (some ⟨g0,0,none⟩) b.os.length b.os.length))):=HB1.out.setCell (by show w.heap.size<=w.heap.size+1+1;omega) _;have HZZ1:Hid (W0.heap.size<=(w1.setCell ⟨w.heap.size+1+1,3,none⟩ (.slice (some ⟨g0,0,none⟩) b.os.length b.os.length)).heap.size):=by unfold Hid;rw[World.size_setCell];exact HZ1.out
 clear hX1 hR1 hO1;have cX1:=fun j=>cell_of_block (o:=j) HX1'.out
 have cR1:=fun j=>cell_of_block (o:=j) HR1'.out
 have fR1:=fun j=>zh (o:=j) HR1'.out
 have cOO1:=fun j=>cell_of_block (o:=j) HO1'.out
 go_wp2_with fail
 refine(zg8 _ _ b.gs _ (HL.out.gs.mono HBB1.out) HF.out.gs.1 HF.out.gs.2).mono ?_;rintro e w2⟨rfl,hown,hb⟩;obtain⟨g1,hp'⟩:∃g1,g1=(w1.setCell ⟨w.heap.size+1+1,3,none⟩ (.slice (some ⟨g0,0,none⟩) b.os.length b.os.length)).heap.size:=⟨_,rfl⟩
 have HN2:Hid (zaa W0.heap.size w2 g1 b.gs b.gs.length):=by rw[hp'];exact hown.weaken HZZ1.out
 have HAA2:Hid (yM W0.heap.size w1 w2):=HAB1.out.trans (yM.below hb);have hX2:=(hb.block _ (lt_of_some HX1'.out)).trans HX1'.out;have hR2:=(hb.block _ (lt_of_some HR1'.out)).trans HR1'.out;have hO2:=(hb.block _ (lt_of_some HO1'.out)).trans HO1'.out;have HZ2:Hid (W0.heap.size<=w2.heap.size):=Nat.le_trans HZZ1.out hb.size;have HB2:Hid (Below w.heap.size w w2):=HBB1.out.trans (hb.mono HBB1.out.size);rw[<- hp'];clear hown hb hp' cX1 cR1 fR1 cOO1;have cO2:=fun j=>cell_of_block (o:=j) hO2
 have fO2:=fun j=>zh (o:=j) hO2
 have HX2':Hid ((w2.setCell ⟨w.heap.size+1+1,4,none⟩ (.slice (some ⟨g1,0,none⟩) b.gs.length b.gs.length)).heap[w.heap.size]?=some (.cells (bC b a0 a1 a2 a3 c0 c1 c2 c3) 32)):=(zG (by omega)).trans hX2;have HR2':Hid ((w2.setCell ⟨w.heap.size+1+1,4,none⟩ (.slice (some ⟨g1,0,none⟩) b.gs.length b.gs.length)).heap[w.heap.size+1]?=some (.cells bZ 40)):=(zG (by omega)).trans hR2;have HO2':Hid ((w2.setCell ⟨w.heap.size+1+1,4,none⟩ (.slice (some ⟨g1,0,none⟩) b.gs.length b.gs.length)).heap[w.heap.size+1+1]?=some (.cells #[.int .i64 b.now,.int .i64 b.tick,.int .i64 b.given,.slice (some ⟨g0,0,none⟩) b.os.length b.os.length,.slice (some ⟨g1,0,none⟩) b.gs.length b.gs.length,.slice none 0 0,.slice none 0 0] 40)):=zi hO2 _;have HAB2:Hid (yM W0.heap.size w2 (w2.setCell ⟨w.heap.size+1+1,4,none⟩ (.slice (some ⟨g1,0,none⟩) b.gs.length b.gs.length))):=yM.setCell HLO.out _;have HBB2:Hid (Below w.heap.size w (w2.setCell ⟨w.heap.size+1+1,4,none⟩ (.slice (some ⟨g1,0,none⟩) b.gs.length b.gs.length))):=HB2.out.setCell (by show w.heap.size<=w.heap.size+1+1;omega) _;have HZZ2:Hid (W0.heap.size<=(w2.setCell ⟨w.heap.size+1+1,4,none⟩ (.slice (some ⟨g1,0,none⟩) b.gs.length b.gs.length)).heap.size):=by unfold Hid;rw[World.size_setCell];exact HZ2.out
 clear hX2 hR2 hO2;have cX2:=fun j=>cell_of_block (o:=j) HX2'.out
 have cR2:=fun j=>cell_of_block (o:=j) HR2'.out
 have fR2:=fun j=>zh (o:=j) HR2'.out
 have cOO2:=fun j=>cell_of_block (o:=j) HO2'.out
 go_wp2_with fail
 refine(zgO _ _ b.ls _ (HL.out.ls.mono HBB2.out) HF.out.ls).mono ?_;rintro e w3⟨rfl,hown,hb⟩;obtain⟨g2,hp'⟩:∃g2,g2=(w2.setCell ⟨w.heap.size+1+1,4,none⟩ (.slice (some ⟨g1,0,none⟩) b.gs.length b.gs.length)).heap.size:=⟨_,rfl⟩
 have HN3:Hid (j3 W0.heap.size w3 g2 b.ls b.ls.length):=by rw[hp'];exact hown.weaken HZZ2.out
 have HAA3:Hid (yM W0.heap.size w2 w3):=HAB2.out.trans (yM.below hb);have hX3:=(hb.block _ (lt_of_some HX2'.out)).trans HX2'.out;have hR3:=(hb.block _ (lt_of_some HR2'.out)).trans HR2'.out;have hO3:=(hb.block _ (lt_of_some HO2'.out)).trans HO2'.out;have HZ3:Hid (W0.heap.size<=w3.heap.size):=Nat.le_trans HZZ2.out hb.size;have HB3:Hid (Below w.heap.size w w3):=HBB2.out.trans (hb.mono HBB2.out.size);rw[<- hp'];clear hown hb hp' cX2 cR2 fR2 cOO2;have cO3:=fun j=>cell_of_block (o:=j) hO3
 have fO3:=fun j=>zh (o:=j) hO3
 have HX3':Hid ((w3.setCell ⟨w.heap.size+1+1,5,none⟩ (.slice (some ⟨g2,0,none⟩) b.ls.length b.ls.length)).heap[w.heap.size]?=some (.cells (bC b a0 a1 a2 a3 c0 c1 c2 c3) 32)):=(zG (by omega)).trans hX3;have HR3':Hid ((w3.setCell ⟨w.heap.size+1+1,5,none⟩ (.slice (some ⟨g2,0,none⟩) b.ls.length b.ls.length)).heap[w.heap.size+1]?=some (.cells bZ 40)):=(zG (by omega)).trans hR3;have HO3':Hid ((w3.setCell ⟨w.heap.size+1+1,5,none⟩ (.slice (some ⟨g2,0,none⟩) b.ls.length b.ls.length)).heap[w.heap.size+1+1]?=some (.cells #[.int .i64 b.now,.int .i64 b.tick,.int .i64 b.given,.slice (some ⟨g0,0,none⟩) b.os.length b.os.length,.slice (some ⟨g1,0,none⟩) b.gs.length b.gs.length,.slice (some ⟨g2,0,none⟩) b.ls.length b.ls.length,.slice none 0 0] 40)):=zi hO3 _;have HAB3:Hid (yM W0.heap.size w3 (w3.setCell ⟨w.heap.size+1+1,5,none⟩ (.slice (some ⟨g2,0,none⟩) b.ls.length b.ls.length))):=yM.setCell HLO.out _;have HBB3:Hid (Below w.heap.size w (w3.setCell ⟨w.heap.size+1+1,5,none⟩ (.slice (some ⟨g2,0,none⟩) b.ls.length b.ls.length))):=HB3.out.setCell (by show w.heap.size<=w.heap.size+1+1;omega) _;have HZZ3:Hid (W0.heap.size<=(w3.setCell ⟨w.heap.size+1+1,5,none⟩ (.slice (some ⟨g2,0,none⟩) b.ls.length b.ls.length)).heap.size):=by unfold Hid;rw[World.size_setCell];exact HZ3.out
 clear hX3 hR3 hO3;have cX3:=fun j=>cell_of_block (o:=j) HX3'.out
 have cR3:=fun j=>cell_of_block (o:=j) HR3'.out
 have fR3:=fun j=>zh (o:=j) HR3'.out
 have cOO3:=fun j=>cell_of_block (o:=j) HO3'.out
 go_wp2_with fail
 refine(zhw _ _ b.ps _ (HL.out.ps.mono HBB3.out) HF.out.ps).mono ?_;rintro e w4⟨rfl,hown,hb⟩;obtain⟨g3,hp'⟩:∃g3,g3=(w3.setCell ⟨w.heap.size+1+1,5,none⟩ (.slice (some ⟨g2,0,none⟩) b.ls.length b.ls.length)).heap.size:=⟨_,rfl⟩
 have HN4:Hid (j4 W0.heap.size w4 g3 b.ps b.ps.length):=by rw[hp'];exact hown.weaken HZZ3.out
 have HAA4:Hid (yM W0.heap.size w3 w4):=HAB3.out.trans (yM.below hb);have hX4:=(hb.block _ (lt_of_some HX3'.out)).trans HX3'.out;have hR4:=(hb.block _ (lt_of_some HR3'.out)).trans HR3'.out;have hO4:=(hb.block _ (lt_of_some HO3'.out)).trans HO3'.out;have HZ4:Hid (W0.heap.size<=w4.heap.size):=Nat.le_trans HZZ3.out hb.size;have HB4:Hid (Below w.heap.size w w4):=HBB3.out.trans (hb.mono HBB3.out.size);rw[<- hp'];clear hown hb hp' cX3 cR3 fR3 cOO3;have cO4:=fun j=>cell_of_block (o:=j) hO4
 have fO4:=fun j=>zh (o:=j) hO4
 have HX4':Hid ((w4.setCell ⟨w.heap.size+1+1,6,none⟩ (.slice (some ⟨g3,0,none⟩) b.ps.length b.ps.length)).heap[w.heap.size]?=some (.cells (bC b a0 a1 a2 a3 c0 c1 c2 c3) 32)):=(zG (by omega)).trans hX4;have HR4':Hid ((w4.setCell ⟨w.heap.size+1+1,6,none⟩ (.slice (some ⟨g3,0,none⟩) b.ps.length b.ps.length)).heap[w.heap.size+1]?=some (.cells bZ 40)):=(zG (by omega)).trans hR4;have HO4':Hid ((w4.setCell ⟨w.heap.size+1+1,6,none⟩ (.slice (some ⟨g3,0,none⟩) b.ps.length b.ps.length)).heap[w.heap.size+1+1]?=some (.cells (bC b (some ⟨g0,0,none⟩) (some ⟨g1,0,none⟩) (some ⟨g2,0,none⟩) (some ⟨g3,0,none⟩) (b.os.length) (b.gs.length) (b.ls.length) (b.ps.length)) 40)):=zi hO4 _;have HAB4:Hid (yM W0.heap.size w4 (w4.setCell ⟨w.heap.size+1+1,6,none⟩ (.slice (some ⟨g3,0,none⟩) b.ps.length b.ps.length))):=yM.setCell HLO.out _;have HBB4:Hid (Below w.heap.size w (w4.setCell ⟨w.heap.size+1+1,6,none⟩ (.slice (some ⟨g3,0,none⟩) b.ps.length b.ps.length))):=HB4.out.setCell (by show w.heap.size<=w.heap.size+1+1;omega) _;have HZZ4:Hid (W0.heap.size<=(w4.setCell ⟨w.heap.size+1+1,6,none⟩ (.slice (some ⟨g3,0,none⟩) b.ps.length b.ps.length)).heap.size):=by unfold Hid;rw[World.size_setCell];exact HZ4.out
 clear hX4 hR4 hO4;have cX4:=fun j=>cell_of_block (o:=j) HX4'.out
 have cR4:=fun j=>cell_of_block (o:=j) HR4'.out
 have fR4:=fun j=>zh (o:=j) HR4'.out
 have cOO4:=fun j=>cell_of_block (o:=j) HO4'.out
 go_wp2_with fail
 refine bodyPost_ret (v:=.agg #[.int .i64 b.now,.int .i64 b.tick,.int .i64 b.given,.slice (some ⟨g0,0,none⟩) b.os.length b.os.length,.slice (some ⟨g1,0,none⟩) b.gs.length b.gs.length,.slice (some ⟨g2,0,none⟩) b.ls.length b.ls.length,.slice (some ⟨g3,0,none⟩) b.ps.length b.ps.length]) (by simp[results,Tryz.results8,go_sem,cR4]) rfl ⟨W0.heap.size,g0,g1,g2,g3,rfl,by have:=HLO.out;omega,?_,?_⟩
 ·have hlt1:w.heap.size+1<W0.heap.size:=by have:=HLO.out;omega
  have hA4:∀v0 v1 v2 v3 v4 v5 v6,yM W0.heap.size w4 ((((((((w4.setCell ⟨w.heap.size+1+1,6,none⟩ (.slice (some ⟨g3,0,none⟩) b.ps.length b.ps.length)).setCell ⟨w.heap.size+1,0,none⟩ v0).setCell ⟨w.heap.size+1,1,none⟩ v1).setCell ⟨w.heap.size+1,2,none⟩ v2).setCell ⟨w.heap.size+1,3,none⟩ v3).setCell ⟨w.heap.size+1,4,none⟩ v4).setCell ⟨w.heap.size+1,5,none⟩ v5).setCell ⟨w.heap.size+1,6,none⟩ v6):=fun v0 v1 v2 v3 v4 v5 v6=>(((((((HAB4.out.trans (yM.setCell (p:=⟨w.heap.size+1,0,none⟩) hlt1 v0)).trans (yM.setCell (p:=⟨w.heap.size+1,1,none⟩) hlt1 v1)).trans (yM.setCell (p:=⟨w.heap.size+1,2,none⟩) hlt1 v2)).trans (yM.setCell (p:=⟨w.heap.size+1,3,none⟩) hlt1 v3)).trans (yM.setCell (p:=⟨w.heap.size+1,4,none⟩) hlt1 v4)).trans (yM.setCell (p:=⟨w.heap.size+1,5,none⟩) hlt1 v5)).trans (yM.setCell (p:=⟨w.heap.size+1,6,none⟩) hlt1 v6))
  exact⟨HN1.out.above (((HAA2.out.trans HAA3.out).trans HAA4.out).trans (hA4 _ _ _ _ _ _ _)),HN2.out.above ((HAA3.out.trans HAA4.out).trans (hA4 _ _ _ _ _ _ _)),HN3.out.above (HAA4.out.trans (hA4 _ _ _ _ _ _ _)),HN4.out.above (hA4 _ _ _ _ _ _ _)⟩
 ·exact((((((HBB4.out.setCell (Nat.le_succ _) _).setCell (Nat.le_succ _) _).setCell (Nat.le_succ _) _).setCell (Nat.le_succ _) _).setCell (Nat.le_succ _) _).setCell (Nat.le_succ _) _).setCell (Nat.le_succ _) _
theorem zjS (b:Bk)(a0 a1 a2 a3:Option Addr)(c0 c1 c2 c3:Nat)(w:World)(hl:q8 w b a0 a1 a2 a3)(hf:b.Few) :
 Calls Tryz.prog 8 #[.agg (b.cells a0 a1 a2 a3 c0 c1 c2 c3)] w fun e w'=>∃a0' a1' a2' a3',e=.returned (.agg (b.cells a0' a1' a2' a3' b.os.length b.gs.length b.ls.length b.ps.length))/\q8 w' b a0' a1' a2' a3'/\Below w.heap.size w w':=by
 refine(zcQ b a0 a1 a2 a3 c0 c1 c2 c3 w hl hf).mono ?_;rintro e w'⟨lo,g0,g1,g2,g3,he,_,ho,hb⟩;exact⟨_,_,_,_,he,ho.at hl.small,hb⟩
theorem ziw (a0:Option Addr)(cap0:Nat)(ss:List Shp)(nm:ByteArray)(kd ls ms:Int)(a:Option Addr)(cap:Nat)(ws:List ByteArray)(to:ByteArray)(rl:Int)(mu fx:Bool)(df wg:ByteArray)(w:World)(hnm:nm.size<=maxLen)(hdf:df.size<=maxLen)(hws:zF w a ws)(h1:kd≠1)(h2:kd≠2)(h3:kd≠3)(h4:kd≠4) :
 Calls Tryz.prog 178 #[.slice a0 ss.length cap0,.agg #[.string nm,.int .i64 kd,.int .i64 ls,.int .i64 ms,.slice a ws.length cap,.string to,.int .i64 rl,.bool mu,.bool fx,.string df,.string wg]] w
  fun e w'=>e=.returned (.bool (zA nm&&yF ss ⟨nm,kd,ls,ms,ws,to,rl,mu,fx,df,wg⟩))/\Below w.heap.size w w':=by
 have HO:Hid ((zA nm&&yF ss ⟨nm,kd,ls,ms,ws,to,rl,mu,fx,df,wg⟩)=false):=by simp[Hid,yF,bare,yL,h1,h2,h3,h4]
 generalize (zA nm&&yF ss ⟨nm,kd,ls,ms,ws,to,rl,mu,fx,df,wg⟩)=res at HO
 have HFit:Hid (fits kd ls ms ws df=false):=zfN kd ls ms ws df h1 h2 h3 h4;have HH:Hid (kd≠1/\kd≠2/\kd≠3/\kd≠4):=⟨h1,h2,h3,h4⟩
 have e1:(kd == 1)=false:=by simpa using h1
 have e2:(kd == 2)=false:=by simpa using h2
 have e3:(kd == 3)=false:=by simpa using h3
 have e4:(kd == 4)=false:=by simpa using h4
 clear h1 h2 h3 h4
 by_cases hn:zA nm=true
 rotate_left
 ·have HNm:Hid (zA nm=false):=by simpa[Hid] using hn
  clear hn;go_enter Tryz.func178,Tryz.ntmps178;go_wp2_with fail
  refine(zf HNm.out (zk _ _ hnm)).mono ?_;rintro e w1⟨rfl,rfl⟩;go_wp2_with fail
  go_ret;exact⟨ze HO.out.symm,bAl _ _⟩
 have HNm:Hid (zA nm=true):=hn;clear hn
 by_cases hd:df.toList.isEmpty=true
 all_goals
  first
   | (have hd1:df.toList.isEmpty=true:=hd)
   | (have hd1:df.toList.isEmpty=false:=by simpa using hd)
  clear hd;go_enter Tryz.func178,Tryz.ntmps178;go_wp2_with fail
  refine(zf HNm.out (zk _ _ hnm)).mono ?_;rintro e w1⟨rfl,rfl⟩;go_wp2_with fail
  refine(zjh _ _ _ _ _ _ _ _ _ _ _ _ _ _ HH.out.1 HH.out.2.1 HH.out.2.2.1 HH.out.2.2.2).mono ?_;rintro e w2⟨bb,rfl,hb2⟩;have hX2:=za (zl w _ _) (by simp) hb2;have hz2:w.heap.size<w2.heap.size:=by have:=hb2.size;simp at this;omega
  have hB2:Below w.heap.size w w2:=(bAl _ _).trans (hb2.mono (by simp));clear hb2
  cases bb
  ·go_wp2_with fail
   go_ret;exact⟨ze HO.out.symm,hB2⟩
 ·go_wp2_with fail
  go_ret;exact⟨ze HO.out.symm,hB2⟩
 ·go_wp2_with fail
  refine(zf HFit.out (yU _ _ _ _ _ _ _ _ _ _ _ _ _ _ _ hdf (hws.mono hB2))).mono ?_;rintro e w3⟨rfl,hb3⟩;have hB3:Below w.heap.size w w3:=hB2.trans (hb3.mono (by omega));go_wp2_with fail
  go_ret;exact⟨ze HO.out.symm,hB3⟩
theorem zfq (a0:Option Addr)(cap0:Nat)(ss:List Shp)(nm:ByteArray)(kd ls ms:Int)(a:Option Addr)(cap:Nat)(ws:List ByteArray)(to:ByteArray)(rl:Int)(mu fx:Bool)(df wg:ByteArray)(w:World)(hnm:nm.size<=maxLen)(hdf:df.size<=maxLen)(hwg:wg.size<=maxLen)(hws:zF w a ws)(hss:yT w a0 ss) :
 Calls Tryz.prog 178 #[.slice a0 ss.length cap0,.agg #[.string nm,.int .i64 kd,.int .i64 ls,.int .i64 ms,.slice a ws.length cap,.string to,.int .i64 rl,.bool mu,.bool fx,.string df,.string wg]] w
  fun e w'=>e=.returned (.bool (zA nm&&yF ss ⟨nm,kd,ls,ms,ws,to,rl,mu,fx,df,wg⟩))/\Below w.heap.size w w':=by
 by_cases h1:kd=1
 ·subst h1;exact zmA a0 cap0 ss nm ls ms a cap ws to rl mu fx df wg w hnm hdf hwg hws
 by_cases h2:kd=2
 ·subst h2;exact zmT a0 cap0 ss nm ls ms a cap ws to rl mu fx df wg w hnm hdf hws
 by_cases h3:kd=3
 ·subst h3;exact zmM a0 cap0 ss nm ls ms a cap ws to rl mu fx df wg w hnm hdf hws
 by_cases h4:kd=4
 ·subst h4;exact znE a0 cap0 ss nm ls ms a cap ws to rl mu fx df wg w hnm hdf hws hss
 exact ziw a0 cap0 ss nm kd ls ms a cap ws to rl mu fx df wg w hnm hdf hws h1 h2 h3 h4
end Go.Proofs.YtkficnallnpjnaaGreat
