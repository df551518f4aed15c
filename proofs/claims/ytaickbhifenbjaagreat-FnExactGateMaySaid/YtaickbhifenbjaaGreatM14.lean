import Derived.Test.YtaickbhifenbjaaGreatM13
import Derived.Test.YtaickbhifenbjaaGreatM02
import Derived.Test.YtaickbhifenbjaaGreatM05
import Derived.Test.YtaickbhifenbjaaGreatM12
import Derived.Deep.QuietTactic
import Derived.BigQuiet
import Derived.Test.YtaickbhifenbjaaGreatM09
import Derived.Test.YtaickbhifenbjaaGreatM11
set_option maxHeartbeats 2000000
namespace Go.Proofs.YtaickbhifenbjaaGreat
open Go.RowKit
theorem zcQ (nm:ByteArray) (ls ms:Int) (a:Option Addr) (cap:Nat) (ws:List ByteArray) (to:ByteArray) (rl:Int) (mu fx:Bool) (df wg:ByteArray) (a0:Option Addr) (cap0:Nat) (ss:List Shp) (w:World) (hw:yL w a0 ss) :
 Calls Tryz.prog 251 #[.agg #[.string nm,.int .i64 4,.int .i64 ls,.int .i64 ms,.slice a ws.length cap,.string to,.int .i64 rl,.bool mu,.bool fx,.string df,.string wg],.slice a0 ss.length cap0] w fun e w'=>e = .returned (.bool (Gate.z8 ss ⟨nm,4,ls,ms,ws,to,rl,mu,fx,df,wg⟩))/\Below w.heap.size w w':=by
 have HF:Hid (Gate.z8 ss ⟨nm,4,ls,ms,ws,to,rl,mu,fx,df,wg⟩=(Gate.zH ss to && (decide (1<=rl) && decide (rl<=3)) && df.toList.isEmpty && (decide (rl ≠ 2) || !mu))):=by simp [Gate.z8,Hid]
 by_cases hk:Gate.zH ss to=true
 rotate_left
 ·have hk':Gate.zH ss to=false:=by simpa using hk
  have HK:Hid (Gate.zH ss to=false):=hk'
  clear hk hk'
  go_enter Tryz.func251,Tryz.ntmps251
  go_wp2_with fail
  refine (qL _ _ _ _ _ (hw.mono ((Below.refl _ _).alloc (Nat.le_refl _) _))).mono ?_
  rintro e w1 ⟨fa,fcap,rfl,_,hb1⟩
  rw [HK.out]
  have hX1:=za (zl w _ _) (by simp) hb1
  have hz1:w.heap.size < w1.heap.size:=by have:=hb1.size;simp at this;omega
  have hB1:Below w.heap.size w w1:=((Below.refl _ _).alloc (Nat.le_refl _) _).trans (hb1.mono (by simp))
  clear hb1 hw
  go_wp2_with fail
  go_ret
  exact ⟨ze (by rw [HF.out,HK.out];rfl),hB1.alloc (by omega) _⟩
 have HK:Hid (Gate.zH ss to=true):=hk
 clear hk
 by_cases hd:df.toList.isEmpty=true
 rotate_left
 ·have hd':df.toList.isEmpty=false:=by simpa using hd
  clear hd
  go_enter Tryz.func251,Tryz.ntmps251
  go_wp2_with fail
  refine (qL _ _ _ _ _ (hw.mono ((Below.refl _ _).alloc (Nat.le_refl _) _))).mono ?_
  rintro e w1 ⟨fa,fcap,rfl,_,hb1⟩
  rw [HK.out]
  have hX1:=za (zl w _ _) (by simp) hb1
  have hz1:w.heap.size < w1.heap.size:=by have:=hb1.size;simp at this;omega
  have hB1:Below w.heap.size w w1:=((Below.refl _ _).alloc (Nat.le_refl _) _).trans (hb1.mono (by simp))
  clear hb1 hw
  go_wp2_with fail
  go_ret
  exact ⟨ze (by rw [HF.out,HK.out,hd'];simp),hB1.alloc (by omega) _⟩
 by_cases h1:rl=1
 ·subst h1
  go_enter Tryz.func251,Tryz.ntmps251
  go_wp2_with fail
  refine (qL _ _ _ _ _ (hw.mono ((Below.refl _ _).alloc (Nat.le_refl _) _))).mono ?_
  rintro e w1 ⟨fa,fcap,rfl,_,hb1⟩
  rw [HK.out]
  have hX1:=za (zl w _ _) (by simp) hb1
  have hz1:w.heap.size < w1.heap.size:=by have:=hb1.size;simp at this;omega
  have hB1:Below w.heap.size w w1:=((Below.refl _ _).alloc (Nat.le_refl _) _).trans (hb1.mono (by simp))
  clear hb1 hw
  go_wp2_with fail
  go_ret
  exact ⟨ze (by rw [HF.out,HK.out,hd];rfl),hB1.alloc (by omega) _⟩
 by_cases h3:rl=3
 ·subst h3
  go_enter Tryz.func251,Tryz.ntmps251
  go_wp2_with fail
  refine (qL _ _ _ _ _ (hw.mono ((Below.refl _ _).alloc (Nat.le_refl _) _))).mono ?_
  rintro e w1 ⟨fa,fcap,rfl,_,hb1⟩
  rw [HK.out]
  have hX1:=za (zl w _ _) (by simp) hb1
  have hz1:w.heap.size < w1.heap.size:=by have:=hb1.size;simp at this;omega
  have hB1:Below w.heap.size w w1:=((Below.refl _ _).alloc (Nat.le_refl _) _).trans (hb1.mono (by simp))
  clear hb1 hw
  go_wp2_with fail
  go_ret
  exact ⟨ze (by rw [HF.out,HK.out,hd];rfl),hB1.alloc (by omega) _⟩
 by_cases h2:rl=2
 ·subst h2
  clear h1 h3
  go_enter Tryz.func251,Tryz.ntmps251
  go_wp2_with fail
  refine (qL _ _ _ _ _ (hw.mono ((Below.refl _ _).alloc (Nat.le_refl _) _))).mono ?_
  rintro e w1 ⟨fa,fcap,rfl,_,hb1⟩
  rw [HK.out]
  have hX1:=za (zl w _ _) (by simp) hb1
  have hz1:w.heap.size < w1.heap.size:=by have:=hb1.size;simp at this;omega
  have hB1:Below w.heap.size w w1:=((Below.refl _ _).alloc (Nat.le_refl _) _).trans (hb1.mono (by simp))
  clear hb1 hw
  go_wp2_with fail
  go_ret
  exact ⟨ze (by rw [HF.out,HK.out,hd];rfl),hB1.alloc (by omega) _⟩
 ·have HR:Hid ((decide (1<=rl) && decide (rl<=3))=false):=by unfold Hid;rw [Bool.eq_false_iff];simp;omega
  have e1:(rl == 1)=false:=by simpa using h1
  have e2:(rl == 2)=false:=by simpa using h2
  have e3:(rl == 3)=false:=by simpa using h3
  clear h1 h2 h3
  go_enter Tryz.func251,Tryz.ntmps251
  go_wp2_with fail
  refine (qL _ _ _ _ _ (hw.mono ((Below.refl _ _).alloc (Nat.le_refl _) _))).mono ?_
  rintro e w1 ⟨fa,fcap,rfl,_,hb1⟩
  rw [HK.out]
  have hX1:=za (zl w _ _) (by simp) hb1
  have hz1:w.heap.size < w1.heap.size:=by have:=hb1.size;simp at this;omega
  have hB1:Below w.heap.size w w1:=((Below.refl _ _).alloc (Nat.le_refl _) _).trans (hb1.mono (by simp))
  clear hb1 hw
  go_wp2_with fail
  go_ret
  exact ⟨ze (by rw [HF.out,HK.out,HR.out];simp),hB1.alloc (by omega) _⟩
theorem zhL (nm:ByteArray) (kd ls ms:Int) (sl:Value) (to:ByteArray) (rl:Int) (mu fx:Bool) (df wg:ByteArray) (v:ByteArray) (bn:Nat) (w:World) (hb:bn < w.heap.size) (hn:w.cell? ⟨bn,0,none⟩=some (.string v)) :
 Calls Tryz.prog 200 #[.agg #[.string nm,.int .i64 kd,.int .i64 ls,.int .i64 ms,sl,.string to,.int .i64 rl,.bool mu,.bool fx,.string df,.string wg],.pointer (some ⟨bn,0,none⟩)] w fun e w'=>e = .returned (.bool (nm.toList == v.toList))/\Below w.heap.size w w':=by
 go_enter Tryz.func200,Tryz.ntmps200
 go_wp2
 go_ret
 exact ⟨rfl,(Below.refl _ _).alloc (Nat.le_refl _) _⟩
theorem zjo (a:Option Addr) (cap:Nat) (fs:List Fld) (v:ByteArray) (bn:Nat) (w:World) (hw:zR w a fs) (hbn:bn < w.heap.size) (hn:w.cell? ⟨bn,0,none⟩=some (.string v)) :
 Calls Tryz.prog 199 #[.slice a fs.length cap,.func (.func 200) #[] #[.pointer (some ⟨bn,0,none⟩)]] w fun e w'=>e = .returned (.int .i64 (Gate.zP fs v))/\Below w.heap.size w w':=by
 have hl:=hw.len
 unfold maxLen at hl
 go_enter Tryz.func199,Tryz.ntmps199
 go_wp2
 go_loopw [8] (fun i wr=>∃ k:Nat,k<=fs.length/\i = .int .i64 k/\Gate.hasName (fs.take k) v=false/\Below w.heap.size w wr) (fun i _=>fs.length - (intOf i).toNat)
 case atStart=>exact ⟨0,Nat.zero_le _,rfl,rfl,Below.refl _ _⟩
 case round =>
  obtain ⟨k,hk,rfl,hno,hB⟩:=hrel
  by_cases hlt:k < fs.length
  ·obtain ⟨b,off,rfl,hb,hr⟩:=hw.rows (by rintro rfl;simp at hlt)
   obtain ⟨wa,wcap,hf⟩:=hr k hlt
   obtain ⟨c0,c1,c2,c3,c4,c5,c6,c7,c8,c9,c10⟩:=(hf.mono hb hB).load
   have hn1:=(hB.cell (p:=⟨bn,0,none⟩) hbn).trans hn
   have hbn1:bn < wr.heap.size:=Nat.lt_of_lt_of_le hbn hB.size
   clear hw hr hf hn
   by_cases he:fs[k].nm=v
   ·have HA:Hid (Gate.zP fs v=k):=Gate.zdh fs v k hlt hno he
    have HE:Hid ((fs[k].nm.toList == v.toList)=true):=by unfold Hid;rw [Gate.beq_toList];simpa using he
    clear he hno
    go_wp2_with fail
    refine (zf HE.out (zhL _ _ _ _ _ _ _ _ _ _ _ _ _ _ hbn1 hn1)).mono ?_
    rintro e w2 ⟨rfl,hb2⟩
    go_wp2_with fail
    go_ret
    exact ⟨zm HA.out.symm,hB.trans (hb2.mono hB.size)⟩
   ·have HS:Hid (Gate.hasName (fs.take (k+1)) v=false):=by unfold Hid;rw [Gate.zdp fs v k hlt,hno,decide_eq_false he];rfl
    have HE:Hid ((fs[k].nm.toList == v.toList)=false):=by unfold Hid;rw [Gate.beq_toList];simpa using he
    clear he hno
    go_wp2_with fail
    refine (zf HE.out (zhL _ _ _ _ _ _ _ _ _ _ _ _ _ _ hbn1 hn1)).mono ?_
    rintro e w2 ⟨rfl,hb2⟩
    go_wp2_with fail
    exact ⟨⟨k+1,by omega,by go_num,HS.out,hB.trans (hb2.mono hB.size)⟩,by simp [intOf];omega⟩
  ·have HA:Hid (Gate.zP fs v=-1):=Gate.ze9 fs v (by rw [<- Gate.zgH fs v k (by omega)];exact hno)
   clear hno hw
   go_wp2
   go_ret
   exact ⟨zm HA.out.symm,hB⟩
theorem jk (a:Option Addr) (cap:Nat) (fs:List Fld) (v:ByteArray) (w:World) (hw:zR w a fs) :
 Calls Tryz.prog 177 #[.slice a fs.length cap,.string v] w fun e w'=>e = .returned (.int .i64 (Gate.zP fs v))/\Below w.heap.size w w':=by
 go_enter Tryz.func177,Tryz.ntmps177
 go_wp2_with fail
 refine (zjo _ _ _ v _ _ (hw.mono ((Below.refl _ _).alloc (Nat.le_refl _) _)) (by simp) (by rw [World.cell?_alloc_at _ _ _ _ rfl];rfl)).mono ?_
 rintro e w2 ⟨rfl,hb2⟩
 go_wp2_with fail
 go_ret
 exact ⟨rfl,((Below.refl _ _).alloc (Nat.le_refl _) _).trans (hb2.mono (by simp))⟩
theorem zaH {w w':World} {base:Nat} {e:TypeId} {size:Nat} {v:Value} {n:Nat} {xs:List Value} (h:w.ownsRow base e size v n xs) (hb:∀ g,v.ownBlock=some g->w'.heap[g]?=w.heap[g]?):w'.ownsRow base e size v n xs:=by
 obtain ⟨h0,h1 | ⟨g,cap,cur,rfl,h2,h3,h4⟩⟩:=h
 ·exact ⟨h0,Or.inl h1⟩
 ·exact ⟨h0,Or.inr ⟨g,cap,cur,rfl,h2,(hb g rfl).trans h3,h4⟩⟩
theorem qP {w w':World} {base:Nat} {e:TypeId} {size:Nat} {v:Value} {n:Nat} {xs:List Value} (h:w.ownsRow base e size v n xs) (hb:Below w.heap.size w w'):w'.ownsRow base e size v n xs :=
 zaH h fun g hg=>hb.block g (h.lt g hg).2
theorem zcA {w:World} {base base':Nat} {e:TypeId} {size:Nat} {v:Value} {n:Nat} {xs:List Value} (h:w.ownsRow base e size v n xs) (hb:base'<=base):w.ownsRow base' e size v n xs:=by
 obtain ⟨h0,h1 | ⟨g,cap,cur,rfl,h2,h3,h4⟩⟩:=h
 ·exact ⟨h0,Or.inl h1⟩
 ·exact ⟨h0,Or.inr ⟨g,cap,cur,rfl,Nat.le_trans hb h2,h3,h4⟩⟩
theorem zej (w:World) (x:Value) (t:TypeId):∀ j u,[x][j]?=some u->(w.alloc (.cells #[x] t)).cell? ((⟨w.heap.size,0,none⟩:Addr).add j)=some u:=by
 intro j u hj
 rcases j with _ | j
 ·have e:(⟨w.heap.size,0,none⟩:Addr).add 0=⟨w.heap.size,0,none⟩:=rfl
  rw [e,World.cell?_alloc_at (hn:=rfl)]
  simpa using hj
 ·simp at hj
theorem zay {w w1:World} {row:Option Nat} {b:Nat} (hg:w.grownBy w1 row) (hb:b < w.heap.size) (h:∀ g,row=some g->b ≠ g):w1.heap[b]?=w.heap[b]? :=
 hg.block b hb (fun e=>h b e.symm rfl)
theorem zcx {B:Nat} {w0 w w1:World} {v x:Value} {t:TypeId} (h:Below B w0 w) (hB:B<=w.heap.size) (hg:(w.alloc (.cells #[x] t)).grownBy w1 v.ownBlock) (hr:∀ k,v.ownBlock=some k->B<=k):Below B w0 w1 :=
 (h.alloc hB _).grown hg (by simp;omega) hr
namespace Gate
def isSet (s:ByteArray):Bool:=!s.toList.isEmpty
def zK (m:Mnd):List ByteArray:=[m.wh,m.fr].filter isSet
def turns (m:Mnd) (s:Shp) (p:Nat):Bool:=decide (m.kd=s.kd) && decide (m.fd=(s.fs.getD p zbm).nm)
end Gate
theorem Tryz.zj8:(Tryz.prog.info? 3).map (fun i=>(i.zero,i.size,i.bytes))=some (some (.int .i64 0),1,8):=by kernel_rfl
set_option maxRecDepth 20000 in
theorem zey (m:Mnd) (w:World) :
 Calls Tryz.prog 175 #[.agg m.cells] w fun e w'=>∃ v,e = .returned v/\w'.ownsRow w.heap.size 9 1 v (Gate.zK m).length ((Gate.zK m).map Value.string)/\Below w.heap.size w w':=by
 unfold Mnd.cells
 obtain ⟨i0,hi,hz0,hz1',hz2⟩:=info_parts Tryz.zcf
 go_enter Tryz.func175,Tryz.ntmps175
 go_wp2_with fail
 go_loopw [3,12] (fun nv0 iv wr=>∃ (k:Nat) (nv:Value),nv=nv0/\k<=2/\iv = .int .i64 k/\wr.ownsRow (w.heap.size+2) 9 1 nv (([m.wh,m.fr].take k).filter Gate.isSet).length ((([m.wh,m.fr].take k).filter Gate.isSet).map Value.string)/\wr.heap[w.heap.size+1]?=some (.cells #[.string m.wh,.string m.fr] 9)/\Below w.heap.size w wr) (fun _ iv _=>2 - (intOf iv).toNat)
 case atStart=>exact ⟨0,_,rfl,by omega,rfl,World.ownsRow_nil _ _ _ _,(yw _ _ _).2,zC _ _ _⟩
 case round =>
  obtain ⟨k,nv,hnv,hk,rfl,hown,hlit,hB⟩:=hrel
  subst hnv
  by_cases hlt:k < 2
  ·have hltI:(k:Int) < 2:=by omega
   obtain ⟨x,hx,HT⟩:∃ x,(#[.string m.wh,.string m.fr]:Array Value)[k]?=some (.string x)/\Hid (([m.wh,m.fr].take (k+1)).filter Gate.isSet=([m.wh,m.fr].take k).filter Gate.isSet ++ if Gate.isSet x=true then [x] else []):=by
    rcases k with _ | _ | k
    ·refine ⟨m.wh,rfl,?_⟩
     by_cases h:Gate.isSet m.wh=true <;> simp [Hid,h]
    ·refine ⟨m.fr,rfl,?_⟩
     by_cases h:Gate.isSet m.fr=true <;> by_cases h':Gate.isSet m.wh=true <;> simp [Hid,h,h']
    ·omega
   have hcx:wr.cell? ⟨w.heap.size+1,k,none⟩=some (.string x):=by rw [cell_of_block hlit];exact hx
   have hlen:(([m.wh,m.fr].take k).filter Gate.isSet).length<=2:=Nat.le_trans (List.length_filter_le _ _) (by simp;omega)
   have HB:Hid (wr.heap[w.heap.size+1]?=some (.cells #[.string m.wh,.string m.fr] 9)/\Below w.heap.size w wr/\w.heap.size+1 < wr.heap.size):=⟨hlit,hB,(Array.getElem?_eq_some_iff.1 hlit).1⟩
   have HW:Hid (wr.ownsRow (w.heap.size+2) 9 1 nv (([m.wh,m.fr].take k).filter Gate.isSet).length ((([m.wh,m.fr].take k).filter Gate.isSet).map Value.string)):=hown
   clear hlit hB hx hown
   by_cases hs:x.toList.isEmpty=true
   ·have HE:Hid (Gate.isSet x=false):=by unfold Hid Gate.isSet;rw [hs];rfl
    go_wp2_with fail
    have HT':([m.wh,m.fr].take (k+1)).filter Gate.isSet=([m.wh,m.fr].take k).filter Gate.isSet:=by rw [HT.out,HE.out];simp
    exact ⟨⟨k+1,_,rfl,by omega,by go_num,by rw [HT'];exact HW.out,HB.out.1,HB.out.2.1⟩,zw hlt⟩
   ·have hs':x.toList.isEmpty=false:=by simpa using hs
    have HE:Hid (Gate.isSet x=true):=by unfold Hid Gate.isSet;rw [hs'];rfl
    clear hs
    go_wp2_with (at_builtin;refine wpList_append_own _ rfl (.tmp 18) (.tmp 20) 91 rfl (w.heap.size+2) 9 i0 (.string ByteArray.empty) 1 16 Tryz.underlying91 hi hz0 hz1' hz2 rfl (by decide) _ _ _ rfl (HW.out.alloc _) ⟨wr.heap.size,0,none⟩ 1 1 [.string x] rfl rfl (zej _ _ _) (by intro u hu;simp at hu;subst hu;rfl) (by unfold maxLen;omega) (by omega) (by have:=HB.out.2.2;simp;omega) ?_;intro v' w1 hown' hgr _)
    have HT':([m.wh,m.fr].take (k+1)).filter Gate.isSet=([m.wh,m.fr].take k).filter Gate.isSet ++ [x]:=by rw [HT.out,HE.out];simp
    have hgb:∀ g,nv.ownBlock=some g->w.heap.size+2<=g:=fun g hg=>(HW.out.lt g hg).1
    refine ⟨⟨k+1,_,rfl,by omega,by go_num,?_,?_,zcx HB.out.2.1 HB.out.2.1.size hgr (fun g hg=>by have:=hgb g hg;omega)⟩,zw hlt⟩
    ·rw [HT',List.length_append,List.map_append];exact hown'
    ·rw [zay hgr (by have:=HB.out.2.2;simp;omega) (fun g hg=>by have:=hgb g hg;omega),Below.heap_alloc _ _ _ HB.out.2.2];exact HB.out.1
  ·have e:k=2:=by omega
   subst e
   have HF:Hid (wr.ownsRow w.heap.size 9 1 nv (Gate.zK m).length ((Gate.zK m).map Value.string)/\Below w.heap.size w wr):=⟨zcA hown (by omega),hB⟩
   clear hown hlit hB
   go_wp2_with fail
   go_ret
   exact ⟨nv,rfl,HF.out⟩
theorem zjM (m:Mnd) (s:Shp) (fa:Option Addr) (fcap p:Nat) (w:World) (hf:zR w fa s.fs) (hp:p < s.fs.length) :
 Calls Tryz.prog 180 #[.agg m.cells,.agg #[.string s.kd,.slice fa s.fs.length fcap],.int .i64 p] w fun e w'=>e = .returned (.bool (Gate.turns m s p))/\Below w.heap.size w w':=by
 unfold Mnd.cells
 have hB:∀ o1 o2,Below w.heap.size w ((w.alloc o1).alloc o2):=fun o1 o2=>zC w o1 o2
 have hl:=hf.len
 unfold maxLen at hl
 obtain ⟨b,off,rfl,hb,hr⟩:=hf.rows (by intro e;rw [e] at hp;simp at hp)
 obtain ⟨wa,wcap,hf0⟩:=hr p hp
 obtain ⟨c0,c1,c2,c3,c4,c5,c6,c7,c8,c9,c10⟩:=hf0.load
 have hpI:(p:Int) < (s.fs.length:Int):=by omega
 have HD:Hid ((s.fs.getD p Gate.zbm).nm=s.fs[p].nm):=by unfold Hid;rw [Gate.getD_at _ _ _ hp]
 clear hf hr hf0 c1 c2 c3 c4 c5 c6 c7 c8 c9 c10
 by_cases h1:m.kd=s.kd
 ·by_cases h2:m.fd=s.fs[p].nm
  ·have HR:Hid (Gate.turns m s p=true):=by unfold Hid Gate.turns;rw [HD.out];simp [h1,h2]
   have hq:(m.kd.toList == s.kd.toList)=true:=by rw [Gate.beq_toList];simpa using h1
   have hr:(m.fd.toList == s.fs[p].nm.toList)=true:=by rw [Gate.beq_toList];simpa using h2
   clear h1 h2
   go_enter Tryz.func180,Tryz.ntmps180
   go_wp2_with fail
   go_quiet (fail)
   go_wp2_with fail
   go_ret
   exact ⟨by rw [HR.out];rfl,below_drewN (hB _ _) _⟩
  ·have HR:Hid (Gate.turns m s p=false):=by unfold Hid Gate.turns;rw [HD.out];simp [h1,h2]
   have hq:(m.kd.toList == s.kd.toList)=true:=by rw [Gate.beq_toList];simpa using h1
   have hr:(m.fd.toList == s.fs[p].nm.toList)=false:=by rw [Gate.beq_toList];simpa using h2
   clear h1 h2
   go_enter Tryz.func180,Tryz.ntmps180
   go_wp2_with fail
   go_quiet (fail)
   go_wp2_with fail
   go_ret
   exact ⟨by rw [HR.out];rfl,below_drewN (hB _ _) _⟩
 ·have HR:Hid (Gate.turns m s p=false):=by unfold Hid Gate.turns;rw [HD.out];simp [h1]
  have hq:(m.kd.toList == s.kd.toList)=false:=by rw [Gate.beq_toList];simpa using h1
  clear h1
  go_enter Tryz.func180,Tryz.ntmps180
  go_wp2_with fail
  go_quiet (fail)
  go_wp2_with fail
  go_ret
  exact ⟨by rw [HR.out];rfl,below_drewN (hB _ _) _⟩
namespace Gate
def yc (who:ByteArray):List Gr->List Rl
 | []=>[]
 | g :: gs=>if g.to=who then g.r :: yc who gs else yc who gs
theorem zcl (who:ByteArray):∀ a b:List Gr,yc who (a ++ b)=yc who a ++ yc who b
 | [],_=>rfl
 | g :: a,b=>by
  show (if g.to=who then g.r :: yc who (a ++ b) else yc who (a ++ b))=(if g.to=who then g.r :: yc who a else yc who a) ++ yc who b
  rw [zcl who a b];split <;> rfl
theorem zgE {gs:List Gr} {who:ByteArray} {k:Nat} (h:k < gs.length) (e:gs[k].to=who):yc who (gs.take (k+1))=yc who (gs.take k) ++ [gs[k].r]:=by
 rw [List.take_succ_eq_append_getElem h,zcl]
 congr 1
 show (if gs[k].to=who then gs[k].r :: yc who [] else yc who [])=_
 rw [if_pos e];rfl
theorem zh0 {gs:List Gr} {who:ByteArray} {k:Nat} (h:k < gs.length) (e:¬ gs[k].to=who):yc who (gs.take (k+1))=yc who (gs.take k):=by
 rw [List.take_succ_eq_append_getElem h,zcl]
 have:yc who [gs[k]]=[]:=by
  show (if gs[k].to=who then gs[k].r :: yc who [] else yc who [])=_
  rw [if_neg e];rfl
 rw [this,List.append_nil]
theorem zcu (who:ByteArray):∀ gs:List Gr,(yc who gs).length<=gs.length
 | []=>Nat.le_refl _
 | g :: gs=>by
  have h:=zcu who gs
  show (if g.to=who then g.r :: yc who gs else yc who gs).length<=_
  split <;> simp <;> omega
theorem zgS {who:ByteArray} (p:Rl->Prop):∀ {gs:List Gr},(∀ g ∈ gs,p g.r)->∀ r ∈ yc who gs,p r
 | [],_,r,hr=>by cases hr
 | g :: gs,h,r,hr=>by
  have hr':r ∈ (if g.to=who then g.r :: yc who gs else yc who gs):=hr
  have ih:=fun r=>zgS p (fun g' hg'=>h g' (List.mem_cons_of_mem _ hg')) (who:=who) (gs:=gs) r
  split at hr'
  ·rcases List.mem_cons.1 hr' with e | e
   ·rw [e];exact h g (List.mem_cons_self ..)
   ·exact ih r e
  ·exact ih r hr'
def zjv (l:Lw) (b:Bk) (who:ByteArray) (x:Ac):Bool:=(yc who b.gs).any fun r=>qy l.ts r x
end Gate
theorem Tryz.zlX:(Tryz.prog.info? 112).map (fun i=>(i.zero,i.size,i.bytes))=some (some (.agg #[.slice none 0 0,.string ByteArray.empty,.string ByteArray.empty,.string ByteArray.empty]),4,72):=by kernel_rfl
abbrev RlP:=Rl × Option Addr × Nat
def zaW:List RlP->List Value
 | []=>[]
 | p :: ps=>(p.1.cells p.2.1 p.2.2).toList ++ zaW ps
theorem zek:∀ a b:List RlP,zaW (a ++ b)=zaW a ++ zaW b
 | [],_=>rfl
 | p :: a,b=>by show _ ++ zaW (a ++ b)=(_ ++ zaW a) ++ zaW b;rw [zek a b,List.append_assoc]
theorem ziv:∀ (ps:List RlP) (i:Nat) (h:i < ps.length) (j:Nat),j < 4->(zaW ps)[i * 4+j]?=(ps[i].1.cells ps[i].2.1 ps[i].2.2)[j]?
 | [],i,h,_,_=>by simp at h
 | p :: ps,0,_,j,hj=>by
  show ((p.1.cells p.2.1 p.2.2).toList ++ zaW ps)[0 * 4+j]?=_
  have hl:(p.1.cells p.2.1 p.2.2).toList.length=4:=rfl
  rw [List.getElem?_append_left (by omega),Nat.zero_mul,Nat.zero_add,Array.getElem?_toList];rfl
 | p :: ps,i+1,h,j,hj=>by
  show ((p.1.cells p.2.1 p.2.2).toList ++ zaW ps)[(i+1) * 4+j]?=_
  have hl:(p.1.cells p.2.1 p.2.2).toList.length=4:=rfl
  rw [List.getElem?_append_right (by omega),hl,show (i+1) * 4+j - 4=i * 4+j by omega,ziv ps i (by simpa using h) j hj];rfl
def jW (w0:World) (lo:Nat) (w:World) (v:Value) (rs:List Rl):Prop :=
 ∃ ps:List RlP,ps.map (·.1)=rs/\(∀ p ∈ ps,p.1.Small/\yJ w0 p.2.1 p.1.vs)/\w.ownsRow lo 112 4 v ps.length (zaW ps)
theorem jW.later {w0:World} {lo:Nat} {w w':World} {v:Value} {rs:List Rl} (h:jW w0 lo w v rs) (hb:Below w.heap.size w w'):jW w0 lo w' v rs:=by
 obtain ⟨ps,h1,h2,h3⟩:=h
 exact ⟨ps,h1,h2,qP h3 hb⟩
theorem jW.nil (w0:World) (lo:Nat) (w:World):jW w0 lo w (.slice none 0 0) []:=⟨[],rfl,(fun _ h=>by cases h),World.ownsRow_nil _ _ _ _⟩
theorem jW.at {w0:World} {lo:Nat} {w:World} {v:Value} {rs:List Rl} (h:jW w0 lo w v rs) (hb:Below w0.heap.size w0 w) (hl:rs.length<=maxLen):∃ a cap,v = .slice a rs.length cap/\zeJ w a rs:=by
 obtain ⟨ps,h1,h2,h3⟩:=h
 have hn:ps.length=rs.length:=by rw [<- h1,List.length_map]
 obtain ⟨_,⟨h0,hz⟩ | ⟨g,cp,cur,h0,h4⟩⟩:=id h3
 ·refine ⟨none,0,by rw [h0,<- hn,hz],hl,fun hne=>?_⟩
  exact absurd (List.length_eq_zero_iff.1 (hn ▸ hz)) hne
 ·subst h0
  refine ⟨_,cp,by rw [hn],hl,fun _=>⟨g,0,rfl,(h3.lt g rfl).2,fun i hi=>?_⟩⟩
  have hi':i < ps.length:=by omega
  have he:rs[i]=ps[i].1:=by simp [<- h1]
  have hp:=h2 _ (List.getElem_mem hi')
  refine ⟨ps[i].2.1,ps[i].2.2,?_,?_,fun j hj=>?_⟩
  ·rw [he];exact hp.1
  ·rw [he];exact hp.2.mono hb
  ·rw [he,Nat.zero_add,h3.cellAt (i * 4+j) (by omega),ziv ps i hi' j hj]
theorem jW.snoc {w0:World} {lo:Nat} {w:World} {v:Value} {rs:List Rl} {ps:List RlP} {r:Rl} {a:Option Addr} {cap:Nat} (h1:ps.map (·.1)=rs) (h2:∀ p ∈ ps,p.1.Small/\yJ w0 p.2.1 p.1.vs) (hr:r.Small) (hi:yJ w0 a r.vs)
 (h3:w.ownsRow lo 112 4 v (ps.length+1) (zaW ps ++ [.slice a r.vs.length cap,.string r.kd,.string r.tm,.string r.px])):jW w0 lo w v (rs ++ [r]):=by
 refine ⟨ps ++ [(r,a,cap)],by rw [List.map_append,h1];rfl,fun p hp=>?_,?_⟩
 ·rcases List.mem_append.1 hp with hp | hp
  ·exact h2 p hp
  ·obtain rfl:=List.mem_singleton.1 hp
   exact ⟨hr,hi⟩
 ·rw [zek,List.length_append]
  exact h3
theorem zjE (w:World) (x0 x1 x2 x3:Value) (t:TypeId):∀ j u,[x0,x1,x2,x3][j]?=some u->(w.alloc (.cells #[x0,x1,x2,x3] t)).cell? ((⟨w.heap.size,0,none⟩:Addr).add j)=some u:=by
 intro j u hj
 have e:(⟨w.heap.size,0,none⟩:Addr).add j=⟨w.heap.size,j,none⟩:=by
  rcases j with _ | j
  ·rfl
  ·simp [Addr.add]
 rw [e,World.cell?_alloc_at (hn:=rfl)]
 simpa using hj
theorem zfr {B:Nat} {w0 w w1:World} {v:Value} {o:Obj} (h:Below B w0 w) (hB:B<=w.heap.size) (hg:(w.alloc o).grownBy w1 v.ownBlock) (hr:∀ k,v.ownBlock=some k->B<=k):Below B w0 w1 :=
 (h.alloc hB _).grown hg (by simp;omega) hr
end Go.Proofs.YtaickbhifenbjaaGreat
