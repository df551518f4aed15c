import Derived.Test.YtghnakljnhnenaaGreatM11
set_option maxHeartbeats 4000000
namespace Go.Proofs.YtghnakljnhnenaaGreat
open Go.RowKit
theorem zdh (nm:ByteArray) (ls ms:Int) (a:Option Addr) (cap:Nat) (ws:List ByteArray) (to:ByteArray) (rl:Int) (mu fx:Bool) (df wg:ByteArray) (a0:Option Addr) (cap0:Nat) (ss:List Shp) (w:World) (hw:yI w a0 ss) :
 Calls Tryz.prog 256 #[.agg #[.string nm,.int .i64 4,.int .i64 ls,.int .i64 ms,.slice a ws.length cap,.string to,.int .i64 rl,.bool mu,.bool fx,.string df,.string wg],.slice a0 ss.length cap0] w fun e w'=>e = .returned (.bool (Gate.zZ ss ⟨nm,4,ls,ms,ws,to,rl,mu,fx,df,wg⟩))/\Below w.heap.size w w':=by
 have HF:Hid (Gate.zZ ss ⟨nm,4,ls,ms,ws,to,rl,mu,fx,df,wg⟩=(Gate.zF ss to && (decide (1<=rl) && decide (rl<=3)) && df.toList.isEmpty && (decide (rl ≠ 2) || !mu))):=by simp [Gate.zZ,Hid]
 by_cases hk:Gate.zF ss to=true
 rotate_left
 ·have hk':Gate.zF ss to=false:=by simpa using hk
  have HK:Hid (Gate.zF ss to=false):=hk';clear hk hk';go_enter Tryz.func256,Tryz.ntmps256;go_wp2_with fail
  refine (qN _ _ _ _ _ (hw.mono (bAl _ _))).mono ?_;rintro e w1 ⟨fa,fcap,rfl,_,hb1⟩;rw [HK.out];have hX1:=za (zm w _ _) (by simp) hb1;have hz1:w.heap.size < w1.heap.size:=by have:=hb1.size;simp at this;omega
  have hB1:Below w.heap.size w w1:=(bAl _ _).trans (hb1.mono (by simp));clear hb1 hw;go_wp2_with fail
  go_ret;exact ⟨ze (by rw [HF.out,HK.out];rfl),hB1.alloc (by omega) _⟩
 have HK:Hid (Gate.zF ss to=true):=hk;clear hk
 by_cases hd:df.toList.isEmpty=true
 rotate_left
 ·have hd':df.toList.isEmpty=false:=by simpa using hd
  clear hd;go_enter Tryz.func256,Tryz.ntmps256;go_wp2_with fail
  refine (qN _ _ _ _ _ (hw.mono (bAl _ _))).mono ?_;rintro e w1 ⟨fa,fcap,rfl,_,hb1⟩;rw [HK.out];have hX1:=za (zm w _ _) (by simp) hb1;have hz1:w.heap.size < w1.heap.size:=by have:=hb1.size;simp at this;omega
  have hB1:Below w.heap.size w w1:=(bAl _ _).trans (hb1.mono (by simp));clear hb1 hw;go_wp2_with fail
  go_ret;exact ⟨ze (by rw [HF.out,HK.out,hd'];simp),hB1.alloc (by omega) _⟩
 by_cases h1:rl=1
 ·subst h1
  go_enter Tryz.func256,Tryz.ntmps256;go_wp2_with fail
  refine (qN _ _ _ _ _ (hw.mono (bAl _ _))).mono ?_;rintro e w1 ⟨fa,fcap,rfl,_,hb1⟩;rw [HK.out];have hX1:=za (zm w _ _) (by simp) hb1;have hz1:w.heap.size < w1.heap.size:=by have:=hb1.size;simp at this;omega
  have hB1:Below w.heap.size w w1:=(bAl _ _).trans (hb1.mono (by simp));clear hb1 hw;go_wp2_with fail
  go_ret;exact ⟨ze (by rw [HF.out,HK.out,hd];rfl),hB1.alloc (by omega) _⟩
 by_cases h3:rl=3
 ·subst h3
  go_enter Tryz.func256,Tryz.ntmps256;go_wp2_with fail
  refine (qN _ _ _ _ _ (hw.mono (bAl _ _))).mono ?_;rintro e w1 ⟨fa,fcap,rfl,_,hb1⟩;rw [HK.out];have hX1:=za (zm w _ _) (by simp) hb1;have hz1:w.heap.size < w1.heap.size:=by have:=hb1.size;simp at this;omega
  have hB1:Below w.heap.size w w1:=(bAl _ _).trans (hb1.mono (by simp));clear hb1 hw;go_wp2_with fail
  go_ret;exact ⟨ze (by rw [HF.out,HK.out,hd];rfl),hB1.alloc (by omega) _⟩
 by_cases h2:rl=2
 ·subst h2
  clear h1 h3;go_enter Tryz.func256,Tryz.ntmps256;go_wp2_with fail
  refine (qN _ _ _ _ _ (hw.mono (bAl _ _))).mono ?_;rintro e w1 ⟨fa,fcap,rfl,_,hb1⟩;rw [HK.out];have hX1:=za (zm w _ _) (by simp) hb1;have hz1:w.heap.size < w1.heap.size:=by have:=hb1.size;simp at this;omega
  have hB1:Below w.heap.size w w1:=(bAl _ _).trans (hb1.mono (by simp));clear hb1 hw;go_wp2_with fail
  go_ret;exact ⟨ze (by rw [HF.out,HK.out,hd];rfl),hB1.alloc (by omega) _⟩
 ·have HR:Hid ((decide (1<=rl) && decide (rl<=3))=false):=by unfold Hid;rw [Bool.eq_false_iff];simp;omega
  have e1:(rl == 1)=false:=by simpa using h1
  have e2:(rl == 2)=false:=by simpa using h2
  have e3:(rl == 3)=false:=by simpa using h3
  clear h1 h2 h3;go_enter Tryz.func256,Tryz.ntmps256;go_wp2_with fail
  refine (qN _ _ _ _ _ (hw.mono (bAl _ _))).mono ?_;rintro e w1 ⟨fa,fcap,rfl,_,hb1⟩;rw [HK.out];have hX1:=za (zm w _ _) (by simp) hb1;have hz1:w.heap.size < w1.heap.size:=by have:=hb1.size;simp at this;omega
  have hB1:Below w.heap.size w w1:=(bAl _ _).trans (hb1.mono (by simp));clear hb1 hw;go_wp2_with fail
  go_ret;exact ⟨ze (by rw [HF.out,HK.out,HR.out];simp),hB1.alloc (by omega) _⟩
theorem zjD (nm:ByteArray) (kd ls ms:Int) (sl:Value) (to:ByteArray) (rl:Int) (mu fx:Bool) (df wg:ByteArray) (v:ByteArray) (bn:Nat) (w:World) (hb:bn < w.heap.size) (hn:w.cell? ⟨bn,0,none⟩=some (.string v)) :
 Calls Tryz.prog 205 #[.agg #[.string nm,.int .i64 kd,.int .i64 ls,.int .i64 ms,sl,.string to,.int .i64 rl,.bool mu,.bool fx,.string df,.string wg],.pointer (some ⟨bn,0,none⟩)] w fun e w'=>e = .returned (.bool (nm.toList == v.toList))/\Below w.heap.size w w':=by
 go_enter Tryz.func205,Tryz.ntmps205
 go_wp2
 go_ret;exact ⟨rfl,bAl _ _⟩
theorem zj9 (a:Option Addr) (cap:Nat) (fs:List Fld) (v:ByteArray) (bn:Nat) (w:World) (hw:zP w a fs) (hbn:bn < w.heap.size) (hn:w.cell? ⟨bn,0,none⟩=some (.string v)) :
 Calls Tryz.prog 204 #[.slice a fs.length cap,.func (.func 205) #[] #[.pointer (some ⟨bn,0,none⟩)]] w fun e w'=>e = .returned (.int .i64 (Gate.zR fs v))/\Below w.heap.size w w':=by
 have hl:=hw.len;unfold maxLen at hl;go_enter Tryz.func204,Tryz.ntmps204
 go_wp2
 go_loopw [8] (fun i wr=>∃ k:Nat,k<=fs.length/\i = .int .i64 k/\Gate.hasName (fs.take k) v=false/\Below w.heap.size w wr) (fun i _=>fs.length - (intOf i).toNat)
 case atStart=>exact ⟨0,Nat.zero_le _,rfl,rfl,bRf _ _⟩
 case round =>
  obtain ⟨k,hk,rfl,hno,hB⟩:=hrel
  by_cases hlt:k < fs.length
  ·obtain ⟨b,off,rfl,hb,hr⟩:=hw.rows (by rintro rfl;simp at hlt)
   obtain ⟨wa,wcap,hf⟩:=hr k hlt;obtain ⟨c0,c1,c2,c3,c4,c5,c6,c7,c8,c9,c10⟩:=(hf.mono hb hB).load;have hn1:=(hB.cell (p:=⟨bn,0,none⟩) hbn).trans hn;have hbn1:bn < wr.heap.size:=nLt hbn hB.size;clear hw hr hf hn
   by_cases he:fs[k].nm=v
   ·have HA:Hid (Gate.zR fs v=k):=Gate.zeb fs v k hlt hno he
    have HE:Hid ((fs[k].nm.toList == v.toList)=true):=by unfold Hid;rw [Gate.beq_toList];simpa using he
    clear he hno;go_wp2_with fail
    refine (zf HE.out (zjD _ _ _ _ _ _ _ _ _ _ _ _ _ _ hbn1 hn1)).mono ?_;rintro e w2 ⟨rfl,hb2⟩;go_wp2_with fail
    go_ret;exact ⟨zq HA.out.symm,hB.trans (hb2.mono hB.size)⟩
   ·have HS:Hid (Gate.hasName (fs.take (k+1)) v=false):=by unfold Hid;rw [Gate.zdV fs v k hlt,hno,decide_eq_false he];rfl
    have HE:Hid ((fs[k].nm.toList == v.toList)=false):=by unfold Hid;rw [Gate.beq_toList];simpa using he
    clear he hno;go_wp2_with fail
    refine (zf HE.out (zjD _ _ _ _ _ _ _ _ _ _ _ _ _ _ hbn1 hn1)).mono ?_;rintro e w2 ⟨rfl,hb2⟩;go_wp2_with fail
    exact ⟨⟨k+1,by omega,by go_num,HS.out,hB.trans (hb2.mono hB.size)⟩,by simp [intOf];omega⟩
  ·have HA:Hid (Gate.zR fs v=-1):=Gate.zfH fs v (by rw [<- Gate.zhE fs v k (by omega)];exact hno)
   clear hno hw
   go_wp2
   go_ret;exact ⟨zq HA.out.symm,hB⟩
theorem jl (a:Option Addr) (cap:Nat) (fs:List Fld) (v:ByteArray) (w:World) (hw:zP w a fs) :
 Calls Tryz.prog 185 #[.slice a fs.length cap,.string v] w fun e w'=>e = .returned (.int .i64 (Gate.zR fs v))/\Below w.heap.size w w':=by
 go_enter Tryz.func185,Tryz.ntmps185;go_wp2_with fail
 refine (zj9 _ _ _ v _ _ (hw.mono (bAl _ _)) (by simp) (by rw [World.cell?_alloc_at _ _ _ _ rfl];rfl)).mono ?_;rintro e w2 ⟨rfl,hb2⟩;go_wp2_with fail
 go_ret;exact ⟨rfl,(bAl _ _).trans (hb2.mono (by simp))⟩
theorem zao {w w':World} {base:Nat} {e:TypeId} {size:Nat} {v:Value} {n:Nat} {xs:List Value} (h:w.ownsRow base e size v n xs) (hb:∀ g,v.ownBlock=some g->w'.heap[g]?=w.heap[g]?):w'.ownsRow base e size v n xs:=by
 obtain ⟨h0,h1 | ⟨g,cap,cur,rfl,h2,h3,h4⟩⟩:=h
 ·exact ⟨h0,Or.inl h1⟩
 ·exact ⟨h0,Or.inr ⟨g,cap,cur,rfl,h2,(hb g rfl).trans h3,h4⟩⟩
theorem yO {w w':World} {base:Nat} {e:TypeId} {size:Nat} {v:Value} {n:Nat} {xs:List Value} (h:w.ownsRow base e size v n xs) (hb:Below w.heap.size w w'):w'.ownsRow base e size v n xs :=
 zao h fun g hg=>hb.block g (h.lt g hg).2
theorem j3 {w:World} {base base':Nat} {e:TypeId} {size:Nat} {v:Value} {n:Nat} {xs:List Value} (h:w.ownsRow base e size v n xs) (hb:base'<=base):w.ownsRow base' e size v n xs:=by
 obtain ⟨h0,h1 | ⟨g,cap,cur,rfl,h2,h3,h4⟩⟩:=h
 ·exact ⟨h0,Or.inl h1⟩
 ·exact ⟨h0,Or.inr ⟨g,cap,cur,rfl,Nat.le_trans hb h2,h3,h4⟩⟩
theorem zca (w:World) (x:Value) (t:TypeId):∀ j u,[x][j]?=some u->(w.alloc (.cells #[x] t)).cell? ((⟨w.heap.size,0,none⟩:Addr).add j)=some u:=by
 intro j u hj
 rcases j with _ | j
 ·have e:(⟨w.heap.size,0,none⟩:Addr).add 0=⟨w.heap.size,0,none⟩:=rfl
  rw [e,World.cell?_alloc_at (hn:=rfl)]
  simpa using hj
 ·simp at hj
theorem zaI {w w1:World} {row:Option Nat} {b:Nat} (hg:w.grownBy w1 row) (hb:b < w.heap.size) (h:∀ g,row=some g->b ≠ g):w1.heap[b]?=w.heap[b]? :=
 hg.block b hb (fun e=>h b e.symm rfl)
theorem zaQ {B:Nat} {w0 w w1:World} {v x:Value} {t:TypeId} (h:Below B w0 w) (hB:B<=w.heap.size) (hg:(w.alloc (.cells #[x] t)).grownBy w1 v.ownBlock) (hr:∀ k,v.ownBlock=some k->B<=k):Below B w0 w1 :=
 (h.alloc hB _).grown hg (by simp;omega) hr
namespace Gate
def isSet (s:ByteArray):Bool:=!s.toList.isEmpty
def zK (m:Mnd):List ByteArray:=[m.wh,m.fr].filter isSet
def turns (m:Mnd) (s:Shp) (p:Nat):Bool:=decide (m.kd=s.kd) && decide (m.fd=(s.fs.getD p zbC).nm)
end Gate
theorem Tryz.zfS:(Tryz.prog.info? 3).map (fun i=>(i.zero,i.size,i.bytes))=some (some (.int .i64 0),1,8):=by kernel_rfl
set_option maxRecDepth 20000 in
theorem ze7 (m:Mnd) (w:World) :
 Calls Tryz.prog 183 #[.agg m.cells] w fun e w'=>∃ v,e = .returned v/\w'.ownsRow w.heap.size 9 1 v (Gate.zK m).length ((Gate.zK m).map Value.string)/\Below w.heap.size w w':=by
 unfold Mnd.cells;obtain ⟨i0,hi,hz0,hz1',hz2⟩:=info_parts Tryz.zcP;go_enter Tryz.func183,Tryz.ntmps183;go_wp2_with fail
 go_loopw [3,12] (fun nv0 iv wr=>∃ (k:Nat) (nv:Value),nv=nv0/\k<=2/\iv = .int .i64 k/\wr.ownsRow (w.heap.size+2) 9 1 nv (([m.wh,m.fr].take k).filter Gate.isSet).length ((([m.wh,m.fr].take k).filter Gate.isSet).map Value.string)/\wr.heap[w.heap.size+1]?=some (.cells #[.string m.wh,.string m.fr] 9)/\Below w.heap.size w wr) (fun _ iv _=>2 - (intOf iv).toNat)
 case atStart=>exact ⟨0,_,rfl,by omega,rfl,World.ownsRow_nil _ _ _ _,(yh _ _ _).2,zA _ _ _⟩
 case round =>
  obtain ⟨k,nv,hnv,hk,rfl,hown,hlit,hB⟩:=hrel;subst hnv
  by_cases hlt:k < 2
  ·have hltI:(k:Int) < 2:=by omega
   obtain ⟨x,hx,HT⟩:∃ x,(#[.string m.wh,.string m.fr]:Array Value)[k]?=some (.string x)/\Hid (([m.wh,m.fr].take (k+1)).filter Gate.isSet=([m.wh,m.fr].take k).filter Gate.isSet ++ if Gate.isSet x=true then [x] else []):=by
    rcases k with _ | _ | k
    ·refine ⟨m.wh,rfl,?_⟩
     by_cases h:Gate.isSet m.wh=true <;> simp [Hid,h]
    ·refine ⟨m.fr,rfl,?_⟩
     by_cases h:Gate.isSet m.fr=true <;> by_cases h':Gate.isSet m.wh=true <;> simp [Hid,h,h']
    ·omega
   have hcx:wr.cell? ⟨w.heap.size+1,k,none⟩=some (.string x):=by rw [cell_of_block hlit];exact hx
   have hlen:(([m.wh,m.fr].take k).filter Gate.isSet).length<=2:=Nat.le_trans (List.length_filter_le _ _) (by simp;omega);have HB:Hid (wr.heap[w.heap.size+1]?=some (.cells #[.string m.wh,.string m.fr] 9)/\Below w.heap.size w wr/\w.heap.size+1 < wr.heap.size):=⟨hlit,hB,(gES hlit).1⟩
   have HW:Hid (wr.ownsRow (w.heap.size+2) 9 1 nv (([m.wh,m.fr].take k).filter Gate.isSet).length ((([m.wh,m.fr].take k).filter Gate.isSet).map Value.string)):=hown;clear hlit hB hx hown
   by_cases hs:x.toList.isEmpty=true
   ·have HE:Hid (Gate.isSet x=false):=by unfold Hid Gate.isSet;rw [hs];rfl
    go_wp2_with fail
    have HT':([m.wh,m.fr].take (k+1)).filter Gate.isSet=([m.wh,m.fr].take k).filter Gate.isSet:=by rw [HT.out,HE.out];simp
    exact ⟨⟨k+1,_,rfl,by omega,by go_num,by rw [HT'];exact HW.out,HB.out.1,HB.out.2.1⟩,zn hlt⟩
   ·have hs':x.toList.isEmpty=false:=by simpa using hs
    have HE:Hid (Gate.isSet x=true):=by unfold Hid Gate.isSet;rw [hs'];rfl
    clear hs
    go_wp2_with (at_builtin;refine wpList_append_own _ rfl (.tmp 18) (.tmp 20) 102 rfl (w.heap.size+2) 9 i0 (.string ByteArray.empty) 1 16 Tryz.underlying102 hi hz0 hz1' hz2 rfl (by decide) _ _ _ rfl (HW.out.alloc _) ⟨wr.heap.size,0,none⟩ 1 1 [.string x] rfl rfl (zca _ _ _) (by intro u hu;simp at hu;subst hu;rfl) (by unfold maxLen;omega) (by omega) (by have:=HB.out.2.2;simp;omega) ?_;intro v' w1 hown' hgr _)
    have HT':([m.wh,m.fr].take (k+1)).filter Gate.isSet=([m.wh,m.fr].take k).filter Gate.isSet ++ [x]:=by rw [HT.out,HE.out];simp
    have hgb:∀ g,nv.ownBlock=some g->w.heap.size+2<=g:=fun g hg=>(HW.out.lt g hg).1
    refine ⟨⟨k+1,_,rfl,by omega,by go_num,?_,?_,zaQ HB.out.2.1 HB.out.2.1.size hgr (fun g hg=>by have:=hgb g hg;omega)⟩,zn hlt⟩
    ·rw [HT',List.length_append,List.map_append];exact hown'
    ·rw [zaI hgr (by have:=HB.out.2.2;simp;omega) (fun g hg=>by have:=hgb g hg;omega),Below.heap_alloc _ _ _ HB.out.2.2];exact HB.out.1
  ·have e:k=2:=by omega
   subst e;have HF:Hid (wr.ownsRow w.heap.size 9 1 nv (Gate.zK m).length ((Gate.zK m).map Value.string)/\Below w.heap.size w wr):=⟨j3 hown (by omega),hB⟩
   clear hown hlit hB;go_wp2_with fail
   go_ret;exact ⟨nv,rfl,HF.out⟩
theorem zks (m:Mnd) (s:Shp) (fa:Option Addr) (fcap p:Nat) (w:World) (hf:zP w fa s.fs) (hp:p < s.fs.length) :
 Calls Tryz.prog 188 #[.agg m.cells,.agg #[.string s.kd,.slice fa s.fs.length fcap],.int .i64 p] w fun e w'=>e = .returned (.bool (Gate.turns m s p))/\Below w.heap.size w w':=by
 unfold Mnd.cells;have hB:∀ o1 o2,Below w.heap.size w ((w.alloc o1).alloc o2):=fun o1 o2=>zA w o1 o2
 have hl:=hf.len;unfold maxLen at hl;obtain ⟨b,off,rfl,hb,hr⟩:=hf.rows (by intro e;rw [e] at hp;simp at hp);obtain ⟨wa,wcap,hf0⟩:=hr p hp;obtain ⟨c0,c1,c2,c3,c4,c5,c6,c7,c8,c9,c10⟩:=hf0.load;have hpI:(p:Int) < (s.fs.length:Int):=by omega
 have HD:Hid ((s.fs.getD p Gate.zbC).nm=s.fs[p].nm):=by unfold Hid;rw [Gate.getD_at _ _ _ hp]
 clear hf hr hf0 c1 c2 c3 c4 c5 c6 c7 c8 c9 c10
 by_cases h1:m.kd=s.kd
 ·by_cases h2:m.fd=s.fs[p].nm
  ·have HR:Hid (Gate.turns m s p=true):=by unfold Hid Gate.turns;rw [HD.out];simp [h1,h2]
   have hq:(m.kd.toList == s.kd.toList)=true:=by rw [Gate.beq_toList];simpa using h1
   have hr:(m.fd.toList == s.fs[p].nm.toList)=true:=by rw [Gate.beq_toList];simpa using h2
   clear h1 h2;go_enter Tryz.func188,Tryz.ntmps188;go_wp2_with fail
   go_quiet (fail)
   go_wp2_with fail
   go_ret;exact ⟨by rw [HR.out];rfl,below_drewN (hB _ _) _⟩
  ·have HR:Hid (Gate.turns m s p=false):=by unfold Hid Gate.turns;rw [HD.out];simp [h1,h2]
   have hq:(m.kd.toList == s.kd.toList)=true:=by rw [Gate.beq_toList];simpa using h1
   have hr:(m.fd.toList == s.fs[p].nm.toList)=false:=by rw [Gate.beq_toList];simpa using h2
   clear h1 h2;go_enter Tryz.func188,Tryz.ntmps188;go_wp2_with fail
   go_quiet (fail)
   go_wp2_with fail
   go_ret;exact ⟨by rw [HR.out];rfl,below_drewN (hB _ _) _⟩
 ·have HR:Hid (Gate.turns m s p=false):=by unfold Hid Gate.turns;rw [HD.out];simp [h1]
  have hq:(m.kd.toList == s.kd.toList)=false:=by rw [Gate.beq_toList];simpa using h1
  clear h1;go_enter Tryz.func188,Tryz.ntmps188;go_wp2_with fail
  go_quiet (fail)
  go_wp2_with fail
  go_ret;exact ⟨by rw [HR.out];rfl,below_drewN (hB _ _) _⟩
namespace Gate
def zY (s:Shp) (ms:List Mnd) (p:Nat):List Int:=ms.flatMap fun m=>if turns m s p=true then (zK m).map (zR s.fs) else []
theorem zhJ (s:Shp) (ms:List Mnd) (p k:Nat) (h:k < ms.length):zY s (ms.take (k+1)) p=zY s (ms.take k) p ++ if turns ms[k] s p=true then (zK ms[k]).map (zR s.fs) else []:=by
 unfold zY;rw [tSe h,List.flatMap_append]
 simp
theorem zdN (m:Mnd):(zK m).length<=2:=List.length_filter_le _ _
theorem zg8 (s:Shp) (p:Nat):∀ ms:List Mnd,(zY s ms p).length<=ms.length * 2
 | []=>Nat.le_refl _
 | m :: ms=>by
  have h1:=zg8 s p ms;have h2:=zdN m;unfold zY at h1 ⊢;rw [List.flatMap_cons,List.length_append,List.length_cons]
  by_cases h:turns m s p=true
  ·rw [if_pos h,List.length_map];omega
  ·rw [if_neg h,List.length_nil];omega
end Gate
theorem znr {w:World} {lo lo':Nat} {e e':TypeId} {v v':Value} {n n':Nat} {xs xs':List Value} (h:w.ownsRow lo e 1 v n xs) (h':w.ownsRow lo' e' 1 v' n' xs') (he:e ≠ e'):∀ g,v.ownBlock=some g->∀ g',v'.ownBlock=some g'->g ≠ g':=by
 intro g hg g' hg' hgg;subst hgg;obtain ⟨_,⟨rfl,_⟩ | ⟨b,cap,cur,rfl,_,hh,_⟩⟩:=h
 ·cases hg
 ·obtain ⟨_,⟨rfl,_⟩ | ⟨b',cap',cur',rfl,_,hh',_⟩⟩:=h'
  ·cases hg'
  ·have e1:b=g:=Option.some.inj hg
   have e2:b'=g:=Option.some.inj hg';rw [e1] at hh;rw [e2,hh] at hh';simp only [Option.some.injEq,Obj.cells.injEq] at hh';exact he hh'.2.1
theorem yV {w:World} {lo:Nat} {e:TypeId} {v:Value} {n:Nat} {xs:List Value} (h:w.ownsRow lo e 1 v n xs):∃ a cap,v = .slice a n cap:=by
 obtain ⟨_,⟨rfl,h0⟩ | ⟨b,cap,cur,rfl,_⟩⟩:=h
 ·exact ⟨none,0,by rw [h0]⟩
 ·exact ⟨_,cap,rfl⟩
def ints (l:List Int):List Value:=l.map (Value.int .i64)
set_option maxRecDepth 20000 in
theorem zl1 (s:Shp) (ms:List Mnd) (p bm bs:Nat) (ma fa:Option Addr) (mcap fcap:Nat) (w:World) (hm:yY w ma ms) (hf:zP w fa s.fs) (hp:p < s.fs.length) (hl:ms.length<=1048576)
 (hbs:bs < w.heap.size) (hcm:w.cell? ⟨bm,0,none⟩=some (.slice ma ms.length mcap)) (hcs:∀ j,w.cell? ⟨bs,j,none⟩=(#[.string s.kd,.slice fa s.fs.length fcap]:Array Value)[j]?) :
 Calls Tryz.prog 187 #[.int .i64 p,.pointer (some ⟨bm,0,none⟩),.pointer (some ⟨bs,0,none⟩)] w fun e w'=>∃ v,e = .returned v/\w'.ownsRow w.heap.size 3 1 v (Gate.zY s ms p).length (ints (Gate.zY s ms p))/\Below w.heap.size w w':=by
 obtain ⟨i0,hi,hz0,hz1',hz2⟩:=info_parts Tryz.zfS;have HM:Hid (yY w ma ms):=hm;have HF:Hid (zP w fa s.fs):=hf;clear hm hf;go_enter Tryz.func187,Tryz.ntmps187;go_wp2_with fail
 go_loopw [5,12] (fun v0 iv wr=>∃ (k:Nat) (v:Value),v=v0/\k<=ms.length/\iv = .int .i64 k/\wr.ownsRow w.heap.size 3 1 v (Gate.zY s (ms.take k) p).length (ints (Gate.zY s (ms.take k) p))/\Below w.heap.size w wr) (fun _ iv _=>ms.length - (intOf iv).toNat)
 case atStart=>exact ⟨0,_,rfl,Nat.zero_le _,rfl,World.ownsRow_nil _ _ _ _,bRf _ _⟩
 case round =>
  obtain ⟨k,v,hv,hk,rfl,hown,hB⟩:=hrel;subst hv
  by_cases hlt:k < ms.length
  ·obtain ⟨b,off,rfl,hb,c0,c1,c2,c3,c4,c5⟩:=HM.out.load hB k hlt
   have hltI:(k:Int) < (ms.length:Int):=by omega
   have hbw:b < wr.heap.size:=nLt hb hB.size;have hcsr:=za hcs hbs hB;have hbsr:bs < wr.heap.size:=nLt hbs hB.size;have HW:Hid (wr.ownsRow w.heap.size 3 1 v (Gate.zY s (ms.take k) p).length (ints (Gate.zY s (ms.take k) p))):=hown;have HB:Hid (Below w.heap.size w wr):=hB;clear hown hB;go_wp2_with fail
   have hba:=(bRf wr.heap.size wr).alloc (Nat.le_refl _) (.cells #[.string ms[k].kd,.string ms[k].fd,.string ms[k].wh,.string ms[k].wi,.string ms[k].pt,.string ms[k].fr] 125);have ht:=zks ms[k] s fa fcap p (wr.alloc (.cells #[.string ms[k].kd,.string ms[k].fd,.string ms[k].wh,.string ms[k].wi,.string ms[k].pt,.string ms[k].fr] 125)) (HF.out.mono (HB.out.trans (hba.mono HB.out.size))) hp
   by_cases htt:Gate.turns ms[k] s p=true
   ·have HS:Hid (Gate.zY s (ms.take (k+1)) p=Gate.zY s (ms.take k) p ++ (Gate.zK ms[k]).map (Gate.zR s.fs)):=by unfold Hid;rw [Gate.zhJ s ms p k hlt,if_pos htt]
    rw [htt] at ht;refine ht.mono ?_;rintro e w1 ⟨rfl,hb1⟩;have hX1:=za (zm wr _ _) (by simp) hb1;have HB1:Hid (Below wr.heap.size wr w1):=hba.trans (hb1.mono hba.size);have hz1:wr.heap.size < w1.heap.size:=by have:=hb1.size;simp at this;omega
    have hcs1:=za hcsr hbsr HB1.out;clear ht hba hb1 c0 c1 c2 c3 c4 c5;go_wp2_with fail
    refine (ze7 ms[k] w1).mono ?_;rintro e w2 ⟨nv,rfl,hn,hb2⟩;obtain ⟨na,ncap,rfl⟩:=yV hn;have HN2:Hid (w2.ownsRow w1.heap.size 9 1 (.slice na (Gate.zK ms[k]).length ncap) (Gate.zK ms[k]).length ((Gate.zK ms[k]).map Value.string)):=hn;have HB2:Hid (Below wr.heap.size wr w2):=HB1.out.trans (hb2.mono HB1.out.size);have HW2:Hid (w2.ownsRow w.heap.size 3 1 v (Gate.zY s (ms.take k) p).length (ints (Gate.zY s (ms.take k) p))):=yO HW.out HB2.out;have HNL:Hid ((Gate.zK ms[k]).length<=2):=Gate.zdN _;have HRL:Hid ((Gate.zY s (ms.take k) p).length<=2097152):=by have h1:=Gate.zg8 s p (ms.take k);rw [List.length_take] at h1;show _<=_;omega
    have hcs2:=za hcs1 (Nat.lt_trans hbsr hz1) hb2;clear hn hb2 hX1 hcs1 hcsr
    revert HS HN2 HNL
    generalize Gate.zK ms[k]=names
    intro HS HN2 HNL;go_wp2_with fail
    have hszw:wr.heap.size<=w2.heap.size:=HB2.out.size
    go_loopw [5,24] (fun v0 iv wq=>∃ (j:Nat) (v1:Value),v1=v0/\j<=names.length/\iv = .int .i64 j/\wq.ownsRow w.heap.size 3 1 v1 ((Gate.zY s (ms.take k) p) ++ (names.take j).map (Gate.zR s.fs)).length (ints ((Gate.zY s (ms.take k) p) ++ (names.take j).map (Gate.zR s.fs)))/\wq.ownsRow w1.heap.size 9 1 (.slice na names.length ncap) names.length (names.map Value.string)/\Below w.heap.size w wq) (fun _ iv _=>names.length - (intOf iv).toNat)
    case atStart=>exact ⟨0,_,rfl,Nat.zero_le _,rfl,by simpa using HW2.out,HN2.out,HB.out.trans (HB2.out.mono HB.out.size)⟩
    case round =>
     obtain ⟨j,v1,hv1,hj,rfl,hown,hnames,hB⟩:=hrel;subst hv1
     by_cases hjl:j < names.length
     ·obtain ⟨g,rfl,hcell⟩:∃ g,na=some ⟨g,0,none⟩/\wr.cell? ⟨g,j,none⟩=some (.string names[j]):=by
       obtain ⟨_,⟨h0,h1⟩ | ⟨g,cap,cur,h0,h1⟩⟩:=id hnames
       ·rw [h1] at hjl;exact absurd hjl (by omega)
       ·cases h0
        refine ⟨g,rfl,?_⟩;rw [hnames.cellAt j (by omega)]
        simp [hjl]
      have hjI:(j:Int) < (names.length:Int):=by omega
      have hcsr:=za hcs hbs hB;have hbsr':bs < wr.heap.size:=nLt hbs hB.size;have HX:Hid (wr.ownsRow w.heap.size 3 1 v1 ((Gate.zY s (ms.take k) p) ++ (names.take j).map (Gate.zR s.fs)).length (ints ((Gate.zY s (ms.take k) p) ++ (names.take j).map (Gate.zR s.fs)))/\wr.ownsRow w1.heap.size 9 1 (.slice (some ⟨g,0,none⟩) names.length ncap) names.length (names.map Value.string)/\Below w.heap.size w wr):=⟨hown,hnames,hB⟩
      have HTK:Hid ((names.take (j+1)).map (Gate.zR s.fs)=(names.take j).map (Gate.zR s.fs) ++ [Gate.zR s.fs names[j]]):=by unfold Hid;rw [tSe hjl,List.map_append];rfl
      have HLL:Hid (((Gate.zY s (ms.take k) p) ++ (names.take j).map (Gate.zR s.fs)).length<=2097156):=by have h1:=HRL.out;have h2:=HNL.out;show _<=_;rw [List.length_append,List.length_map,List.length_take];omega
      clear hown hnames hB;go_wp2_with fail
      refine (jl fa fcap s.fs names[j] wr (HF.out.mono HX.out.2.2)).mono ?_;rintro e w3 ⟨rfl,hb3⟩;have HB3:Hid (Below wr.heap.size wr w3):=hb3;have HX3:Hid (w3.ownsRow w.heap.size 3 1 v1 ((Gate.zY s (ms.take k) p) ++ (names.take j).map (Gate.zR s.fs)).length (ints ((Gate.zY s (ms.take k) p) ++ (names.take j).map (Gate.zR s.fs)))/\w3.ownsRow w1.heap.size 9 1 (.slice (some ⟨g,0,none⟩) names.length ncap) names.length (names.map Value.string)/\Below w.heap.size w w3):=⟨yO HX.out.1 hb3,yO HX.out.2.1 hb3,HX.out.2.2.trans (hb3.mono HX.out.2.2.size)⟩
      clear hb3 hcell hcsr
      go_wp2_with (at_builtin;refine wpList_append_own _ rfl (.tmp 28) (.tmp 33) 35 rfl w.heap.size 3 i0 (.int .i64 0) 1 8 Tryz.underlying35 hi hz0 hz1' hz2 rfl (by decide) _ _ _ rfl (HX3.out.1.alloc _) ⟨w3.heap.size,0,none⟩ 1 1 [.int .i64 (Gate.zR s.fs names[j])] rfl rfl (zca _ _ _) (by intro u hu;simp at hu;subst hu;rfl) (by have:=HLL.out;unfold maxLen;omega) (by have:=HLL.out;omega) (by have:=HX3.out.2.2.size;simp;omega) ?_;intro v' w4 hown' hgr _)
      have hgb:∀ g',v1.ownBlock=some g'->w.heap.size<=g':=fun g' hg'=>(HX3.out.1.lt g' hg').1
      have hap:=znr HX3.out.1 HX3.out.2.1 (by decide);refine ⟨⟨j+1,_,rfl,by omega,by rw [wrap_one (by have:=HNL.out;omega)],?_,?_,zaQ HX3.out.2.2 HX3.out.2.2.size hgr hgb⟩,jr hjl (by have:=HNL.out;omega)⟩
      ·rw [HTK.out,<- List.append_assoc,List.length_append]
       have e1:ints ((Gate.zY s (ms.take k) p ++ (names.take j).map (Gate.zR s.fs)) ++ [Gate.zR s.fs names[j]])=ints (Gate.zY s (ms.take k) p ++ (names.take j).map (Gate.zR s.fs)) ++ [.int .i64 (Gate.zR s.fs names[j])]:=by simp [ints]
       rw [e1];exact hown'
      ·refine zao HX3.out.2.1 (fun g' hg'=>?_)
       rw [zaI hgr (by have:=(HX3.out.2.1.lt g' hg').2;simp;omega) (fun q hq=>fun e=>hap q hq g' hg' e.symm),Below.heap_alloc _ _ _ (HX3.out.2.1.lt g' hg').2]
     ·have e:j=names.length:=by omega
      subst e;rw [tOl (Nat.le_refl _),<- HS.out] at hown;have HX:Hid (wr.ownsRow w.heap.size 3 1 v1 (Gate.zY s (ms.take (k+1)) p).length (ints (Gate.zY s (ms.take (k+1)) p))/\Below w.heap.size w wr):=⟨hown,hB⟩
      clear hown hnames hB;go_wp2_with fail
      exact ⟨⟨k+1,_,rfl,by omega,by go_num,HX.out.1,HX.out.2⟩,zn hlt⟩
   ·have htf:Gate.turns ms[k] s p=false:=by simpa using htt
    have HS:Hid (Gate.zY s (ms.take (k+1)) p=Gate.zY s (ms.take k) p):=by unfold Hid;rw [Gate.zhJ s ms p k hlt,if_neg htt];simp
    rw [htf] at ht;refine ht.mono ?_;rintro e w1 ⟨rfl,hb1⟩;have HB1:Hid (Below wr.heap.size wr w1):=hba.trans (hb1.mono hba.size);clear ht hba hb1;go_wp2_with fail
    exact ⟨⟨k+1,_,rfl,by omega,by go_num,by rw [HS.out];exact yO HW.out HB1.out,HB.out.trans (HB1.out.mono HB.out.size)⟩,zn hlt⟩
  ·have e:k=ms.length:=by omega
   subst e;rw [tOl (Nat.le_refl _)] at hown;have HW:Hid (wr.ownsRow w.heap.size 3 1 v (Gate.zY s ms p).length (ints (Gate.zY s ms p))/\Below w.heap.size w wr):=⟨hown,hB⟩
   clear hown hB;go_wp2_with fail
   go_ret;exact ⟨v,rfl,HW.out⟩
end Go.Proofs.YtghnakljnhnenaaGreat
