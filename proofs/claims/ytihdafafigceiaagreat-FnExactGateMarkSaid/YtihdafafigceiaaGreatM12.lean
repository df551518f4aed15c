import Derived.Test.YtihdafafigceiaaGreatM11
import Derived.Test.YtihdafafigceiaaGreatM10
import Derived.Test.YtihdafafigceiaaGreatM01
import Derived.Test.YtihdafafigceiaaGreatM05
import Derived.Test.YtihdafafigceiaaGreatM09
import Derived.Deep.QuietTactic
import Derived.BigQuiet
set_option maxHeartbeats 2000000
namespace Go.Proofs.YtihdafafigceiaaGreat
open Go.RowKit
theorem zbh (ls ms lo hi:Int) (w:World) :
 Calls Tryz.prog 156 #[.int .i64 ls,.int .i64 ms,.int .i64 lo,.int .i64 hi] w fun e w'=>e = .returned (.bool (Gate.jE ls ms lo hi))/\w'=w:=by
 go_enter Tryz.func156,Tryz.ntmps156
 go_wp2
 all_goals
  go_ret
  refine ⟨ze ?_,rfl⟩
  rw [Bool.eq_iff_iff];simp [Gate.jE];try omega
theorem zbx (nm:ByteArray) (kd ls ms:Int) (a:Option Addr) (n cap:Nat) (to:ByteArray) (rl:Int) (mu fx:Bool) (df wg:ByteArray) (w:World) :
 Calls Tryz.prog 239 #[.agg #[.string nm,.int .i64 kd,.int .i64 ls,.int .i64 ms,.slice a n cap,.string to,.int .i64 rl,.bool mu,.bool fx,.string df,.string wg]] w fun e w'=>e = .returned (.bool (Gate.yF 1 ls ms n to rl wg))/\Below w.heap.size w w':=by
 go_enter Tryz.func239,Tryz.ntmps239
 go_wp2
 all_goals
  go_ret
  refine ⟨ze ?_,(Below.refl _ _).alloc (Nat.le_refl _) _⟩
  simp_all [Gate.yF]
  try (rw [Bool.eq_iff_iff];simp)
theorem zch (nm:ByteArray) (kd ls ms:Int) (a:Option Addr) (n cap:Nat) (to:ByteArray) (rl:Int) (mu fx:Bool) (df wg:ByteArray) (w:World) :
 Calls Tryz.prog 242 #[.agg #[.string nm,.int .i64 kd,.int .i64 ls,.int .i64 ms,.slice a n cap,.string to,.int .i64 rl,.bool mu,.bool fx,.string df,.string wg]] w fun e w'=>e = .returned (.bool (Gate.yF 2 ls ms n to rl wg))/\Below w.heap.size w w':=by
 go_enter Tryz.func242,Tryz.ntmps242
 go_wp2
 all_goals
  go_ret
  refine ⟨ze ?_,(Below.refl _ _).alloc (Nat.le_refl _) _⟩
  simp_all [Gate.yF]
  try (rw [Bool.eq_iff_iff];simp)
theorem zcd (nm:ByteArray) (kd ls ms:Int) (a:Option Addr) (n cap:Nat) (to:ByteArray) (rl:Int) (mu fx:Bool) (df wg:ByteArray) (w:World) :
 Calls Tryz.prog 247 #[.agg #[.string nm,.int .i64 kd,.int .i64 ls,.int .i64 ms,.slice a n cap,.string to,.int .i64 rl,.bool mu,.bool fx,.string df,.string wg]] w fun e w'=>e = .returned (.bool (Gate.yF 3 ls ms n to rl wg))/\Below w.heap.size w w':=by
 go_enter Tryz.func247,Tryz.ntmps247
 go_wp2
 all_goals
  go_ret
  refine ⟨ze ?_,(Below.refl _ _).alloc (Nat.le_refl _) _⟩
  simp_all [Gate.yF]
  try (rw [Bool.eq_iff_iff];simp)
theorem zci (nm:ByteArray) (kd ls ms:Int) (a:Option Addr) (n cap:Nat) (to:ByteArray) (rl:Int) (mu fx:Bool) (df wg:ByteArray) (w:World) :
 Calls Tryz.prog 250 #[.agg #[.string nm,.int .i64 kd,.int .i64 ls,.int .i64 ms,.slice a n cap,.string to,.int .i64 rl,.bool mu,.bool fx,.string df,.string wg]] w fun e w'=>e = .returned (.bool (Gate.yF 4 ls ms n to rl wg))/\Below w.heap.size w w':=by
 go_enter Tryz.func250,Tryz.ntmps250
 go_wp2
 all_goals
  go_ret
  refine ⟨ze ?_,(Below.refl _ _).alloc (Nat.le_refl _) _⟩
  simp_all [Gate.yF]
  try (rw [Bool.eq_iff_iff];simp)
theorem zb6 (nm:ByteArray) (ls ms:Int) (a:Option Addr) (cap:Nat) (ws:List ByteArray) (to:ByteArray) (rl:Int) (mu fx:Bool) (df wg:ByteArray) (a0:Option Addr) (cap0:Nat) (ss:List Shp) (w:World) (hwg:wg.size<=maxLen) :
 Calls Tryz.prog 241 #[.agg #[.string nm,.int .i64 1,.int .i64 ls,.int .i64 ms,.slice a ws.length cap,.string to,.int .i64 rl,.bool mu,.bool fx,.string df,.string wg],.slice a0 ss.length cap0] w fun e w'=>e = .returned (.bool (Gate.zW ss ⟨nm,1,ls,ms,ws,to,rl,mu,fx,df,wg⟩))/\Below w.heap.size w w':=by
 have HF:Hid (Gate.zW ss ⟨nm,1,ls,ms,ws,to,rl,mu,fx,df,wg⟩=(Gate.jE ls ms 0 1000000 && (wg.toList.isEmpty || Gate.zy wg))):=by simp [Gate.zW,Hid]
 by_cases hr:Gate.jE ls ms 0 1000000=true
 ·by_cases he:wg.toList.isEmpty=true
  ·go_enter Tryz.func241,Tryz.ntmps241
   go_wp2_with (go_at_call 156;refine (zbh _ _ _ _ _).mono ?_;rintro e w' ⟨rfl,rfl⟩)
   go_ret
   exact ⟨ze (by rw [HF.out,hr,he];rfl),(Below.refl _ _).alloc (Nat.le_refl _) _⟩
  ·have he':wg.toList.isEmpty=false:=by simpa using he
   clear he
   go_enter Tryz.func241,Tryz.ntmps241
   go_wp2_with (first | (go_at_call 156;refine (zbh _ _ _ _ _).mono ?_;rintro e w' ⟨rfl,rfl⟩) | (go_at_call 140;refine (zF _ _ hwg).mono ?_;rintro e w' ⟨rfl,rfl⟩))
   go_ret
   exact ⟨ze (by rw [HF.out,hr,he'];rfl),(Below.refl _ _).alloc (Nat.le_refl _) _⟩
 ·have hr':Gate.jE ls ms 0 1000000=false:=by simpa using hr
  clear hr
  go_enter Tryz.func241,Tryz.ntmps241
  go_wp2_with (go_at_call 156;refine (zbh _ _ _ _ _).mono ?_;rintro e w' ⟨rfl,rfl⟩)
  go_ret
  exact ⟨ze (by rw [HF.out,hr'];rfl),(Below.refl _ _).alloc (Nat.le_refl _) _⟩
theorem zcY (nm:ByteArray) (ls ms:Int) (a:Option Addr) (cap:Nat) (ws:List ByteArray) (to:ByteArray) (rl:Int) (mu fx:Bool) (df wg:ByteArray) (a0:Option Addr) (cap0:Nat) (ss:List Shp) (w:World) :
 Calls Tryz.prog 249 #[.agg #[.string nm,.int .i64 3,.int .i64 ls,.int .i64 ms,.slice a ws.length cap,.string to,.int .i64 rl,.bool mu,.bool fx,.string df,.string wg],.slice a0 ss.length cap0] w fun e w'=>e = .returned (.bool (Gate.zW ss ⟨nm,3,ls,ms,ws,to,rl,mu,fx,df,wg⟩))/\Below w.heap.size w w':=by
 have HF:Hid (Gate.zW ss ⟨nm,3,ls,ms,ws,to,rl,mu,fx,df,wg⟩=Gate.jE ls ms 1 40):=by simp [Gate.zW,Hid]
 go_enter Tryz.func249,Tryz.ntmps249
 go_wp2_with (go_at_call 156;refine (zbh _ _ _ _ _).mono ?_;rintro e w' ⟨rfl,rfl⟩)
 go_ret
 exact ⟨ze HF.out.symm,(Below.refl _ _).alloc (Nat.le_refl _) _⟩
theorem zcQ (nm:ByteArray) (ls ms:Int) (a:Option Addr) (cap:Nat) (ws:List ByteArray) (to:ByteArray) (rl:Int) (mu fx:Bool) (df wg:ByteArray) (a0:Option Addr) (cap0:Nat) (ss:List Shp) (w:World) (hw:zD w a ws) :
 Calls Tryz.prog 244 #[.agg #[.string nm,.int .i64 2,.int .i64 ls,.int .i64 ms,.slice a ws.length cap,.string to,.int .i64 rl,.bool mu,.bool fx,.string df,.string wg],.slice a0 ss.length cap0] w fun e w'=>e = .returned (.bool (Gate.zW ss ⟨nm,2,ls,ms,ws,to,rl,mu,fx,df,wg⟩))/\Below w.heap.size w w':=by
 have HF:Hid (Gate.zW ss ⟨nm,2,ls,ms,ws,to,rl,mu,fx,df,wg⟩=(decide (1<=ws.length) && decide (ws.length<=6) && Gate.asc ws)):=by simp [Gate.zW,Hid]
 have hl:=hw.len
 unfold maxLen at hl
 by_cases h1:0 < ws.length
 ·by_cases h6:ws.length<=6
  ·go_enter Tryz.func244,Tryz.ntmps244
   go_wp2_with (go_at_call 218;refine (ziJ _ _ _ _ (by exact hw.mono ((Below.refl _ _).alloc (Nat.le_refl _) _))).mono ?_;rintro e w' ⟨rfl,rfl⟩)
   go_ret
   exact ⟨ze (by rw [HF.out,decide_eq_true (show 1<=ws.length by omega),decide_eq_true h6];rfl),(Below.refl _ _).alloc (Nat.le_refl _) _⟩
  ·go_enter Tryz.func244,Tryz.ntmps244
   go_wp2_with fail
   go_ret
   exact ⟨ze (by rw [HF.out,decide_eq_true (show 1<=ws.length by omega),decide_eq_false (show ¬ ws.length<=6 by omega)];rfl),(Below.refl _ _).alloc (Nat.le_refl _) _⟩
 ·go_enter Tryz.func244,Tryz.ntmps244
  go_wp2_with fail
  go_ret
  exact ⟨ze (by rw [HF.out,decide_eq_false (show ¬ 1<=ws.length by omega)];rfl),(Below.refl _ _).alloc (Nat.le_refl _) _⟩
theorem zc0 (nm:ByteArray) (ls ms:Int) (a:Option Addr) (cap:Nat) (ws:List ByteArray) (to:ByteArray) (rl:Int) (mu fx:Bool) (df wg:ByteArray) (a0:Option Addr) (cap0:Nat) (ss:List Shp) (w:World) (hw:yI w a0 ss) :
 Calls Tryz.prog 252 #[.agg #[.string nm,.int .i64 4,.int .i64 ls,.int .i64 ms,.slice a ws.length cap,.string to,.int .i64 rl,.bool mu,.bool fx,.string df,.string wg],.slice a0 ss.length cap0] w fun e w'=>e = .returned (.bool (Gate.zW ss ⟨nm,4,ls,ms,ws,to,rl,mu,fx,df,wg⟩))/\Below w.heap.size w w':=by
 have HF:Hid (Gate.zW ss ⟨nm,4,ls,ms,ws,to,rl,mu,fx,df,wg⟩=(Gate.zG ss to && (decide (1<=rl) && decide (rl<=3)) && df.toList.isEmpty && (decide (rl ≠ 2) || !mu))):=by simp [Gate.zW,Hid]
 by_cases hk:Gate.zG ss to=true
 rotate_left
 ·have hk':Gate.zG ss to=false:=by simpa using hk
  have HK:Hid (Gate.zG ss to=false):=hk'
  clear hk hk'
  go_enter Tryz.func252,Tryz.ntmps252
  go_wp2_with fail
  refine (qJ _ _ _ _ _ (hw.mono ((Below.refl _ _).alloc (Nat.le_refl _) _))).mono ?_
  rintro e w1 ⟨fa,fcap,rfl,_,hb1⟩
  rw [HK.out]
  have hX1:=za (zm w _ _) (by simp) hb1
  have hz1:w.heap.size < w1.heap.size:=by have:=hb1.size;simp at this;omega
  have hB1:Below w.heap.size w w1:=((Below.refl _ _).alloc (Nat.le_refl _) _).trans (hb1.mono (by simp))
  clear hb1 hw
  go_wp2_with fail
  go_ret
  exact ⟨ze (by rw [HF.out,HK.out];rfl),hB1.alloc (by omega) _⟩
 have HK:Hid (Gate.zG ss to=true):=hk
 clear hk
 by_cases hd:df.toList.isEmpty=true
 rotate_left
 ·have hd':df.toList.isEmpty=false:=by simpa using hd
  clear hd
  go_enter Tryz.func252,Tryz.ntmps252
  go_wp2_with fail
  refine (qJ _ _ _ _ _ (hw.mono ((Below.refl _ _).alloc (Nat.le_refl _) _))).mono ?_
  rintro e w1 ⟨fa,fcap,rfl,_,hb1⟩
  rw [HK.out]
  have hX1:=za (zm w _ _) (by simp) hb1
  have hz1:w.heap.size < w1.heap.size:=by have:=hb1.size;simp at this;omega
  have hB1:Below w.heap.size w w1:=((Below.refl _ _).alloc (Nat.le_refl _) _).trans (hb1.mono (by simp))
  clear hb1 hw
  go_wp2_with fail
  go_ret
  exact ⟨ze (by rw [HF.out,HK.out,hd'];simp),hB1.alloc (by omega) _⟩
 by_cases h1:rl=1
 ·subst h1
  go_enter Tryz.func252,Tryz.ntmps252
  go_wp2_with fail
  refine (qJ _ _ _ _ _ (hw.mono ((Below.refl _ _).alloc (Nat.le_refl _) _))).mono ?_
  rintro e w1 ⟨fa,fcap,rfl,_,hb1⟩
  rw [HK.out]
  have hX1:=za (zm w _ _) (by simp) hb1
  have hz1:w.heap.size < w1.heap.size:=by have:=hb1.size;simp at this;omega
  have hB1:Below w.heap.size w w1:=((Below.refl _ _).alloc (Nat.le_refl _) _).trans (hb1.mono (by simp))
  clear hb1 hw
  go_wp2_with fail
  go_ret
  exact ⟨ze (by rw [HF.out,HK.out,hd];rfl),hB1.alloc (by omega) _⟩
 by_cases h3:rl=3
 ·subst h3
  go_enter Tryz.func252,Tryz.ntmps252
  go_wp2_with fail
  refine (qJ _ _ _ _ _ (hw.mono ((Below.refl _ _).alloc (Nat.le_refl _) _))).mono ?_
  rintro e w1 ⟨fa,fcap,rfl,_,hb1⟩
  rw [HK.out]
  have hX1:=za (zm w _ _) (by simp) hb1
  have hz1:w.heap.size < w1.heap.size:=by have:=hb1.size;simp at this;omega
  have hB1:Below w.heap.size w w1:=((Below.refl _ _).alloc (Nat.le_refl _) _).trans (hb1.mono (by simp))
  clear hb1 hw
  go_wp2_with fail
  go_ret
  exact ⟨ze (by rw [HF.out,HK.out,hd];rfl),hB1.alloc (by omega) _⟩
 by_cases h2:rl=2
 ·subst h2
  clear h1 h3
  go_enter Tryz.func252,Tryz.ntmps252
  go_wp2_with fail
  refine (qJ _ _ _ _ _ (hw.mono ((Below.refl _ _).alloc (Nat.le_refl _) _))).mono ?_
  rintro e w1 ⟨fa,fcap,rfl,_,hb1⟩
  rw [HK.out]
  have hX1:=za (zm w _ _) (by simp) hb1
  have hz1:w.heap.size < w1.heap.size:=by have:=hb1.size;simp at this;omega
  have hB1:Below w.heap.size w w1:=((Below.refl _ _).alloc (Nat.le_refl _) _).trans (hb1.mono (by simp))
  clear hb1 hw
  go_wp2_with fail
  go_ret
  exact ⟨ze (by rw [HF.out,HK.out,hd];rfl),hB1.alloc (by omega) _⟩
 ·have HR:Hid ((decide (1<=rl) && decide (rl<=3))=false):=by unfold Hid;rw [Bool.eq_false_iff];simp;omega
  have e1:(rl == 1)=false:=by simpa using h1
  have e2:(rl == 2)=false:=by simpa using h2
  have e3:(rl == 3)=false:=by simpa using h3
  clear h1 h2 h3
  go_enter Tryz.func252,Tryz.ntmps252
  go_wp2_with fail
  refine (qJ _ _ _ _ _ (hw.mono ((Below.refl _ _).alloc (Nat.le_refl _) _))).mono ?_
  rintro e w1 ⟨fa,fcap,rfl,_,hb1⟩
  rw [HK.out]
  have hX1:=za (zm w _ _) (by simp) hb1
  have hz1:w.heap.size < w1.heap.size:=by have:=hb1.size;simp at this;omega
  have hB1:Below w.heap.size w w1:=((Below.refl _ _).alloc (Nat.le_refl _) _).trans (hb1.mono (by simp))
  clear hb1 hw
  go_wp2_with fail
  go_ret
  exact ⟨ze (by rw [HF.out,HK.out,HR.out];simp),hB1.alloc (by omega) _⟩
theorem zjc (nm:ByteArray) (kd ls ms:Int) (sl:Value) (to:ByteArray) (rl:Int) (mu fx:Bool) (df wg:ByteArray) (v:ByteArray) (bn:Nat) (w:World) (hb:bn < w.heap.size) (hn:w.cell? ⟨bn,0,none⟩=some (.string v)) :
 Calls Tryz.prog 201 #[.agg #[.string nm,.int .i64 kd,.int .i64 ls,.int .i64 ms,sl,.string to,.int .i64 rl,.bool mu,.bool fx,.string df,.string wg],.pointer (some ⟨bn,0,none⟩)] w fun e w'=>e = .returned (.bool (nm.toList == v.toList))/\Below w.heap.size w w':=by
 go_enter Tryz.func201,Tryz.ntmps201
 go_wp2
 go_ret
 exact ⟨rfl,(Below.refl _ _).alloc (Nat.le_refl _) _⟩
theorem zjw (a:Option Addr) (cap:Nat) (fs:List Fld) (v:ByteArray) (bn:Nat) (w:World) (hw:zP w a fs) (hbn:bn < w.heap.size) (hn:w.cell? ⟨bn,0,none⟩=some (.string v)) :
 Calls Tryz.prog 200 #[.slice a fs.length cap,.func (.func 201) #[] #[.pointer (some ⟨bn,0,none⟩)]] w fun e w'=>e = .returned (.int .i64 (Gate.zQ fs v))/\Below w.heap.size w w':=by
 have hl:=hw.len
 unfold maxLen at hl
 go_enter Tryz.func200,Tryz.ntmps200
 go_wp2
 go_loopw [8] (fun i wr=>∃ k:Nat,k<=fs.length/\i = .int .i64 k/\Gate.hasName (fs.take k) v=false/\Below w.heap.size w wr) (fun i _=>fs.length - (intOf i).toNat)
 case atStart=>exact ⟨0,Nat.zero_le _,rfl,rfl,Below.refl _ _⟩
 case round =>
  obtain ⟨k,hk,rfl,hno,hB⟩:=hrel
  by_cases hlt:k < fs.length
  ·obtain ⟨b,off,rfl,hb,hr⟩:=hw.rows (by rintro rfl;simp at hlt)
   obtain ⟨wa,wcap,hf⟩:=hr k hlt
   obtain ⟨c0,c1,c2,c3,c4,c5,c6,c7,c8,c9,c10⟩:=(hf.mono hb hB).load
   have hn1:=(hB.cell (p:=⟨bn,0,none⟩) hbn).trans hn
   have hbn1:bn < wr.heap.size:=Nat.lt_of_lt_of_le hbn hB.size
   clear hw hr hf hn
   by_cases he:fs[k].nm=v
   ·have HA:Hid (Gate.zQ fs v=k):=Gate.zdw fs v k hlt hno he
    have HE:Hid ((fs[k].nm.toList == v.toList)=true):=by unfold Hid;rw [Gate.beq_toList];simpa using he
    clear he hno
    go_wp2_with fail
    refine (zf HE.out (zjc _ _ _ _ _ _ _ _ _ _ _ _ _ _ hbn1 hn1)).mono ?_
    rintro e w2 ⟨rfl,hb2⟩
    go_wp2_with fail
    go_ret
    exact ⟨zq HA.out.symm,hB.trans (hb2.mono hB.size)⟩
   ·have HS:Hid (Gate.hasName (fs.take (k+1)) v=false):=by unfold Hid;rw [Gate.zdL fs v k hlt,hno,decide_eq_false he];rfl
    have HE:Hid ((fs[k].nm.toList == v.toList)=false):=by unfold Hid;rw [Gate.beq_toList];simpa using he
    clear he hno
    go_wp2_with fail
    refine (zf HE.out (zjc _ _ _ _ _ _ _ _ _ _ _ _ _ _ hbn1 hn1)).mono ?_
    rintro e w2 ⟨rfl,hb2⟩
    go_wp2_with fail
    exact ⟨⟨k+1,by omega,by go_num,HS.out,hB.trans (hb2.mono hB.size)⟩,by simp [intOf];omega⟩
  ·have HA:Hid (Gate.zQ fs v=-1):=Gate.zf8 fs v (by rw [<- Gate.zhe fs v k (by omega)];exact hno)
   clear hno hw
   go_wp2
   go_ret
   exact ⟨zq HA.out.symm,hB⟩
theorem jk (a:Option Addr) (cap:Nat) (fs:List Fld) (v:ByteArray) (w:World) (hw:zP w a fs) :
 Calls Tryz.prog 181 #[.slice a fs.length cap,.string v] w fun e w'=>e = .returned (.int .i64 (Gate.zQ fs v))/\Below w.heap.size w w':=by
 go_enter Tryz.func181,Tryz.ntmps181
 go_wp2_with fail
 refine (zjw _ _ _ v _ _ (hw.mono ((Below.refl _ _).alloc (Nat.le_refl _) _)) (by simp) (by rw [World.cell?_alloc_at _ _ _ _ rfl];rfl)).mono ?_
 rintro e w2 ⟨rfl,hb2⟩
 go_wp2_with fail
 go_ret
 exact ⟨rfl,((Below.refl _ _).alloc (Nat.le_refl _) _).trans (hb2.mono (by simp))⟩
theorem zaq {w w':World} {base:Nat} {e:TypeId} {size:Nat} {v:Value} {n:Nat} {xs:List Value} (h:w.ownsRow base e size v n xs) (hb:∀ g,v.ownBlock=some g->w'.heap[g]?=w.heap[g]?):w'.ownsRow base e size v n xs:=by
 obtain ⟨h0,h1 | ⟨g,cap,cur,rfl,h2,h3,h4⟩⟩:=h
 ·exact ⟨h0,Or.inl h1⟩
 ·exact ⟨h0,Or.inr ⟨g,cap,cur,rfl,h2,(hb g rfl).trans h3,h4⟩⟩
theorem yZ {w w':World} {base:Nat} {e:TypeId} {size:Nat} {v:Value} {n:Nat} {xs:List Value} (h:w.ownsRow base e size v n xs) (hb:Below w.heap.size w w'):w'.ownsRow base e size v n xs :=
 zaq h fun g hg=>hb.block g (h.lt g hg).2
theorem zaf {w:World} {base base':Nat} {e:TypeId} {size:Nat} {v:Value} {n:Nat} {xs:List Value} (h:w.ownsRow base e size v n xs) (hb:base'<=base):w.ownsRow base' e size v n xs:=by
 obtain ⟨h0,h1 | ⟨g,cap,cur,rfl,h2,h3,h4⟩⟩:=h
 ·exact ⟨h0,Or.inl h1⟩
 ·exact ⟨h0,Or.inr ⟨g,cap,cur,rfl,Nat.le_trans hb h2,h3,h4⟩⟩
theorem zcz (w:World) (x:Value) (t:TypeId):∀ j u,[x][j]?=some u->(w.alloc (.cells #[x] t)).cell? ((⟨w.heap.size,0,none⟩:Addr).add j)=some u:=by
 intro j u hj
 rcases j with _ | j
 ·have e:(⟨w.heap.size,0,none⟩:Addr).add 0=⟨w.heap.size,0,none⟩:=rfl
  rw [e,World.cell?_alloc_at (hn:=rfl)]
  simpa using hj
 ·simp at hj
theorem zaI {w w1:World} {row:Option Nat} {b:Nat} (hg:w.grownBy w1 row) (hb:b < w.heap.size) (h:∀ g,row=some g->b ≠ g):w1.heap[b]?=w.heap[b]? :=
 hg.block b hb (fun e=>h b e.symm rfl)
theorem zbk {B:Nat} {w0 w w1:World} {v x:Value} {t:TypeId} (h:Below B w0 w) (hB:B<=w.heap.size) (hg:(w.alloc (.cells #[x] t)).grownBy w1 v.ownBlock) (hr:∀ k,v.ownBlock=some k->B<=k):Below B w0 w1 :=
 (h.alloc hB _).grown hg (by simp;omega) hr
namespace Gate
def isSet (s:ByteArray):Bool:=!s.toList.isEmpty
def zJ (m:Mnd):List ByteArray:=[m.wh,m.fr].filter isSet
def turns (m:Mnd) (s:Shp) (p:Nat):Bool:=decide (m.kd=s.kd) && decide (m.fd=(s.fs.getD p zbv).nm)
end Gate
theorem Tryz.zgc:(Tryz.prog.info? 3).map (fun i=>(i.zero,i.size,i.bytes))=some (some (.int .i64 0),1,8):=by kernel_rfl
set_option maxRecDepth 20000 in
theorem zeV (m:Mnd) (w:World) :
 Calls Tryz.prog 179 #[.agg m.cells] w fun e w'=>∃ v,e = .returned v/\w'.ownsRow w.heap.size 9 1 v (Gate.zJ m).length ((Gate.zJ m).map Value.string)/\Below w.heap.size w w':=by
 unfold Mnd.cells
 obtain ⟨i0,hi,hz0,hz1',hz2⟩:=info_parts Tryz.zcs
 go_enter Tryz.func179,Tryz.ntmps179
 go_wp2_with fail
 go_loopw [3,12] (fun nv0 iv wr=>∃ (k:Nat) (nv:Value),nv=nv0/\k<=2/\iv = .int .i64 k/\wr.ownsRow (w.heap.size+2) 9 1 nv (([m.wh,m.fr].take k).filter Gate.isSet).length ((([m.wh,m.fr].take k).filter Gate.isSet).map Value.string)/\wr.heap[w.heap.size+1]?=some (.cells #[.string m.wh,.string m.fr] 9)/\Below w.heap.size w wr) (fun _ iv _=>2 - (intOf iv).toNat)
 case atStart=>exact ⟨0,_,rfl,by omega,rfl,World.ownsRow_nil _ _ _ _,(yu _ _ _).2,zA _ _ _⟩
 case round =>
  obtain ⟨k,nv,hnv,hk,rfl,hown,hlit,hB⟩:=hrel
  subst hnv
  by_cases hlt:k < 2
  ·have hltI:(k:Int) < 2:=by omega
   obtain ⟨x,hx,HT⟩:∃ x,(#[.string m.wh,.string m.fr]:Array Value)[k]?=some (.string x)/\Hid (([m.wh,m.fr].take (k+1)).filter Gate.isSet=([m.wh,m.fr].take k).filter Gate.isSet ++ if Gate.isSet x=true then [x] else []):=by
    rcases k with _ | _ | k
    ·refine ⟨m.wh,rfl,?_⟩
     by_cases h:Gate.isSet m.wh=true <;> simp [Hid,h]
    ·refine ⟨m.fr,rfl,?_⟩
     by_cases h:Gate.isSet m.fr=true <;> by_cases h':Gate.isSet m.wh=true <;> simp [Hid,h,h']
    ·omega
   have hcx:wr.cell? ⟨w.heap.size+1,k,none⟩=some (.string x):=by rw [cell_of_block hlit];exact hx
   have hlen:(([m.wh,m.fr].take k).filter Gate.isSet).length<=2:=Nat.le_trans (List.length_filter_le _ _) (by simp;omega)
   have HB:Hid (wr.heap[w.heap.size+1]?=some (.cells #[.string m.wh,.string m.fr] 9)/\Below w.heap.size w wr/\w.heap.size+1 < wr.heap.size):=⟨hlit,hB,(Array.getElem?_eq_some_iff.1 hlit).1⟩
   have HW:Hid (wr.ownsRow (w.heap.size+2) 9 1 nv (([m.wh,m.fr].take k).filter Gate.isSet).length ((([m.wh,m.fr].take k).filter Gate.isSet).map Value.string)):=hown
   clear hlit hB hx hown
   by_cases hs:x.toList.isEmpty=true
   ·have HE:Hid (Gate.isSet x=false):=by unfold Hid Gate.isSet;rw [hs];rfl
    go_wp2_with fail
    have HT':([m.wh,m.fr].take (k+1)).filter Gate.isSet=([m.wh,m.fr].take k).filter Gate.isSet:=by rw [HT.out,HE.out];simp
    exact ⟨⟨k+1,_,rfl,by omega,by go_num,by rw [HT'];exact HW.out,HB.out.1,HB.out.2.1⟩,zn hlt⟩
   ·have hs':x.toList.isEmpty=false:=by simpa using hs
    have HE:Hid (Gate.isSet x=true):=by unfold Hid Gate.isSet;rw [hs'];rfl
    clear hs
    go_wp2_with (at_builtin;refine wpList_append_own _ rfl (.tmp 18) (.tmp 20) 98 rfl (w.heap.size+2) 9 i0 (.string ByteArray.empty) 1 16 Tryz.underlying98 hi hz0 hz1' hz2 rfl (by decide) _ _ _ rfl (HW.out.alloc _) ⟨wr.heap.size,0,none⟩ 1 1 [.string x] rfl rfl (zcz _ _ _) (by intro u hu;simp at hu;subst hu;rfl) (by unfold maxLen;omega) (by omega) (by have:=HB.out.2.2;simp;omega) ?_;intro v' w1 hown' hgr _)
    have HT':([m.wh,m.fr].take (k+1)).filter Gate.isSet=([m.wh,m.fr].take k).filter Gate.isSet ++ [x]:=by rw [HT.out,HE.out];simp
    have hgb:∀ g,nv.ownBlock=some g->w.heap.size+2<=g:=fun g hg=>(HW.out.lt g hg).1
    refine ⟨⟨k+1,_,rfl,by omega,by go_num,?_,?_,zbk HB.out.2.1 HB.out.2.1.size hgr (fun g hg=>by have:=hgb g hg;omega)⟩,zn hlt⟩
    ·rw [HT',List.length_append,List.map_append];exact hown'
    ·rw [zaI hgr (by have:=HB.out.2.2;simp;omega) (fun g hg=>by have:=hgb g hg;omega),Below.heap_alloc _ _ _ HB.out.2.2];exact HB.out.1
  ·have e:k=2:=by omega
   subst e
   have HF:Hid (wr.ownsRow w.heap.size 9 1 nv (Gate.zJ m).length ((Gate.zJ m).map Value.string)/\Below w.heap.size w wr):=⟨zaf hown (by omega),hB⟩
   clear hown hlit hB
   go_wp2_with fail
   go_ret
   exact ⟨nv,rfl,HF.out⟩
theorem zj6 (m:Mnd) (s:Shp) (fa:Option Addr) (fcap p:Nat) (w:World) (hf:zP w fa s.fs) (hp:p < s.fs.length) :
 Calls Tryz.prog 184 #[.agg m.cells,.agg #[.string s.kd,.slice fa s.fs.length fcap],.int .i64 p] w fun e w'=>e = .returned (.bool (Gate.turns m s p))/\Below w.heap.size w w':=by
 unfold Mnd.cells
 have hB:∀ o1 o2,Below w.heap.size w ((w.alloc o1).alloc o2):=fun o1 o2=>zA w o1 o2
 have hl:=hf.len
 unfold maxLen at hl
 obtain ⟨b,off,rfl,hb,hr⟩:=hf.rows (by intro e;rw [e] at hp;simp at hp)
 obtain ⟨wa,wcap,hf0⟩:=hr p hp
 obtain ⟨c0,c1,c2,c3,c4,c5,c6,c7,c8,c9,c10⟩:=hf0.load
 have hpI:(p:Int) < (s.fs.length:Int):=by omega
 have HD:Hid ((s.fs.getD p Gate.zbv).nm=s.fs[p].nm):=by unfold Hid;rw [Gate.getD_at _ _ _ hp]
 clear hf hr hf0 c1 c2 c3 c4 c5 c6 c7 c8 c9 c10
 by_cases h1:m.kd=s.kd
 ·by_cases h2:m.fd=s.fs[p].nm
  ·have HR:Hid (Gate.turns m s p=true):=by unfold Hid Gate.turns;rw [HD.out];simp [h1,h2]
   have hq:(m.kd.toList == s.kd.toList)=true:=by rw [Gate.beq_toList];simpa using h1
   have hr:(m.fd.toList == s.fs[p].nm.toList)=true:=by rw [Gate.beq_toList];simpa using h2
   clear h1 h2
   go_enter Tryz.func184,Tryz.ntmps184
   go_wp2_with fail
   go_quiet (fail)
   go_wp2_with fail
   go_ret
   exact ⟨by rw [HR.out];rfl,below_drewN (hB _ _) _⟩
  ·have HR:Hid (Gate.turns m s p=false):=by unfold Hid Gate.turns;rw [HD.out];simp [h1,h2]
   have hq:(m.kd.toList == s.kd.toList)=true:=by rw [Gate.beq_toList];simpa using h1
   have hr:(m.fd.toList == s.fs[p].nm.toList)=false:=by rw [Gate.beq_toList];simpa using h2
   clear h1 h2
   go_enter Tryz.func184,Tryz.ntmps184
   go_wp2_with fail
   go_quiet (fail)
   go_wp2_with fail
   go_ret
   exact ⟨by rw [HR.out];rfl,below_drewN (hB _ _) _⟩
 ·have HR:Hid (Gate.turns m s p=false):=by unfold Hid Gate.turns;rw [HD.out];simp [h1]
  have hq:(m.kd.toList == s.kd.toList)=false:=by rw [Gate.beq_toList];simpa using h1
  clear h1
  go_enter Tryz.func184,Tryz.ntmps184
  go_wp2_with fail
  go_quiet (fail)
  go_wp2_with fail
  go_ret
  exact ⟨by rw [HR.out];rfl,below_drewN (hB _ _) _⟩
end Go.Proofs.YtihdafafigceiaaGreat
