import Derived.Test.YtghnakljnhnenaaGreatM32
set_option maxHeartbeats 4000000
namespace Go.Proofs.YtghnakljnhnenaaGreat
open Go.RowKit
theorem zkq (b:Bk) (a0 a1 a2 a3:Option Addr) (c0 c1 c2 c3:Nat) (tm rs:ByteArray) (w:World) (hb:y7 w b a0 a1 a2 a3) (hl:b.ps.length<=1000) (ha:∀ i (h:i < b.ps.length),0<=b.ps[i].am/\b.ps[i].am<=1000000) :
 Calls Tryz.prog 102 #[.agg (b.cells a0 a1 a2 a3 c0 c1 c2 c3),.string tm,.string rs] w fun e w'=>e = .returned (.int .i64 (Gate.out b.ps tm rs))/\Below w.heap.size w w':=by
 have HK:Hid (y7 w b a0 a1 a2 a3):=hb;have HA:Hid (∀ i (h:i < b.ps.length),0<=b.ps[i].am/\b.ps[i].am<=1000000):=ha;clear hb ha;unfold Bk.cells;go_enter Tryz.func102,Tryz.ntmps102;go_wp2_with fail
 have hX0:=zm w #[.int .i64 b.now,.int .i64 b.tick,.int .i64 b.given,.slice a0 b.os.length c0,.slice a1 b.gs.length c1,.slice a2 b.ls.length c2,.slice a3 b.ps.length c3] 48;have HB0:Hid (Below w.heap.size w (w.alloc (.cells #[.int .i64 b.now,.int .i64 b.tick,.int .i64 b.given,.slice a0 b.os.length c0,.slice a1 b.gs.length c1,.slice a2 b.ls.length c2,.slice a3 b.ps.length c3] 48))):=bAl _ _;obtain ⟨W0,hW0⟩:∃ W0,W0=w.alloc (.cells #[.int .i64 b.now,.int .i64 b.tick,.int .i64 b.given,.slice a0 b.os.length c0,.slice a1 b.gs.length c1,.slice a2 b.ls.length c2,.slice a3 b.ps.length c3] 48):=⟨_,rfl⟩
 have hz0:w.heap.size < W0.heap.size:=by rw [hW0];simp
 rw [<- hW0] at HB0 hX0 ⊢;clear hW0
 go_loopw [7,8] (fun nv iv wr=>∃ (k:Nat) (s:Int),k<=b.ps.length/\iv = .int .i64 k/\nv = .int .i64 s/\Hid (s=Gate.zaU b.ps tm rs k)/\wr=W0) (fun _ iv _=>b.ps.length - (intOf iv).toNat)
 case atStart=>exact ⟨0,0,Nat.zero_le _,rfl,rfl,by simp [Gate.zaU,Hid],rfl⟩
 case round =>
  obtain ⟨k,s,hk,rfl,rfl,HQ,rfl⟩:=hrel;have hkn:k<=1000:=by omega
  have hsb:0<=s/\s<=1000000000:=by have h1:=HQ.out;have h2:=Gate.zbE b.ps tm rs HA.out k hk;omega
  by_cases hlt:k < b.ps.length
  ·obtain ⟨ob,off,rfl,hob,d0,d1,d2,d3,d4⟩:=HK.out.ps.load HB0.out k hlt
   have hltI:(k:Int) < (b.ps.length:Int):=by omega
   have HSt:Hid (Gate.zaU b.ps tm rs (k+1)=Gate.zaU b.ps tm rs k+(if Gate.zmM tm rs b.ps[k]=true then b.ps[k].am else 0)):=Gate.ze0 b.ps tm rs k hlt;have hab:=HA.out k hlt;clear d0 d4
   by_cases h1:b.ps[k].tm=tm
   ·have e1:(b.ps[k].tm.toList == tm.toList)=true:=by rw [Gate.beq_toList];simpa using h1
    by_cases h2:b.ps[k].rs=rs
    ·have e2:(b.ps[k].rs.toList == rs.toList)=true:=by rw [Gate.beq_toList];simpa using h2
     have HN:Hid (Gate.zaU b.ps tm rs (k+1)=s+b.ps[k].am):=by unfold Hid;rw [HSt.out,<- HQ.out,if_pos (by unfold Gate.zmM;simp [h1,h2])]
     clear h1 h2;go_wp2_with fail
     exact ⟨⟨k+1,s+b.ps[k].am,by omega,by go_num,by go_num,HN.out.symm,trivial⟩,zn hlt⟩
    ·have e2:(b.ps[k].rs.toList == rs.toList)=false:=by rw [Gate.beq_toList];simpa using h2
     have HN:Hid (Gate.zaU b.ps tm rs (k+1)=s):=by unfold Hid;rw [HSt.out,<- HQ.out,if_neg (by unfold Gate.zmM;simp [h2])];omega
     clear h1 h2;go_wp2_with fail
     exact ⟨⟨k+1,s,by omega,by go_num,rfl,HN.out.symm,trivial⟩,zn hlt⟩
   ·have e1:(b.ps[k].tm.toList == tm.toList)=false:=by rw [Gate.beq_toList];simpa using h1
    have HN:Hid (Gate.zaU b.ps tm rs (k+1)=s):=by unfold Hid;rw [HSt.out,<- HQ.out,if_neg (by unfold Gate.zmM;simp [h1])];omega
    clear h1;go_wp2_with fail
    exact ⟨⟨k+1,s,by omega,by go_num,rfl,HN.out.symm,trivial⟩,zn hlt⟩
  ·have e:k=b.ps.length:=by omega
   subst e;have HE:Hid (Gate.out b.ps tm rs=s):=by unfold Hid Gate.out;exact HQ.out.symm
   clear HQ hlt hk;go_wp2_with fail
   go_ret;exact ⟨zq HE.out.symm,HB0.out⟩
theorem zeg (a c:Option Addr) (ca cc:Nat) (xs ys:List ByteArray) (w:World) (hx:zD w a xs) (hy:zD w c ys) (hl:xs.length<=1048576) (hl':ys.length<=1048576) :
 Calls Tryz.prog 93 #[.slice a xs.length ca,.slice c ys.length cc] w fun e w'=>e = .returned (.bool (decide (xs=ys)))/\Below w.heap.size w w':=by
 obtain ⟨r,hr⟩:∃ r,r=decide (xs=ys):=⟨_,rfl⟩
 rw [<- hr];have HR:Hid (r=decide (xs=ys)):=hr;have HX:Hid (zD w a xs/\zD w c ys):=⟨hx,hy⟩
 clear hr hx hy
 by_cases hn:xs.length=ys.length
 rotate_left
 ·have HF:Hid (r=false):=by unfold Hid;rw [HR.out,decide_eq_false_iff_not];intro e;exact hn (by rw [e])
  have e1:((xs.length:Int) != (ys.length:Int))=true:=by simp;omega
  clear hn;go_enter Tryz.func93,Tryz.ntmps93;go_wp2_with fail
  go_ret;exact ⟨ze HF.out.symm,bRf _ _⟩
 have e1:((xs.length:Int) != (ys.length:Int))=false:=by simp;omega
 have HN:Hid (xs.length=ys.length):=hn;clear hn;go_enter Tryz.func93,Tryz.ntmps93;go_wp2_with fail
 go_loopw [5] (fun iv wr=>∃ k:Nat,k<=xs.length/\iv = .int .i64 k/\Hid ((∀ i (h:i < xs.length) (h':i < ys.length),i < k->xs[i]=ys[i])/\Below w.heap.size w wr)) (fun iv _=>xs.length - (intOf iv).toNat)
 case atStart=>exact ⟨0,Nat.zero_le _,rfl,fun i h h' hk=>by omega,bRf _ _⟩
 case round =>
  obtain ⟨k,hk,rfl,HQ⟩:=hrel;have hkn:k<=1048576:=by omega
  by_cases hlt:k < xs.length
  ·have hlt':k < ys.length:=by have:=HN.out;omega
   obtain ⟨p,po,rfl,hp,hpc⟩:=HX.out.1.cells (by intro e;rw [e] at hlt;simp at hlt);obtain ⟨q,qo,rfl,hq,hqc⟩:=HX.out.2.cells (by intro e;rw [e] at hlt';simp at hlt');have c1:=(HQ.out.2.cell (p:=⟨p,po+k,none⟩) hp).trans (hpc k hlt);have c2:=(HQ.out.2.cell (p:=⟨q,qo+k,none⟩) hq).trans (hqc k hlt');have hltI:(k:Int) < (xs.length:Int):=by omega
   have hltI':(k:Int) < (ys.length:Int):=by omega
   have hp':p < wr.heap.size:=nLt hp HQ.out.2.size;have hq':q < wr.heap.size:=nLt hq HQ.out.2.size;have HB:Hid (Below w.heap.size w wr):=HQ.out.2;clear hpc hqc
   by_cases he:xs[k]=ys[k]
   ·have e2:(xs[k].toList == ys[k].toList)=true:=by rw [Gate.beq_toList];simpa using he
    have HA:Hid (∀ i (h:i < xs.length) (h':i < ys.length),i < k+1->xs[i]=ys[i]):=by
     intro i h h' hi
     rcases Nat.eq_or_lt_of_le (Nat.le_of_lt_succ hi) with e | h2
     ·subst e;exact he
     ·exact HQ.out.1 i h h' h2
    clear he HQ;go_wp2_with fail
    go_quiet (fail)
    go_wp2_with fail
    exact ⟨⟨k+1,by omega,by go_num,HA.out,below_drewN HB.out _⟩,zn hlt⟩
   ·have e2:(xs[k].toList == ys[k].toList)=false:=by rw [Gate.beq_toList];simpa using he
    have HF:Hid (r=false):=by
     unfold Hid;rw [HR.out,decide_eq_false_iff_not];intro e;subst e;exact he rfl
    clear he HQ;go_wp2_with fail
    go_quiet (fail)
    go_wp2_with fail
    go_ret;exact ⟨ze HF.out.symm,below_drewN HB.out _⟩
  ·have HF:Hid (r=true):=by
    unfold Hid;rw [HR.out,decide_eq_true_eq];exact List.ext_getElem HN.out fun i h h'=>HQ.out.1 i h h' (by omega)
   have HB:Hid (Below w.heap.size w wr):=HQ.out.2;clear HQ;go_wp2_with fail
   go_ret;exact ⟨ze HF.out.symm,HB.out⟩
theorem zhW (a c:Option Addr) (ca cc:Nat) (xs ys:List ByteArray) (w:World) (hx:zD w a xs) (hy:zD w c ys) (hl:xs.length<=1048576) (hl':ys.length<=1048576) :
 Calls Tryz.prog 196 #[.slice a xs.length ca,.slice c ys.length cc] w fun e w'=>e = .returned (.bool (decide (xs=ys)))/\Below w.heap.size w w':=by
 obtain ⟨r,hr⟩:∃ r,r=decide (xs=ys):=⟨_,rfl⟩
 rw [<- hr];have HR:Hid (r=decide (xs=ys)):=hr;have HX:Hid (zD w a xs/\zD w c ys):=⟨hx,hy⟩
 clear hr hx hy
 by_cases hn:xs.length=ys.length
 rotate_left
 ·have HF:Hid (r=false):=by unfold Hid;rw [HR.out,decide_eq_false_iff_not];intro e;exact hn (by rw [e])
  have e1:((xs.length:Int) != (ys.length:Int))=true:=by simp;omega
  clear hn;go_enter Tryz.func196,Tryz.ntmps196;go_wp2_with fail
  go_ret;exact ⟨ze HF.out.symm,bRf _ _⟩
 have e1:((xs.length:Int) != (ys.length:Int))=false:=by simp;omega
 have HN:Hid (xs.length=ys.length):=hn;clear hn;go_enter Tryz.func196,Tryz.ntmps196;go_wp2_with fail
 go_loopw [13] (fun iv wr=>∃ k:Nat,k<=xs.length/\iv = .int .i64 k/\Hid ((∀ i (h:i < xs.length) (h':i < ys.length),i < k->xs[i]=ys[i])/\Below w.heap.size w wr)) (fun iv _=>xs.length - (intOf iv).toNat)
 case atStart=>exact ⟨0,Nat.zero_le _,rfl,fun i h h' hk=>by omega,bRf _ _⟩
 case round =>
  obtain ⟨k,hk,rfl,HQ⟩:=hrel;have hkn:k<=1048576:=by omega
  by_cases hlt:k < xs.length
  ·have hlt':k < ys.length:=by have:=HN.out;omega
   obtain ⟨p,po,rfl,hp,hpc⟩:=HX.out.1.cells (by intro e;rw [e] at hlt;simp at hlt);obtain ⟨q,qo,rfl,hq,hqc⟩:=HX.out.2.cells (by intro e;rw [e] at hlt';simp at hlt');have c1:=(HQ.out.2.cell (p:=⟨p,po+k,none⟩) hp).trans (hpc k hlt);have c2:=(HQ.out.2.cell (p:=⟨q,qo+k,none⟩) hq).trans (hqc k hlt');have hltI:(k:Int) < (xs.length:Int):=by omega
   have hltI':(k:Int) < (ys.length:Int):=by omega
   have hp':p < wr.heap.size:=nLt hp HQ.out.2.size;have hq':q < wr.heap.size:=nLt hq HQ.out.2.size;have HB:Hid (Below w.heap.size w wr):=HQ.out.2;clear hpc hqc
   by_cases he:xs[k]=ys[k]
   ·have e2:(xs[k].toList == ys[k].toList)=true:=by rw [Gate.beq_toList];simpa using he
    have HA:Hid (∀ i (h:i < xs.length) (h':i < ys.length),i < k+1->xs[i]=ys[i]):=by
     intro i h h' hi
     rcases Nat.eq_or_lt_of_le (Nat.le_of_lt_succ hi) with e | h2
     ·subst e;exact he
     ·exact HQ.out.1 i h h' h2
    clear he HQ;go_wp2_with fail
    go_quiet (fail)
    go_wp2_with fail
    exact ⟨⟨k+1,by omega,by go_num,HA.out,below_drewN HB.out _⟩,zn hlt⟩
   ·have e2:(xs[k].toList == ys[k].toList)=false:=by rw [Gate.beq_toList];simpa using he
    have HF:Hid (r=false):=by
     unfold Hid;rw [HR.out,decide_eq_false_iff_not];intro e;subst e;exact he rfl
    clear he HQ;go_wp2_with fail
    go_quiet (fail)
    go_wp2_with fail
    go_ret;exact ⟨ze HF.out.symm,below_drewN HB.out _⟩
  ·have HF:Hid (r=true):=by
    unfold Hid;rw [HR.out,decide_eq_true_eq];exact List.ext_getElem HN.out fun i h h'=>HQ.out.1 i h h' (by omega)
   have HB:Hid (Below w.heap.size w wr):=HQ.out.2;clear HQ;go_wp2_with fail
   go_ret;exact ⟨ze HF.out.symm,HB.out⟩
namespace Gate
def zaH (l:Lw) (o:Ob):List ByteArray:=zfr l.ss l.ms (zgl l.ss o)
end Gate
theorem zcp {l:Lw} {o:Ob} (h:Gate.qG l.ss l.ms o=true):(Gate.zaH l o).length=o.vs.length:=by
 unfold Gate.zaH;rw [<- Gate.zni h];exact Gate.jQ _ _ _
set_option maxRecDepth 20000 in
theorem zjS (l:Lw) (a b c:Option Addr) (ca cb cc:Nat) (o:Ob) (va ha:Option Addr) (cap cap':Nat) (w:World) (hL:y9 w l a b c) (hml:l.ms.length<=1048576) (ho:qB w o va ha) (hl:o.vs.length<=1048576) (hl':o.hs.length<=1048576) (hmd:Gate.qG l.ss l.ms o=true) :
 Calls Tryz.prog 197 #[.agg #[.slice a l.ss.length ca,.slice b l.ms.length cb,.slice c l.ts.length cc],.agg #[.string o.kd,.string o.nm,.string o.tm,.slice va o.vs.length cap,.bool o.en,.slice ha o.hs.length cap',.int .i64 o.vr]] w
  fun e w'=>∃ e0 dap e1 dap',e = .returned (.agg #[.string o.kd,.string o.nm,.string o.tm,.slice e0 o.vs.length dap,.bool o.en,.slice e1 o.hs.length dap',.int .i64 o.vr])/\zw w.heap.size w' e0 (Gate.zaH l o)/\Below w.heap.size w w':=by
 have HH:Hid (y9 w l a b c/\qB w o va ha/\o.vs.length<=maxLen):=⟨hL,ho,ho.vals.len⟩
 have HFA:Hid _:=Gate.zb0 hmd;clear hL ho hmd;go_enter Tryz.func197,Tryz.ntmps197;go_wp2_with fail
 have hb2:=jH w (.cells #[.slice a l.ss.length ca,.slice b l.ms.length cb,.slice c l.ts.length cc] 41) (.cells #[.string o.kd,.string o.nm,.string o.tm,.slice va o.vs.length cap,.bool o.en,.slice ha o.hs.length cap',.int .i64 o.vr] 119) (.cells #[.string ByteArray.empty,.string ByteArray.empty,.string ByteArray.empty,.slice none 0 0,.bool false,.slice none 0 0,.int .i64 0] 119);refine (qN _ _ l.ss o.kd _ (HH.out.1.ss.mono hb2)).mono ?_;rintro e w1 ⟨fa,fcap,rfl,hfl0,hb1⟩;have HFL:Hid (zP w1 fa (Gate.shapeOf l.ss o.kd).fs):=hfl0.mono hb1;have hX0:∀ j,w1.cell? ⟨w.heap.size,j,none⟩=(#[.slice a l.ss.length ca,.slice b l.ms.length cb,.slice c l.ts.length cc]:Array Value)[j]?:=fun j=>cell_of_block ((hb1.block w.heap.size (by simp;omega)).trans (zcd _ _ _ _))
 have hX1:∀ j,w1.cell? ⟨w.heap.size+1,j,none⟩=(#[.string o.kd,.string o.nm,.string o.tm,.slice va o.vs.length cap,.bool o.en,.slice ha o.hs.length cap',.int .i64 o.vr]:Array Value)[j]?:=fun j=>cell_of_block ((hb1.block (w.heap.size+1) (by simp)).trans (zga _ _ _ _))
 have HR1:Hid (w1.heap[w.heap.size+1+1]?=some (.cells #[.string ByteArray.empty,.string ByteArray.empty,.string ByteArray.empty,.slice none 0 0,.bool false,.slice none 0 0,.int .i64 0] 119)):=(hb1.block (w.heap.size+1+1) (by simp)).trans (zcg _ _ _ _);have hz2:w.heap.size+1+1 < w1.heap.size:=by have:=hb1.size;simp at this;omega
 have hz1:w.heap.size+1 < w1.heap.size:=by omega
 have hz0:w.heap.size < w1.heap.size:=by omega
 have hB1:Below w.heap.size w w1:=hb2.trans (hb1.mono (by simp;omega));clear hb1 hfl0 hb2;go_wp2_with fail
 have hbs:=(bRf w1.heap.size w1).alloc (Nat.le_refl _) (.cells #[.string (Gate.shapeOf l.ss o.kd).kd,.slice fa (Gate.shapeOf l.ss o.kd).fs.length fcap] 123);have hRW:=(hbs.block _ hz2).trans HR1.out;have hzW:w.heap.size+1+1 < (w1.alloc (.cells #[.string (Gate.shapeOf l.ss o.kd).kd,.slice fa (Gate.shapeOf l.ss o.kd).fs.length fcap] 123)).heap.size:=nLt hz2 hbs.size;have hBW:=hB1.trans (hbs.mono hB1.size);have hFW:=HFL.out.mono hbs;clear hbs;obtain ⟨W2,hW2⟩:∃ W2,W2=(w1.alloc (.cells #[.string (Gate.shapeOf l.ss o.kd).kd,.slice fa (Gate.shapeOf l.ss o.kd).fs.length fcap] 123)):=⟨_,rfl⟩
 have hS2:∀ j,W2.drew.cell? ⟨w1.heap.size,j,none⟩=(#[.string (Gate.shapeOf l.ss o.kd).kd,.slice fa (Gate.shapeOf l.ss o.kd).fs.length fcap]:Array Value)[j]?:=by rw [hW2];exact zm w1 _ _
 have hS1:∀ j,W2.drew.cell? ⟨w.heap.size+1,j,none⟩=(#[.string o.kd,.string o.nm,.string o.tm,.slice va o.vs.length cap,.bool o.en,.slice ha o.hs.length cap',.int .i64 o.vr]:Array Value)[j]?:=by rw [hW2];exact za hX1 hz1 (bAl _ _).drew
 have hS0:∀ j,W2.drew.cell? ⟨w.heap.size,j,none⟩=(#[.slice a l.ss.length ca,.slice b l.ms.length cb,.slice c l.ts.length cc]:Array Value)[j]?:=by rw [hW2];exact za hX0 hz0 (bAl _ _).drew
 have hzs:w1.heap.size < W2.drew.heap.size:=by rw [hW2];show w1.heap.size < (w1.alloc (.cells #[.string (Gate.shapeOf l.ss o.kd).kd,.slice fa (Gate.shapeOf l.ss o.kd).fs.length fcap] 123)).heap.size;simp
 rw [<- hW2] at hRW hzW hBW hFW ⊢;clear hW2 hX1 hX0;have hb:=(bRf W2.heap.size W2).drew;have hlW:W2.heap.size=W2.drew.heap.size:=rfl;have hzo:w.heap.size+1 < W2.drew.heap.size:=by omega
 have hzl:w.heap.size < W2.drew.heap.size:=by omega
 go_region_held3 (fun w'=>(∀ j,w'.cell? ⟨w.heap.size,j,none⟩=(#[.slice a l.ss.length ca,.slice b l.ms.length cb,.slice c l.ts.length cc]:Array Value)[j]?)/\(∀ j,w'.cell? ⟨w.heap.size+1,j,none⟩=(#[.string o.kd,.string o.nm,.string o.tm,.slice va o.vs.length cap,.bool o.en,.slice ha o.hs.length cap',.int .i64 o.vr]:Array Value)[j]?)/\∀ j,w'.cell? ⟨w1.heap.size,j,none⟩=(#[.string (Gate.shapeOf l.ss o.kd).kd,.slice fa (Gate.shapeOf l.ss o.kd).fs.length fcap]:Array Value)[j]?) (first | exact ⟨fun j=>by rw [hS0],fun j=>by rw [hS1],fun j=>by rw [hS2]⟩ | exact ⟨fun j=>by rw [hS5],fun j=>by rw [hS3],fun j=>by rw [hS4]⟩) (first
  | (go_at_call 215;refine (znE o (Gate.shapeOf l.ss o.kd).kd (Gate.shapeOf l.ss o.kd).fs _ va ha _ cap cap' _ (by exact hFW.mono hb) (by exact HH.out.2.1.mono (hBW.trans (hb.mono hBW.size))) hl hl' HFA.out.1).mono ?_;rintro e w5 ⟨a5,dap5,a5',dap5',m5,rfl,ht5,hm5,hsm5,ht5',hb5⟩;have hS0:=za hS0 hzl hb5;have hS1:=za hS1 hzo hb5;have hS2:=za hS2 hzs hb5;have hb:=hb.trans (hb5.mono hb.size);have hO5:zD w5 a5 (Gate.zac (Gate.shapeOf l.ss o.kd).fs o.vs):=ht5.at (by rw [Gate.qR HFA.out.1];exact HH.out.2.2) (zgE hFW.smalls HH.out.2.1.vals.small HFA.out.1);have hO5':zD w5 a5' o.hs:=ht5'.at HH.out.2.1.holds.len HH.out.2.1.holds.small;have hA5:=ht5.zqg;have hA5':=ht5'.zqg;clear ht5 hm5 hsm5 ht5' hb5)
  | (go_at_call 214;refine (zoA o (Gate.zac (Gate.shapeOf l.ss o.kd).fs o.vs) (Gate.qR HFA.out.1) (Gate.shapeOf l.ss o.kd) l.ms _ _ _ _ _ _ _ _ _ (by exact hFW.mono hb) (by exact HH.out.1.ms.mono (hBW.trans (hb.mono hBW.size))) HH.out.2.1.small (by exact hO5) (by exact hO5') hA5 hA5' hl hl' HFA.out.1 hml HFA.out.2.1 HFA.out.2.2.1 HFA.out.2.2.2).mono ?_;rintro e w6 ⟨e0,dap,e1,dap',m,rfl,ht,hm,hsm,ht',hb6⟩;have hR6:w6.heap[w.heap.size+1+1]?=some (.cells #[.string ByteArray.empty,.string ByteArray.empty,.string ByteArray.empty,.slice none 0 0,.bool false,.slice none 0 0,.int .i64 0] 119):=((hb.trans (hb6.mono hb.size)).block (w.heap.size+1+1) hzW).trans hRW;have hS0:=fun j=>(hb6.cell (p:=⟨w.heap.size,j,none⟩) (nLt hzl hb.size)).trans (hS0 j);have hS1:=fun j=>(hb6.cell (p:=⟨w.heap.size+1,j,none⟩) (nLt hzo hb.size)).trans (hS1 j);have hS2:=fun j=>(hb6.cell (p:=⟨w1.heap.size,j,none⟩) (nLt hzs hb.size)).trans (hS2 j);have hS5:=fun j=>(zgY (g:=w.heap.size+1+1) (by omega:w.heap.size ≠ w.heap.size+1+1) (v0:=.string o.kd) (v1:=.string o.nm) (v2:=.string o.tm) (v3:=.slice e0 o.vs.length dap) (v4:=.bool o.en) (v5:=.slice e1 o.hs.length dap') (v6:=.int .i64 o.vr)).trans (hS0 j);have hS3:=fun j=>(zgY (g:=w.heap.size+1+1) (by omega:w.heap.size+1 ≠ w.heap.size+1+1) (v0:=.string o.kd) (v1:=.string o.nm) (v2:=.string o.tm) (v3:=.slice e0 o.vs.length dap) (v4:=.bool o.en) (v5:=.slice e1 o.hs.length dap') (v6:=.int .i64 o.vr)).trans (hS1 j);have hS4:=fun j=>(zgY (g:=w.heap.size+1+1) (by omega:w1.heap.size ≠ w.heap.size+1+1) (v0:=.string o.kd) (v1:=.string o.nm) (v2:=.string o.tm) (v3:=.slice e0 o.vs.length dap) (v4:=.bool o.en) (v5:=.slice e1 o.hs.length dap') (v6:=.int .i64 o.vr)).trans (hS2 j);have hRc:=zaA hR6;have hRf:=znw hR6;have hsz5:=hb.size;have hb:=hb.trans (hb6.mono hb.size);clear hb6))
 go_wp2_with fail
 refine bodyPost_ret (v:=(.agg #[.string o.kd,.string o.nm,.string o.tm,.slice e0 o.vs.length dap,.bool o.en,.slice e1 o.hs.length dap',.int .i64 o.vr])) (by simp [results,Tryz.results197,go_sem,hRc]) rfl ?_;have hB:=hBW.trans (hb.mono hBW.size);have h2:w.heap.size+1+1+1<=W2.drew.heap.size:=hzW;exact ⟨e0,dap,e1,dap',rfl,(jO (ht.low (lo':=w.heap.size+1+1+1) (by omega)) _ (by omega) _ _ _ _ _ _ _).low (by omega),zaM hB _ (by omega) _ _ _ _ _ _ _⟩
namespace Gate
def zaO (l:Lw) (o:Ob):Bool:=decide ((yH l.ss o).1=0) && decide (zaH l o=o.vs)
theorem jE {l:Lw} {o:Ob} (hok:yt l.ss l.ms=true) (h:(yH l.ss o).1=0):qG l.ss l.ms o=true:=by
 have hw:whole l.ss o=true:=by
  cases hc:whole l.ss o with
  | true=>rfl
  | false=>unfold yH at h;rw [if_neg (by rw [hc];simp)] at h;simp at h
 unfold whole zx at hw;unfold qG;simp only [Bool.and_eq_true] at hw ⊢;exact ⟨hw.2.1,hw.2.2,hok⟩
end Gate
theorem zd2 {l:Lw} {o:Ob} (hm:Gate.qG l.ss l.ms o=true) (hs:zdr l.ss) (hms:∀ i (h:i < l.ms.length),l.ms[i].Small) (ho:∀ s ∈ o.vs,s.size<=maxLen):∀ s ∈ Gate.zaH l o,s.size<=maxLen:=by
 have hf:=Gate.zb0 hm;have hk:Gate.zF l.ss o.kd=true:=by unfold Gate.qG at hm;simp only [Bool.and_eq_true] at hm;exact hm.1
 obtain ⟨i,hi,e⟩:=Gate.zc4 hk;have h1:zbX (Gate.shapeOf l.ss o.kd).fs:=by rw [e];exact (hs.small i hi).2.2
 exact Gate.zb1 hms _ _ (zgE h1 ho hf.1)
theorem zeN {l:Lw} {o:Ob} {w:World} {a:Option Addr} {lo:Nat} (h:zw lo w a (Gate.zaH l o)) (hm:Gate.qG l.ss l.ms o=true) (hl:o.vs.length<=maxLen) (hs:∀ s ∈ Gate.zaH l o,s.size<=maxLen):zD w a (Gate.zaH l o):=h.at (by rw [zcp hm];exact hl) hs
theorem ziU (a c:Option Addr) (ca cc:Nat) (xs ys:List ByteArray) (w:World) (hx:zD w a xs) (hy:zD w c ys) (hl:xs.length<=1048576) (hl':ys.length<=1048576) (hn:xs.length=ys.length) :
 Calls Tryz.prog 196 #[.slice a ys.length ca,.slice c ys.length cc] w fun e w'=>e = .returned (.bool (decide (xs=ys)))/\Below w.heap.size w w':=by
 have h:=zhW a c ca cc xs ys w hx hy hl hl';rw [hn] at h;exact h
set_option maxRecDepth 20000 in
theorem zlD (l:Lw) (a b c:Option Addr) (ca cb cc:Nat) (o:Ob) (va ha:Option Addr) (cap cap':Nat) (w:World) (hL:y9 w l a b c) (hml:l.ms.length<=1048576) (ho:qB w o va ha) (hl:o.vs.length<=1048576) (hl':o.hs.length<=1048576) (hok:Gate.yt l.ss l.ms=true) :
 Calls Tryz.prog 153 #[.agg #[.slice a l.ss.length ca,.slice b l.ms.length cb,.slice c l.ts.length cc],.agg #[.string o.kd,.string o.nm,.string o.tm,.slice va o.vs.length cap,.bool o.en,.slice ha o.hs.length cap',.int .i64 o.vr]] w fun e w'=>e = .returned (.bool (Gate.zaO l o))/\Below w.heap.size w w':=by
 have hfd:∀ (s0 s1 s2:ByteArray) (x y:Option Addr) (n m p q:Nat) (t:Bool) (v:Int) (wf:World),(Instr.field 119 (.agg #[.string s0,.string s1,.string s2,.slice x n p,.bool t,.slice y m q,.int .i64 v]) 3).run Tryz.prog wf = .ok (.slice x n p) wf:=fun s0 s1 s2 x y n m p q t v wf=>by kernel_rfl
 have HH:Hid (y9 w l a b c/\qB w o va ha):=⟨hL,ho⟩
 clear hL ho;obtain ⟨r,hr⟩:∃ r,r=Gate.zaO l o:=⟨_,rfl⟩
 rw [<- hr];have HR:Hid (r=Gate.zaO l o):=hr;clear hr;go_enter Tryz.func153,Tryz.ntmps153;go_wp2_with fail
 have hb2:=zA w (.cells #[.slice a l.ss.length ca,.slice b l.ms.length cb,.slice c l.ts.length cc] 41) (.cells #[.string o.kd,.string o.nm,.string o.tm,.slice va o.vs.length cap,.bool o.en,.slice ha o.hs.length cap',.int .i64 o.vr] 119);refine (zhV _ _ l.ss o _ _ _ _ _ (HH.out.1.ss.mono hb2) (HH.out.2.mono hb2)).mono ?_;rintro e w1 ⟨rfl,hb1⟩;have hX0:∀ j,w1.cell? ⟨w.heap.size,j,none⟩=(#[.slice a l.ss.length ca,.slice b l.ms.length cb,.slice c l.ts.length cc]:Array Value)[j]?:=fun j=>cell_of_block ((hb1.block w.heap.size (by simp;omega)).trans (yh _ _ _).1)
 have hX1:∀ j,w1.cell? ⟨w.heap.size+1,j,none⟩=(#[.string o.kd,.string o.nm,.string o.tm,.slice va o.vs.length cap,.bool o.en,.slice ha o.hs.length cap',.int .i64 o.vr]:Array Value)[j]?:=fun j=>cell_of_block ((hb1.block (w.heap.size+1) (by simp)).trans (yh _ _ _).2)
 have hz1:w.heap.size+1 < w1.heap.size:=by have:=hb1.size;simp at this;omega
 have hz0:w.heap.size < w1.heap.size:=by omega
 have hB1:Below w.heap.size w w1:=hb2.trans (hb1.mono (by simp;omega));clear hb1 hb2
 by_cases hc:(Gate.yH l.ss o).1=0
 rotate_left
 ·have HF:Hid (r=false):=by unfold Hid;rw [HR.out];unfold Gate.zaO;rw [decide_eq_false hc];rfl
  have hv:zf0 l.ss o = .iface 279 (.agg #[.int .i64 (Gate.yH l.ss o).1,.int .i64 (Gate.yH l.ss o).2]):=zlg hc;rw [hv];clear hc hv;go_wp2_with fail
  go_ret;exact ⟨ze HF.out.symm,hB1⟩
 have HMD:Hid (Gate.qG l.ss l.ms o=true):=Gate.jE hok hc;have HS:Hid (∀ s ∈ Gate.zaH l o,s.size<=maxLen):=zd2 HMD.out HH.out.1.ss.smalls HH.out.1.ms.small HH.out.2.vals.small;have HF:Hid (decide (Gate.zaH l o=o.vs)=r):=by unfold Hid;rw [HR.out];unfold Gate.zaO;rw [decide_eq_true hc];rfl
 have hv:zf0 l.ss o = .nilIface:=by unfold zf0;rw [hc];rfl
 rw [hv];have HLN:Hid ((Gate.zaH l o).length=o.vs.length):=zcp HMD.out;clear hc hv;go_wp2_with fail
 have hS0:=za hX0 hz0 (bRf w1.heap.size w1).drew;have hS1:=za hX1 hz1 (bRf w1.heap.size w1).drew;have hb:=(bRf w1.heap.size w1).drew;have hzl:w.heap.size < w1.drew.heap.size:=hz0;have hzo:w.heap.size+1 < w1.drew.heap.size:=hz1;clear hX0 hX1
 go_region_held3 (fun w'=>(∀ j,w'.cell? ⟨w.heap.size,j,none⟩=(#[.slice a l.ss.length ca,.slice b l.ms.length cb,.slice c l.ts.length cc]:Array Value)[j]?)/\(∀ j,w'.cell? ⟨w.heap.size+1,j,none⟩=(#[.string o.kd,.string o.nm,.string o.tm,.slice va o.vs.length cap,.bool o.en,.slice ha o.hs.length cap',.int .i64 o.vr]:Array Value)[j]?)) (exact ⟨fun j=>by rw [hS0],fun j=>by rw [hS1]⟩) (first
  | (go_at_call 197;refine (zjS l a b c ca cb cc o va ha cap cap' _ (by exact HH.out.1.mono (hB1.trans (hb.mono hB1.size))) hml (by exact HH.out.2.mono (hB1.trans (hb.mono hB1.size))) hl hl' HMD.out).mono ?_;rintro e w5 ⟨e0,dap,e1,dap',rfl,ht5,hb5⟩;have hS0:=za hS0 hzl hb5;have hS1:=za hS1 hzo hb5;have hb:=hb.trans (hb5.mono hb.size);have hO5:zD w5 e0 (Gate.zaH l o):=zeN ht5 HMD.out HH.out.2.vals.len HS.out;clear ht5 hb5)
  | (go_at_call 196;refine (ziU _ va _ cap (Gate.zaH l o) o.vs _ (by exact hO5) (by exact HH.out.2.vals.mono (hB1.trans (hb.mono hB1.size))) (by rw [HLN.out];exact hl) hl HLN.out).mono ?_;rintro e w6 ⟨rfl,hb6⟩;rw [HF.out];have hS0:=fun j=>(hb6.cell (p:=⟨w.heap.size,j,none⟩) (nLt hzl hb.size)).trans (hS0 j);have hS1:=fun j=>(hb6.cell (p:=⟨w.heap.size+1,j,none⟩) (nLt hzo hb.size)).trans (hS1 j);have hb:=hb.trans (hb6.mono hb.size);clear hb6))
 go_wp2_with fail
 go_ret;exact ⟨rfl,hB1.trans (hb.mono hB1.size)⟩
end Go.Proofs.YtghnakljnhnenaaGreat
