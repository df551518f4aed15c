import Derived.Test.YtghnakljnhnenaaGreatM29
set_option maxHeartbeats 4000000
namespace Go.Proofs.YtghnakljnhnenaaGreat
open Go.RowKit
namespace Gate
def jI {α:Type} (key:α->α->Int) (ms:List α) (k:Nat):Prop:=∀ i (h:i+1 < ms.length),i+1 < k->key ms[i] ms[i+1] < 0
def rising {α:Type} (key:α->α->Int) (ms:List α):Prop:=∀ i (h:i+1 < ms.length),key ms[i] ms[i+1] < 0
noncomputable def zbd {α:Type} (key:α->α->Int) (ms:List α):Bool:=@decide (rising key ms) (Classical.propDecidable _)
theorem zea {α:Type} {key:α->α->Int} {ms:List α} {m:Nat} (h:jI key ms (m+1)) (hl:m+1 < ms.length) (hk:key ms[m] ms[m+1] < 0):jI key ms (m+1+1):=by
 intro i hi hik
 rcases Nat.lt_or_ge i m with hlt | hge
 ·exact h i hi (by omega)
 ·have e:i=m:=by omega
  subst e;exact hk
theorem zf1 {α:Type} {key:α->α->Int} {ms:List α} {m:Nat} (hl:m+1 < ms.length) (hk:¬ key ms[m] ms[m+1] < 0):zbd key ms=false:=by
 unfold zbd;simp only [decide_eq_false_iff_not];exact fun h=>hk (h m hl)
theorem zgj {α:Type} {key:α->α->Int} {ms:List α} {m:Nat} (h:jI key ms (m+1)) (hl:ms.length<=m+1):zbd key ms=true:=by
 unfold zbd;simp only [decide_eq_true_eq];exact fun i hi=>h i hi (by omega)
theorem zjm {α:Type} (key:α->α->Int) (ms:List α):zbd key ms=true ↔ rising key ms:=by
 unfold zbd;simp only [decide_eq_true_eq]
def zdH (a b:Int):Int:=if a < b then -1 else if b < a then 1 else 0
def zbB (a b:Gr):Int:=zdH a.no b.no
end Gate
theorem zf3 {n m:Nat} (h:m+1 < n):n+1 - (intOf (Value.int IntKind.i64 ((m:Int)+1+1))).toNat < n+1 - (intOf (Value.int IntKind.i64 ((m:Int)+1))).toNat:=by
 show n+1 - ((m:Int)+1+1).toNat < n+1 - ((m:Int)+1).toNat
 omega
theorem zo4 (x:Int) (w:World):Calls Tryz.prog 216 #[.int .i64 x] w fun e w'=>e = .returned (.bool false)/\w'=w:=by
 have h:(x != x)=false:=by simp
 go_enter Tryz.func216,Tryz.ntmps216;go_wp2_with fail
 go_ret;exact ⟨rfl,rfl⟩
theorem ziQ (x y:Int) (w:World):Calls Tryz.prog 198 #[.int .i64 x,.int .i64 y] w fun e w'=>e = .returned (.int .i64 (Gate.zdH x y))/\w'=w:=by
 have HN:Hid (∀ z W,Calls Tryz.prog 216 #[.int .i64 z] W fun e w'=>e = .returned (.bool false)/\w'=W):=zo4
 by_cases h1:x < y
 ·have HF:Hid (Gate.zdH x y=-1):=by unfold Hid Gate.zdH;rw [if_pos h1]
  go_enter Tryz.func198,Tryz.ntmps198
  go_wp2_with (go_at_call 216;refine (HN.out _ _).mono ?_;rintro e w2 ⟨rfl,rfl⟩)
  go_ret;exact ⟨zq HF.out.symm,rfl⟩
 ·by_cases h2:y < x
  ·have HF:Hid (Gate.zdH x y=1):=by unfold Hid Gate.zdH;rw [if_neg h1,if_pos h2]
   go_enter Tryz.func198,Tryz.ntmps198
   go_wp2_with (go_at_call 216;refine (HN.out _ _).mono ?_;rintro e w2 ⟨rfl,rfl⟩)
   go_ret;exact ⟨zq HF.out.symm,rfl⟩
  ·have HF:Hid (Gate.zdH x y=0):=by unfold Hid Gate.zdH;rw [if_neg h1,if_neg h2]
   go_enter Tryz.func198,Tryz.ntmps198
   go_wp2_with (go_at_call 216;refine (HN.out _ _).mono ?_;rintro e w2 ⟨rfl,rfl⟩)
   go_ret;exact ⟨zq HF.out.symm,rfl⟩
theorem zi3 (g h:Gr) (a b:Option Addr) (c d:Nat) (w:World) :
 Calls Tryz.prog 156 #[.agg (g.cells a c),.agg (h.cells b d)] w fun e w'=>e = .returned (.int .i64 (Gate.zbB g h))/\Below w.heap.size w w':=by
 unfold Gr.cells;go_enter Tryz.func156,Tryz.ntmps156
 go_wp2_with (go_at_call 198;refine (ziQ _ _ _).mono ?_;rintro e w2 ⟨rfl,rfl⟩)
 go_ret;exact ⟨rfl,zA _ _ _⟩
theorem zim (a:Option Addr) (cap:Nat) (ms:List Ob) (w:World) (hw:zby w a ms) :
 Calls Tryz.prog 151 #[.slice a ms.length cap,.func (.func 152) #[] #[]] w fun e w'=>e = .returned (.bool (Gate.zbd Gate.zax ms))/\Below w.heap.size w w':=by
 have hl:=hw.len;unfold maxLen at hl;have HW:Hid (zby w a ms):=hw;clear hw;go_enter Tryz.func151,Tryz.ntmps151;go_wp2_with fail
 go_loopw [5] (fun iv wr=>∃ m:Nat,iv = .int .i64 ((m:Int)+1)/\m<=ms.length/\Hid (Gate.jI Gate.zax ms (m+1)/\Below w.heap.size w wr)) (fun iv _=>ms.length+1 - (intOf iv).toNat)
 case atStart=>exact ⟨0,rfl,Nat.zero_le _,fun i h h'=>by omega,bRf _ _⟩
 case round =>
  obtain ⟨m,rfl,hml,HQ⟩:=hrel
  by_cases hlt:m+1 < ms.length
  ·have hm:m < ms.length:=by omega
   obtain ⟨b,off,p0,p1,p2,p3,rfl,hb,_,_,_,d0,d1,d2,d3,d4,d5,d6⟩:=HW.out.load HQ.out.2 m hm;obtain ⟨b2,off2,q0,q1,q2,q3,ha2,hbq,_,_,_,e0,e1,e2,e3,e4,e5,e6⟩:=HW.out.load HQ.out.2 (m+1) hlt
   obtain ⟨rfl,rfl⟩:b=b2/\off=off2:=by
    have h:=ha2
    simpa using h
   have hb':b < wr.heap.size:=nLt hb HQ.out.2.size;have hltI:(m:Int)+1 < (ms.length:Int):=by omega
   have h0m:(0:Int)<=(m:Int):=by omega
   have h01:(0:Int)<=(m:Int)+1:=by omega
   have hsub:IntKind.i64.wrap ((m:Int)+1 - 1)=(m:Int):=by rw [IntKind.wrap_i64];omega
   have hsub2:IntKind.i64.wrap (m:Int)=(m:Int):=by rw [IntKind.wrap_i64];omega
   have hsub3:wrap64 (m:Int)=(m:Int):=by unfold wrap64;omega
   have htn:((m:Int)+1).toNat=m+1:=by omega
   have hlmI:(m:Int) < (ms.length:Int):=by omega
   have HBr:Hid (Below w.heap.size w wr):=HQ.out.2;have hS:wr.drew.cell? ⟨b,off+m * 7,none⟩=some (.string ms[m].kd)/\wr.drew.cell? ⟨b,off+m * 7+1,none⟩=some (.string ms[m].nm)/\wr.drew.cell? ⟨b,off+m * 7+2,none⟩=some (.string ms[m].tm)/\wr.drew.cell? ⟨b,off+m * 7+3,none⟩=some (.slice p0 ms[m].vs.length p2)/\wr.drew.cell? ⟨b,off+m * 7+4,none⟩=some (.bool ms[m].en)/\wr.drew.cell? ⟨b,off+m * 7+5,none⟩=some (.slice p1 ms[m].hs.length p3)/\wr.drew.cell? ⟨b,off+m * 7+6,none⟩=some (.int .i64 ms[m].vr)/\wr.drew.cell? ⟨b,off+(m+1) * 7,none⟩=some (.string ms[m+1].kd)/\wr.drew.cell? ⟨b,off+(m+1) * 7+1,none⟩=some (.string ms[m+1].nm)/\wr.drew.cell? ⟨b,off+(m+1) * 7+2,none⟩=some (.string ms[m+1].tm)/\wr.drew.cell? ⟨b,off+(m+1) * 7+3,none⟩=some (.slice q0 ms[m+1].vs.length q2)/\wr.drew.cell? ⟨b,off+(m+1) * 7+4,none⟩=some (.bool ms[m+1].en)/\wr.drew.cell? ⟨b,off+(m+1) * 7+5,none⟩=some (.slice q1 ms[m+1].hs.length q3)/\wr.drew.cell? ⟨b,off+(m+1) * 7+6,none⟩=some (.int .i64 ms[m+1].vr):=⟨d0,d1,d2,d3,d4,d5,d6,e0,e1,e2,e3,e4,e5,e6⟩
   clear d0 d1 d2 d3 d4 d5 d6 e0 e1 e2 e3 e4 e5 e6;have HM:Hid (Gate.jI Gate.zax ms (m+1)):=HQ.out.1;clear HQ;go_wp2_with fail
   go_region_held3 (fun w'=>w'.cell? ⟨b,off+m * 7,none⟩=some (.string ms[m].kd)/\w'.cell? ⟨b,off+m * 7+1,none⟩=some (.string ms[m].nm)/\w'.cell? ⟨b,off+m * 7+2,none⟩=some (.string ms[m].tm)/\w'.cell? ⟨b,off+m * 7+3,none⟩=some (.slice p0 ms[m].vs.length p2)/\w'.cell? ⟨b,off+m * 7+4,none⟩=some (.bool ms[m].en)/\w'.cell? ⟨b,off+m * 7+5,none⟩=some (.slice p1 ms[m].hs.length p3)/\w'.cell? ⟨b,off+m * 7+6,none⟩=some (.int .i64 ms[m].vr)/\w'.cell? ⟨b,off+(m+1) * 7,none⟩=some (.string ms[m+1].kd)/\w'.cell? ⟨b,off+(m+1) * 7+1,none⟩=some (.string ms[m+1].nm)/\w'.cell? ⟨b,off+(m+1) * 7+2,none⟩=some (.string ms[m+1].tm)/\w'.cell? ⟨b,off+(m+1) * 7+3,none⟩=some (.slice q0 ms[m+1].vs.length q2)/\w'.cell? ⟨b,off+(m+1) * 7+4,none⟩=some (.bool ms[m+1].en)/\w'.cell? ⟨b,off+(m+1) * 7+5,none⟩=some (.slice q1 ms[m+1].hs.length q3)/\w'.cell? ⟨b,off+(m+1) * 7+6,none⟩=some (.int .i64 ms[m+1].vr)) (exact hS) (first | (go_at_call 152;refine (zif ms[m] ms[m+1] p0 p1 q0 q1 p2 p3 q2 q3 _).mono ?_;rintro e w2 ⟨rfl,hb2⟩;have hS:=(⟨(hb2.cell (p:=⟨b,_,none⟩) hb').trans hS.1,(hb2.cell (p:=⟨b,_,none⟩) hb').trans hS.2.1,(hb2.cell (p:=⟨b,_,none⟩) hb').trans hS.2.2.1,(hb2.cell (p:=⟨b,_,none⟩) hb').trans hS.2.2.2.1,(hb2.cell (p:=⟨b,_,none⟩) hb').trans hS.2.2.2.2.1,(hb2.cell (p:=⟨b,_,none⟩) hb').trans hS.2.2.2.2.2.1,(hb2.cell (p:=⟨b,_,none⟩) hb').trans hS.2.2.2.2.2.2.1,(hb2.cell (p:=⟨b,_,none⟩) hb').trans hS.2.2.2.2.2.2.2.1,(hb2.cell (p:=⟨b,_,none⟩) hb').trans hS.2.2.2.2.2.2.2.2.1,(hb2.cell (p:=⟨b,_,none⟩) hb').trans hS.2.2.2.2.2.2.2.2.2.1,(hb2.cell (p:=⟨b,_,none⟩) hb').trans hS.2.2.2.2.2.2.2.2.2.2.1,(hb2.cell (p:=⟨b,_,none⟩) hb').trans hS.2.2.2.2.2.2.2.2.2.2.2.1,(hb2.cell (p:=⟨b,_,none⟩) hb').trans hS.2.2.2.2.2.2.2.2.2.2.2.2.1,(hb2.cell (p:=⟨b,_,none⟩) hb').trans hS.2.2.2.2.2.2.2.2.2.2.2.2.2⟩:_/\_/\_/\_/\_/\_/\_/\_/\_/\_/\_/\_/\_/\_);have hB2:=HBr.out.drew.trans (hb2.mono HBr.out.drew.size);clear hb2))
   by_cases hk:Gate.zax ms[m] ms[m+1] < 0
   ·have HA:Hid (Gate.jI Gate.zax ms (m+1+1)):=Gate.zea HM.out hlt hk
    have hd:decide (0<=Gate.zax ms[m] ms[m+1])=false:=by simp;omega
    rw [hd];clear hk hd;go_wp2_with fail
    exact ⟨⟨m+1,by go_num,by omega,HA.out,hB2⟩,zf3 (by omega)⟩
   ·have HA:Hid (Gate.zbd Gate.zax ms=false):=Gate.zf1 hlt hk
    have hd:decide (0<=Gate.zax ms[m] ms[m+1])=true:=by simp;omega
    rw [hd];clear hk hd;go_wp2_with fail
    go_ret;exact ⟨ze HA.out.symm,hB2⟩
  ·have HA:Hid (Gate.zbd Gate.zax ms=true):=Gate.zgj HQ.out.1 (by omega)
   have HB:Hid (Below w.heap.size w wr):=HQ.out.2;clear HQ;go_wp2_with fail
   go_ret;exact ⟨ze HA.out.symm,HB.out⟩
theorem zh6 (a:Option Addr) (cap:Nat) (ms:List Gr) (w:World) (hw:zcl w a ms) :
 Calls Tryz.prog 155 #[.slice a ms.length cap,.func (.func 156) #[] #[]] w fun e w'=>e = .returned (.bool (Gate.zbd Gate.zbB ms))/\Below w.heap.size w w':=by
 have hl:=hw.len;unfold maxLen at hl;have HW:Hid (zcl w a ms):=hw;clear hw;go_enter Tryz.func155,Tryz.ntmps155;go_wp2_with fail
 go_loopw [5] (fun iv wr=>∃ m:Nat,iv = .int .i64 ((m:Int)+1)/\m<=ms.length/\Hid (Gate.jI Gate.zbB ms (m+1)/\Below w.heap.size w wr)) (fun iv _=>ms.length+1 - (intOf iv).toNat)
 case atStart=>exact ⟨0,rfl,Nat.zero_le _,fun i h h'=>by omega,bRf _ _⟩
 case round =>
  obtain ⟨m,rfl,hml,HQ⟩:=hrel
  by_cases hlt:m+1 < ms.length
  ·have hm:m < ms.length:=by omega
   obtain ⟨b,off,p0,p1,rfl,hb,_,_,d0,d1,d2,d3,d4,d5,d6⟩:=HW.out.load HQ.out.2 m hm;obtain ⟨b2,off2,q0,q1,ha2,hbq,_,_,e0,e1,e2,e3,e4,e5,e6⟩:=HW.out.load HQ.out.2 (m+1) hlt
   obtain ⟨rfl,rfl⟩:b=b2/\off=off2:=by
    have h:=ha2
    simpa using h
   have hb':b < wr.heap.size:=nLt hb HQ.out.2.size;have hltI:(m:Int)+1 < (ms.length:Int):=by omega
   have h0m:(0:Int)<=(m:Int):=by omega
   have h01:(0:Int)<=(m:Int)+1:=by omega
   have hsub:IntKind.i64.wrap ((m:Int)+1 - 1)=(m:Int):=by rw [IntKind.wrap_i64];omega
   have hsub2:IntKind.i64.wrap (m:Int)=(m:Int):=by rw [IntKind.wrap_i64];omega
   have hsub3:wrap64 (m:Int)=(m:Int):=by unfold wrap64;omega
   have htn:((m:Int)+1).toNat=m+1:=by omega
   have hlmI:(m:Int) < (ms.length:Int):=by omega
   have HBr:Hid (Below w.heap.size w wr):=HQ.out.2;have hS:wr.drew.cell? ⟨b,off+m * 7,none⟩=some (.int .i64 ms[m].no)/\wr.drew.cell? ⟨b,off+m * 7+1,none⟩=some (.string ms[m].to)/\wr.drew.cell? ⟨b,off+m * 7+2,none⟩=some (.string ms[m].gb)/\wr.drew.cell? ⟨b,off+m * 7+3,none⟩=some (.slice p0 ms[m].r.vs.length p1)/\wr.drew.cell? ⟨b,off+m * 7+4,none⟩=some (.string ms[m].r.kd)/\wr.drew.cell? ⟨b,off+m * 7+5,none⟩=some (.string ms[m].r.tm)/\wr.drew.cell? ⟨b,off+m * 7+6,none⟩=some (.string ms[m].r.px)/\wr.drew.cell? ⟨b,off+(m+1) * 7,none⟩=some (.int .i64 ms[m+1].no)/\wr.drew.cell? ⟨b,off+(m+1) * 7+1,none⟩=some (.string ms[m+1].to)/\wr.drew.cell? ⟨b,off+(m+1) * 7+2,none⟩=some (.string ms[m+1].gb)/\wr.drew.cell? ⟨b,off+(m+1) * 7+3,none⟩=some (.slice q0 ms[m+1].r.vs.length q1)/\wr.drew.cell? ⟨b,off+(m+1) * 7+4,none⟩=some (.string ms[m+1].r.kd)/\wr.drew.cell? ⟨b,off+(m+1) * 7+5,none⟩=some (.string ms[m+1].r.tm)/\wr.drew.cell? ⟨b,off+(m+1) * 7+6,none⟩=some (.string ms[m+1].r.px):=⟨d0,d1,d2,d3,d4,d5,d6,e0,e1,e2,e3,e4,e5,e6⟩
   clear d0 d1 d2 d3 d4 d5 d6 e0 e1 e2 e3 e4 e5 e6;have HM:Hid (Gate.jI Gate.zbB ms (m+1)):=HQ.out.1;clear HQ;go_wp2_with fail
   go_region_held3 (fun w'=>w'.cell? ⟨b,off+m * 7,none⟩=some (.int .i64 ms[m].no)/\w'.cell? ⟨b,off+m * 7+1,none⟩=some (.string ms[m].to)/\w'.cell? ⟨b,off+m * 7+2,none⟩=some (.string ms[m].gb)/\w'.cell? ⟨b,off+m * 7+3,none⟩=some (.slice p0 ms[m].r.vs.length p1)/\w'.cell? ⟨b,off+m * 7+4,none⟩=some (.string ms[m].r.kd)/\w'.cell? ⟨b,off+m * 7+5,none⟩=some (.string ms[m].r.tm)/\w'.cell? ⟨b,off+m * 7+6,none⟩=some (.string ms[m].r.px)/\w'.cell? ⟨b,off+(m+1) * 7,none⟩=some (.int .i64 ms[m+1].no)/\w'.cell? ⟨b,off+(m+1) * 7+1,none⟩=some (.string ms[m+1].to)/\w'.cell? ⟨b,off+(m+1) * 7+2,none⟩=some (.string ms[m+1].gb)/\w'.cell? ⟨b,off+(m+1) * 7+3,none⟩=some (.slice q0 ms[m+1].r.vs.length q1)/\w'.cell? ⟨b,off+(m+1) * 7+4,none⟩=some (.string ms[m+1].r.kd)/\w'.cell? ⟨b,off+(m+1) * 7+5,none⟩=some (.string ms[m+1].r.tm)/\w'.cell? ⟨b,off+(m+1) * 7+6,none⟩=some (.string ms[m+1].r.px)) (exact hS) (first | (go_at_call 156;refine (zi3 ms[m] ms[m+1] p0 q0 p1 q1 _).mono ?_;rintro e w2 ⟨rfl,hb2⟩;have hS:=(⟨(hb2.cell (p:=⟨b,_,none⟩) hb').trans hS.1,(hb2.cell (p:=⟨b,_,none⟩) hb').trans hS.2.1,(hb2.cell (p:=⟨b,_,none⟩) hb').trans hS.2.2.1,(hb2.cell (p:=⟨b,_,none⟩) hb').trans hS.2.2.2.1,(hb2.cell (p:=⟨b,_,none⟩) hb').trans hS.2.2.2.2.1,(hb2.cell (p:=⟨b,_,none⟩) hb').trans hS.2.2.2.2.2.1,(hb2.cell (p:=⟨b,_,none⟩) hb').trans hS.2.2.2.2.2.2.1,(hb2.cell (p:=⟨b,_,none⟩) hb').trans hS.2.2.2.2.2.2.2.1,(hb2.cell (p:=⟨b,_,none⟩) hb').trans hS.2.2.2.2.2.2.2.2.1,(hb2.cell (p:=⟨b,_,none⟩) hb').trans hS.2.2.2.2.2.2.2.2.2.1,(hb2.cell (p:=⟨b,_,none⟩) hb').trans hS.2.2.2.2.2.2.2.2.2.2.1,(hb2.cell (p:=⟨b,_,none⟩) hb').trans hS.2.2.2.2.2.2.2.2.2.2.2.1,(hb2.cell (p:=⟨b,_,none⟩) hb').trans hS.2.2.2.2.2.2.2.2.2.2.2.2.1,(hb2.cell (p:=⟨b,_,none⟩) hb').trans hS.2.2.2.2.2.2.2.2.2.2.2.2.2⟩:_/\_/\_/\_/\_/\_/\_/\_/\_/\_/\_/\_/\_/\_);have hB2:=HBr.out.drew.trans (hb2.mono HBr.out.drew.size);clear hb2))
   by_cases hk:Gate.zbB ms[m] ms[m+1] < 0
   ·have HA:Hid (Gate.jI Gate.zbB ms (m+1+1)):=Gate.zea HM.out hlt hk
    have hd:decide (0<=Gate.zbB ms[m] ms[m+1])=false:=by simp;omega
    rw [hd];clear hk hd;go_wp2_with fail
    exact ⟨⟨m+1,by go_num,by omega,HA.out,hB2⟩,zf3 (by omega)⟩
   ·have HA:Hid (Gate.zbd Gate.zbB ms=false):=Gate.zf1 hlt hk
    have hd:decide (0<=Gate.zbB ms[m] ms[m+1])=true:=by simp;omega
    rw [hd];clear hk hd;go_wp2_with fail
    go_ret;exact ⟨ze HA.out.symm,hB2⟩
  ·have HA:Hid (Gate.zbd Gate.zbB ms=true):=Gate.zgj HQ.out.1 (by omega)
   have HB:Hid (Below w.heap.size w wr):=HQ.out.2;clear HQ;go_wp2_with fail
   go_ret;exact ⟨ze HA.out.symm,HB.out⟩
theorem zia (a:Option Addr) (cap:Nat) (ms:List Lg) (w:World) (hw:zb8 w a ms) :
 Calls Tryz.prog 158 #[.slice a ms.length cap,.func (.func 159) #[] #[]] w fun e w'=>e = .returned (.bool (Gate.zbd Gate.qC ms))/\Below w.heap.size w w':=by
 have hl:=hw.len;unfold maxLen at hl;have HW:Hid (zb8 w a ms):=hw;clear hw;go_enter Tryz.func158,Tryz.ntmps158;go_wp2_with fail
 go_loopw [5] (fun iv wr=>∃ m:Nat,iv = .int .i64 ((m:Int)+1)/\m<=ms.length/\Hid (Gate.jI Gate.qC ms (m+1)/\Below w.heap.size w wr)) (fun iv _=>ms.length+1 - (intOf iv).toNat)
 case atStart=>exact ⟨0,rfl,Nat.zero_le _,fun i h h'=>by omega,bRf _ _⟩
 case round =>
  obtain ⟨m,rfl,hml,HQ⟩:=hrel
  by_cases hlt:m+1 < ms.length
  ·have hm:m < ms.length:=by omega
   obtain ⟨b,off,rfl,hb,d0,d1,d2,d3⟩:=HW.out.load HQ.out.2 m hm;obtain ⟨b2,off2,ha2,hbq,e0,e1,e2,e3⟩:=HW.out.load HQ.out.2 (m+1) hlt
   obtain ⟨rfl,rfl⟩:b=b2/\off=off2:=by
    have h:=ha2
    simpa using h
   have hb':b < wr.heap.size:=nLt hb HQ.out.2.size;have hltI:(m:Int)+1 < (ms.length:Int):=by omega
   have h0m:(0:Int)<=(m:Int):=by omega
   have h01:(0:Int)<=(m:Int)+1:=by omega
   have hsub:IntKind.i64.wrap ((m:Int)+1 - 1)=(m:Int):=by rw [IntKind.wrap_i64];omega
   have hsub2:IntKind.i64.wrap (m:Int)=(m:Int):=by rw [IntKind.wrap_i64];omega
   have hsub3:wrap64 (m:Int)=(m:Int):=by unfold wrap64;omega
   have htn:((m:Int)+1).toNat=m+1:=by omega
   have hlmI:(m:Int) < (ms.length:Int):=by omega
   have HBr:Hid (Below w.heap.size w wr):=HQ.out.2;have hS:wr.drew.cell? ⟨b,off+m * 4,none⟩=some (.string ms[m].tm)/\wr.drew.cell? ⟨b,off+m * 4+1,none⟩=some (.string ms[m].rs)/\wr.drew.cell? ⟨b,off+m * 4+2,none⟩=some (.int .i64 ms[m].mo)/\wr.drew.cell? ⟨b,off+m * 4+3,none⟩=some (.int .i64 ms[m].fr)/\wr.drew.cell? ⟨b,off+(m+1) * 4,none⟩=some (.string ms[m+1].tm)/\wr.drew.cell? ⟨b,off+(m+1) * 4+1,none⟩=some (.string ms[m+1].rs)/\wr.drew.cell? ⟨b,off+(m+1) * 4+2,none⟩=some (.int .i64 ms[m+1].mo)/\wr.drew.cell? ⟨b,off+(m+1) * 4+3,none⟩=some (.int .i64 ms[m+1].fr):=⟨d0,d1,d2,d3,e0,e1,e2,e3⟩
   clear d0 d1 d2 d3 e0 e1 e2 e3;have HM:Hid (Gate.jI Gate.qC ms (m+1)):=HQ.out.1;clear HQ;go_wp2_with fail
   go_region_held3 (fun w'=>w'.cell? ⟨b,off+m * 4,none⟩=some (.string ms[m].tm)/\w'.cell? ⟨b,off+m * 4+1,none⟩=some (.string ms[m].rs)/\w'.cell? ⟨b,off+m * 4+2,none⟩=some (.int .i64 ms[m].mo)/\w'.cell? ⟨b,off+m * 4+3,none⟩=some (.int .i64 ms[m].fr)/\w'.cell? ⟨b,off+(m+1) * 4,none⟩=some (.string ms[m+1].tm)/\w'.cell? ⟨b,off+(m+1) * 4+1,none⟩=some (.string ms[m+1].rs)/\w'.cell? ⟨b,off+(m+1) * 4+2,none⟩=some (.int .i64 ms[m+1].mo)/\w'.cell? ⟨b,off+(m+1) * 4+3,none⟩=some (.int .i64 ms[m+1].fr)) (exact hS) (first | (go_at_call 159;refine (zci ms[m] ms[m+1] _).mono ?_;rintro e w2 ⟨rfl,hb2⟩;have hS:=(⟨(hb2.cell (p:=⟨b,_,none⟩) hb').trans hS.1,(hb2.cell (p:=⟨b,_,none⟩) hb').trans hS.2.1,(hb2.cell (p:=⟨b,_,none⟩) hb').trans hS.2.2.1,(hb2.cell (p:=⟨b,_,none⟩) hb').trans hS.2.2.2.1,(hb2.cell (p:=⟨b,_,none⟩) hb').trans hS.2.2.2.2.1,(hb2.cell (p:=⟨b,_,none⟩) hb').trans hS.2.2.2.2.2.1,(hb2.cell (p:=⟨b,_,none⟩) hb').trans hS.2.2.2.2.2.2.1,(hb2.cell (p:=⟨b,_,none⟩) hb').trans hS.2.2.2.2.2.2.2⟩:_/\_/\_/\_/\_/\_/\_/\_);have hB2:=HBr.out.drew.trans (hb2.mono HBr.out.drew.size);clear hb2))
   by_cases hk:Gate.qC ms[m] ms[m+1] < 0
   ·have HA:Hid (Gate.jI Gate.qC ms (m+1+1)):=Gate.zea HM.out hlt hk
    have hd:decide (0<=Gate.qC ms[m] ms[m+1])=false:=by simp;omega
    rw [hd];clear hk hd;go_wp2_with fail
    exact ⟨⟨m+1,by go_num,by omega,HA.out,hB2⟩,zf3 (by omega)⟩
   ·have HA:Hid (Gate.zbd Gate.qC ms=false):=Gate.zf1 hlt hk
    have hd:decide (0<=Gate.qC ms[m] ms[m+1])=true:=by simp;omega
    rw [hd];clear hk hd;go_wp2_with fail
    go_ret;exact ⟨ze HA.out.symm,hB2⟩
  ·have HA:Hid (Gate.zbd Gate.qC ms=true):=Gate.zgj HQ.out.1 (by omega)
   have HB:Hid (Below w.heap.size w wr):=HQ.out.2;clear HQ;go_wp2_with fail
   go_ret;exact ⟨ze HA.out.symm,HB.out⟩
theorem ziq (a:Option Addr) (cap:Nat) (ms:List Pu) (w:World) (hw:zc2 w a ms) :
 Calls Tryz.prog 161 #[.slice a ms.length cap,.func (.func 162) #[] #[]] w fun e w'=>e = .returned (.bool (Gate.zbd Gate.zae ms))/\Below w.heap.size w w':=by
 have hl:=hw.len;unfold maxLen at hl;have HW:Hid (zc2 w a ms):=hw;clear hw;go_enter Tryz.func161,Tryz.ntmps161;go_wp2_with fail
 go_loopw [5] (fun iv wr=>∃ m:Nat,iv = .int .i64 ((m:Int)+1)/\m<=ms.length/\Hid (Gate.jI Gate.zae ms (m+1)/\Below w.heap.size w wr)) (fun iv _=>ms.length+1 - (intOf iv).toNat)
 case atStart=>exact ⟨0,rfl,Nat.zero_le _,fun i h h'=>by omega,bRf _ _⟩
 case round =>
  obtain ⟨m,rfl,hml,HQ⟩:=hrel
  by_cases hlt:m+1 < ms.length
  ·have hm:m < ms.length:=by omega
   obtain ⟨b,off,rfl,hb,d0,d1,d2,d3,d4⟩:=HW.out.load HQ.out.2 m hm;obtain ⟨b2,off2,ha2,hbq,e0,e1,e2,e3,e4⟩:=HW.out.load HQ.out.2 (m+1) hlt
   obtain ⟨rfl,rfl⟩:b=b2/\off=off2:=by
    have h:=ha2
    simpa using h
   have hb':b < wr.heap.size:=nLt hb HQ.out.2.size;have hltI:(m:Int)+1 < (ms.length:Int):=by omega
   have h0m:(0:Int)<=(m:Int):=by omega
   have h01:(0:Int)<=(m:Int)+1:=by omega
   have hsub:IntKind.i64.wrap ((m:Int)+1 - 1)=(m:Int):=by rw [IntKind.wrap_i64];omega
   have hsub2:IntKind.i64.wrap (m:Int)=(m:Int):=by rw [IntKind.wrap_i64];omega
   have hsub3:wrap64 (m:Int)=(m:Int):=by unfold wrap64;omega
   have htn:((m:Int)+1).toNat=m+1:=by omega
   have hlmI:(m:Int) < (ms.length:Int):=by omega
   have HBr:Hid (Below w.heap.size w wr):=HQ.out.2;have hS:wr.drew.cell? ⟨b,off+m * 5,none⟩=some (.string ms[m].dr)/\wr.drew.cell? ⟨b,off+m * 5+1,none⟩=some (.string ms[m].tm)/\wr.drew.cell? ⟨b,off+m * 5+2,none⟩=some (.string ms[m].rs)/\wr.drew.cell? ⟨b,off+m * 5+3,none⟩=some (.int .i64 ms[m].am)/\wr.drew.cell? ⟨b,off+m * 5+4,none⟩=some (.int .i64 ms[m].un)/\wr.drew.cell? ⟨b,off+(m+1) * 5,none⟩=some (.string ms[m+1].dr)/\wr.drew.cell? ⟨b,off+(m+1) * 5+1,none⟩=some (.string ms[m+1].tm)/\wr.drew.cell? ⟨b,off+(m+1) * 5+2,none⟩=some (.string ms[m+1].rs)/\wr.drew.cell? ⟨b,off+(m+1) * 5+3,none⟩=some (.int .i64 ms[m+1].am)/\wr.drew.cell? ⟨b,off+(m+1) * 5+4,none⟩=some (.int .i64 ms[m+1].un):=⟨d0,d1,d2,d3,d4,e0,e1,e2,e3,e4⟩
   clear d0 d1 d2 d3 d4 e0 e1 e2 e3 e4;have HM:Hid (Gate.jI Gate.zae ms (m+1)):=HQ.out.1;clear HQ;go_wp2_with fail
   go_region_held3 (fun w'=>w'.cell? ⟨b,off+m * 5,none⟩=some (.string ms[m].dr)/\w'.cell? ⟨b,off+m * 5+1,none⟩=some (.string ms[m].tm)/\w'.cell? ⟨b,off+m * 5+2,none⟩=some (.string ms[m].rs)/\w'.cell? ⟨b,off+m * 5+3,none⟩=some (.int .i64 ms[m].am)/\w'.cell? ⟨b,off+m * 5+4,none⟩=some (.int .i64 ms[m].un)/\w'.cell? ⟨b,off+(m+1) * 5,none⟩=some (.string ms[m+1].dr)/\w'.cell? ⟨b,off+(m+1) * 5+1,none⟩=some (.string ms[m+1].tm)/\w'.cell? ⟨b,off+(m+1) * 5+2,none⟩=some (.string ms[m+1].rs)/\w'.cell? ⟨b,off+(m+1) * 5+3,none⟩=some (.int .i64 ms[m+1].am)/\w'.cell? ⟨b,off+(m+1) * 5+4,none⟩=some (.int .i64 ms[m+1].un)) (exact hS) (first | (go_at_call 162;refine (zjH ms[m] ms[m+1] _).mono ?_;rintro e w2 ⟨rfl,hb2⟩;have hS:=(⟨(hb2.cell (p:=⟨b,_,none⟩) hb').trans hS.1,(hb2.cell (p:=⟨b,_,none⟩) hb').trans hS.2.1,(hb2.cell (p:=⟨b,_,none⟩) hb').trans hS.2.2.1,(hb2.cell (p:=⟨b,_,none⟩) hb').trans hS.2.2.2.1,(hb2.cell (p:=⟨b,_,none⟩) hb').trans hS.2.2.2.2.1,(hb2.cell (p:=⟨b,_,none⟩) hb').trans hS.2.2.2.2.2.1,(hb2.cell (p:=⟨b,_,none⟩) hb').trans hS.2.2.2.2.2.2.1,(hb2.cell (p:=⟨b,_,none⟩) hb').trans hS.2.2.2.2.2.2.2.1,(hb2.cell (p:=⟨b,_,none⟩) hb').trans hS.2.2.2.2.2.2.2.2.1,(hb2.cell (p:=⟨b,_,none⟩) hb').trans hS.2.2.2.2.2.2.2.2.2⟩:_/\_/\_/\_/\_/\_/\_/\_/\_/\_);have hB2:=HBr.out.drew.trans (hb2.mono HBr.out.drew.size);clear hb2))
   by_cases hk:Gate.zae ms[m] ms[m+1] < 0
   ·have HA:Hid (Gate.jI Gate.zae ms (m+1+1)):=Gate.zea HM.out hlt hk
    have hd:decide (0<=Gate.zae ms[m] ms[m+1])=false:=by simp;omega
    rw [hd];clear hk hd;go_wp2_with fail
    exact ⟨⟨m+1,by go_num,by omega,HA.out,hB2⟩,zf3 (by omega)⟩
   ·have HA:Hid (Gate.zbd Gate.zae ms=false):=Gate.zf1 hlt hk
    have hd:decide (0<=Gate.zae ms[m] ms[m+1])=true:=by simp;omega
    rw [hd];clear hk hd;go_wp2_with fail
    go_ret;exact ⟨ze HA.out.symm,hB2⟩
  ·have HA:Hid (Gate.zbd Gate.zae ms=true):=Gate.zgj HQ.out.1 (by omega)
   have HB:Hid (Below w.heap.size w wr):=HQ.out.2;clear HQ;go_wp2_with fail
   go_ret;exact ⟨ze HA.out.symm,HB.out⟩
theorem zcR (v:Int) (w:World) :
 Calls Tryz.prog 217 #[.int .i64 v] w fun e w'=>e = .returned (.bool (Gate.zav v))/\w'=w:=by
 go_enter Tryz.func217,Tryz.ntmps217
 go_wp2
 all_goals
  go_ret;refine ⟨ze ?_,rfl⟩;rw [Bool.eq_iff_iff];simp [Gate.zav];try omega
theorem Gate.zdy {vs:List Int} {k:Nat} (h:k < vs.length) (hn:Gate.zav vs[k]=false):Gate.qm vs k=false:=by
 unfold Gate.qm;rw [Gate.getD_at vs k _ h,hn];rfl
theorem Gate.zbH {vs:List Int} (h:0 < vs.length) (hn:Gate.zav vs[0]=true):Gate.qm vs 0=true:=by
 unfold Gate.qm;rw [Gate.getD_at vs 0 _ h,hn];rfl
theorem Gate.zhD {vs:List Int} {k:Nat} (h:k+1 < vs.length) (hn:Gate.zav vs[k+1]=true):Gate.qm vs (k+1)=decide (vs[k] < vs[k+1]):=by
 unfold Gate.qm;rw [Gate.getD_at vs (k+1) _ h,Nat.add_sub_cancel,Gate.getD_at vs k _ (by omega),hn];simp
theorem qJ (a:Option Addr) (cap:Nat) (vs:List Int) (w:World) (hw:qp w a vs) :
 Calls Tryz.prog 199 #[.slice a vs.length cap] w fun e w'=>e = .returned (.bool (Gate.q8 vs))/\w'=w:=by
 have hl:=hw.len;unfold maxLen at hl;have HG:Hid (Gate.up (Gate.qm vs) vs.length=false->Gate.q8 vs=false):=fun h=>by unfold Gate.q8;rw [h,Bool.and_false]
 go_enter Tryz.func199,Tryz.ntmps199;go_wp2_with fail
 go_loop [7] (fun i=>∃ k:Nat,k<=vs.length/\i = .int .i64 k/\Gate.up (Gate.qm vs) k=true) (fun i=>vs.length - (intOf i).toNat)
 case atStart=>exact ⟨0,Nat.zero_le _,rfl,rfl⟩
 case round =>
  obtain ⟨k,hk,rfl,hup⟩:=hrel
  by_cases hlt:k < vs.length
  ·obtain ⟨b,off,rfl,hb,hck⟩:=hw.load (bRf _ _) k hlt
   have hltI:(k:Int) < (vs.length:Int):=by omega
   by_cases hn:Gate.zav vs[k]=true
   ·by_cases hk0:k=0
    ·have HF:Hid (Gate.up (Gate.qm vs) (k+1)=true):=by subst hk0;unfold Hid;rw [Gate.q9,Gate.zbH hlt hn];rfl
     have hg:decide (0 < k)=false:=by simp;omega
     have HN:Hid (Gate.zav vs[k]=true):=hn;clear hn hup hk0 hw
     go_wp2_with (go_at_call 217;refine (zf HN.out (zcR _ _)).mono ?_;rintro e w' ⟨rfl,rfl⟩)
     go_round
     case rel=>exact ⟨k+1,by omega,by go_num,HF.out⟩
     case measure=>simp [intOf];omega
    ·obtain ⟨m,rfl⟩:∃ m,k=m+1:=⟨k - 1,by omega⟩
     obtain ⟨b',off',e',hb',hcm⟩:=hw.load (bRf _ _) m (by omega);simp only [Option.some.injEq,Addr.mk.injEq] at e';obtain ⟨rfl,rfl,_⟩:=e';have HU:Hid (Gate.up (Gate.qm vs) (m+1+1)=decide (vs[m] < vs[m+1])):=by unfold Hid;rw [Gate.q9,hup,Gate.zhD hlt hn];rfl
     have HNN:Hid (¬ vs[m] < vs[m+1]->Gate.q8 vs=false):=fun h=>HG.out (Gate.zaR hlt (by rw [Gate.zhD hlt hn];simpa using h))
     have HN:Hid (Gate.zav vs[m+1]=true):=hn;clear hn hup hk0 hw
     by_cases hls:vs[m] < vs[m+1]
     ·have hls':decide (vs[m+1]<=vs[m])=false:=by simp;omega
      have HLS:Hid (vs[m] < vs[m+1]):=hls;clear hls
      go_wp2_with (go_at_call 217;refine (zf HN.out (zcR _ _)).mono ?_;rintro e w' ⟨rfl,rfl⟩)
      go_round
      case rel=>exact ⟨m+1+1,by omega,by go_num,by rw [HU.out];simpa using HLS.out⟩
      case measure=>simp [intOf];omega
     ·have hls':vs[m+1]<=vs[m]:=by omega
      have HLS:Hid (¬ vs[m] < vs[m+1]):=hls;clear hls
      go_wp2_with (go_at_call 217;refine (zf HN.out (zcR _ _)).mono ?_;rintro e w' ⟨rfl,rfl⟩)
      go_ret;exact ⟨ze (HNN.out HLS.out).symm,rfl⟩
   ·have hn':Gate.zav vs[k]=false:=by simpa using hn
    have HF:Hid (Gate.q8 vs=false):=HG.out (Gate.zaR hlt (Gate.zdy hlt hn'));have HN:Hid (Gate.zav vs[k]=false):=hn';clear hn hn' hup hw
    go_wp2_with (go_at_call 217;refine (zf HN.out (zcR _ _)).mono ?_;rintro e w' ⟨rfl,rfl⟩)
    go_ret;exact ⟨ze HF.out.symm,rfl⟩
  ·have HF:Hid (Gate.q8 vs=decide (0 < vs.length)):=by
    have e:k=vs.length:=by omega
    subst e;unfold Hid Gate.q8;rw [hup,Bool.and_true]
   clear hw hup;go_wp2_with fail
   go_ret;exact ⟨ze (by rw [HF.out]),rfl⟩
theorem Gate.zdw (s:ByteArray):s.toList.isEmpty=true \/ (s.toList.isEmpty=false/\Hid (Gate.zy s=true)) \/ (s.toList.isEmpty=false/\Hid (Gate.zy s=false)):=by
 by_cases h:s.toList.isEmpty=true
 ·exact Or.inl h
 ·by_cases h2:Gate.zy s=true
  ·exact Or.inr (Or.inl ⟨by simpa using h,h2⟩)
  ·exact Or.inr (Or.inr ⟨by simpa using h,by simpa [Hid] using h2⟩)
theorem znG (r:Rl) (a:Option Addr) (cap:Nat) (w:World) (hm:r.Small) (hw:qp w a r.vs) :
 Calls Tryz.prog 157 #[.agg (r.cells a cap)] w fun e w'=>e = .returned (.bool (Gate.z8 r))/\Below w.heap.size w w':=by
 have hskd:=hm.kd;have hstm:=hm.tm;have hspx:=hm.px;have hpx:=hm.px;unfold maxLen at hpx;unfold Rl.cells;have HB:Hid (∀ ob,Below w.heap.size w (w.alloc ob)):=fun ob=>bAl _ _
 have HI:Hid (∀ ob,qp (w.alloc ob) a r.vs):=fun ob=>hw.mono (HB.out ob)
 clear hw hm
 rcases Gate.zdw r.kd with hk | ⟨hk,HK⟩ | ⟨hk,HK⟩
 ·rcases Gate.zdw r.tm with ht | ⟨ht,HT⟩ | ⟨ht,HT⟩
  ·have HKD:Hid (Gate.qO r=true):=by unfold Hid Gate.qO;rw [hk,ht];simp
   by_cases hv:Gate.q8 r.vs=true
   rotate_left
   ·have HV:Hid (Gate.q8 r.vs=false):=by simpa [Hid] using hv
    have HF:Hid (Gate.z8 r=false):=by unfold Hid Gate.z8;rw [HV.out];simp
    clear hv;go_enter Tryz.func157,Tryz.ntmps157
    go_wp2_with (first | (go_at_call 199;refine (zf HV.out (qJ _ _ r.vs _ (by exact HI.out _))).mono ?_;rintro e w' ⟨rfl,rfl⟩))
    go_ret;exact ⟨ze HF.out.symm,HB.out _⟩
   have HV:Hid (Gate.q8 r.vs=true):=hv;clear hv
   by_cases h16:r.px.size<=16
   ·have HF:Hid (Gate.z8 r=Gate.yZ r.px):=by unfold Hid Gate.z8;rw [HKD.out,HV.out,decide_eq_true h16];rfl
    have h16I:(r.px.size:Int)<=16:=by omega
    clear h16;go_enter Tryz.func157,Tryz.ntmps157
    go_wp2_with (first | (go_at_call 199;refine (zf HV.out (qJ _ _ r.vs _ (by exact HI.out _))).mono ?_;rintro e w' ⟨rfl,rfl⟩) | (go_at_call 189;refine (jZ r.px _ hspx).mono ?_;rintro e w' ⟨rfl,rfl⟩))
    go_ret;exact ⟨ze HF.out.symm,HB.out _⟩
   ·have HF:Hid (Gate.z8 r=false):=by unfold Hid Gate.z8;rw [decide_eq_false h16];simp
    have h16I:decide ((r.px.size:Int)<=16)=false:=by simp;omega
    clear h16;go_enter Tryz.func157,Tryz.ntmps157
    go_wp2_with (first | (go_at_call 199;refine (zf HV.out (qJ _ _ r.vs _ (by exact HI.out _))).mono ?_;rintro e w' ⟨rfl,rfl⟩))
    go_ret;exact ⟨ze HF.out.symm,HB.out _⟩
  ·have HKD:Hid (Gate.qO r=true):=by unfold Hid Gate.qO;rw [hk,HT.out];simp
   by_cases hv:Gate.q8 r.vs=true
   rotate_left
   ·have HV:Hid (Gate.q8 r.vs=false):=by simpa [Hid] using hv
    have HF:Hid (Gate.z8 r=false):=by unfold Hid Gate.z8;rw [HV.out];simp
    clear hv;go_enter Tryz.func157,Tryz.ntmps157
    go_wp2_with (first | (go_at_call_of 145 (Value.string r.tm);refine (zf HT.out (zG r.tm _ hstm)).mono ?_;rintro e w' ⟨rfl,rfl⟩) | (go_at_call 199;refine (zf HV.out (qJ _ _ r.vs _ (by exact HI.out _))).mono ?_;rintro e w' ⟨rfl,rfl⟩))
    go_ret;exact ⟨ze HF.out.symm,HB.out _⟩
   have HV:Hid (Gate.q8 r.vs=true):=hv;clear hv
   by_cases h16:r.px.size<=16
   ·have HF:Hid (Gate.z8 r=Gate.yZ r.px):=by unfold Hid Gate.z8;rw [HKD.out,HV.out,decide_eq_true h16];rfl
    have h16I:(r.px.size:Int)<=16:=by omega
    clear h16;go_enter Tryz.func157,Tryz.ntmps157
    go_wp2_with (first | (go_at_call_of 145 (Value.string r.tm);refine (zf HT.out (zG r.tm _ hstm)).mono ?_;rintro e w' ⟨rfl,rfl⟩) | (go_at_call 199;refine (zf HV.out (qJ _ _ r.vs _ (by exact HI.out _))).mono ?_;rintro e w' ⟨rfl,rfl⟩) | (go_at_call 189;refine (jZ r.px _ hspx).mono ?_;rintro e w' ⟨rfl,rfl⟩))
    go_ret;exact ⟨ze HF.out.symm,HB.out _⟩
   ·have HF:Hid (Gate.z8 r=false):=by unfold Hid Gate.z8;rw [decide_eq_false h16];simp
    have h16I:decide ((r.px.size:Int)<=16)=false:=by simp;omega
    clear h16;go_enter Tryz.func157,Tryz.ntmps157
    go_wp2_with (first | (go_at_call_of 145 (Value.string r.tm);refine (zf HT.out (zG r.tm _ hstm)).mono ?_;rintro e w' ⟨rfl,rfl⟩) | (go_at_call 199;refine (zf HV.out (qJ _ _ r.vs _ (by exact HI.out _))).mono ?_;rintro e w' ⟨rfl,rfl⟩))
    go_ret;exact ⟨ze HF.out.symm,HB.out _⟩
  ·have HF:Hid (Gate.z8 r=false):=by unfold Hid Gate.z8 Gate.qO;rw [ht,HT.out];simp
   go_enter Tryz.func157,Tryz.ntmps157
   go_wp2_with (first | (go_at_call_of 145 (Value.string r.tm);refine (zf HT.out (zG r.tm _ hstm)).mono ?_;rintro e w' ⟨rfl,rfl⟩))
   go_ret;exact ⟨ze HF.out.symm,HB.out _⟩
 ·rcases Gate.zdw r.tm with ht | ⟨ht,HT⟩ | ⟨ht,HT⟩
  ·have HKD:Hid (Gate.qO r=true):=by unfold Hid Gate.qO;rw [HK.out,ht];simp
   by_cases hv:Gate.q8 r.vs=true
   rotate_left
   ·have HV:Hid (Gate.q8 r.vs=false):=by simpa [Hid] using hv
    have HF:Hid (Gate.z8 r=false):=by unfold Hid Gate.z8;rw [HV.out];simp
    clear hv;go_enter Tryz.func157,Tryz.ntmps157
    go_wp2_with (first | (go_at_call_of 145 (Value.string r.kd);refine (zf HK.out (zG r.kd _ hskd)).mono ?_;rintro e w' ⟨rfl,rfl⟩) | (go_at_call 199;refine (zf HV.out (qJ _ _ r.vs _ (by exact HI.out _))).mono ?_;rintro e w' ⟨rfl,rfl⟩))
    go_ret;exact ⟨ze HF.out.symm,HB.out _⟩
   have HV:Hid (Gate.q8 r.vs=true):=hv;clear hv
   by_cases h16:r.px.size<=16
   ·have HF:Hid (Gate.z8 r=Gate.yZ r.px):=by unfold Hid Gate.z8;rw [HKD.out,HV.out,decide_eq_true h16];rfl
    have h16I:(r.px.size:Int)<=16:=by omega
    clear h16;go_enter Tryz.func157,Tryz.ntmps157
    go_wp2_with (first | (go_at_call_of 145 (Value.string r.kd);refine (zf HK.out (zG r.kd _ hskd)).mono ?_;rintro e w' ⟨rfl,rfl⟩) | (go_at_call 199;refine (zf HV.out (qJ _ _ r.vs _ (by exact HI.out _))).mono ?_;rintro e w' ⟨rfl,rfl⟩) | (go_at_call 189;refine (jZ r.px _ hspx).mono ?_;rintro e w' ⟨rfl,rfl⟩))
    go_ret;exact ⟨ze HF.out.symm,HB.out _⟩
   ·have HF:Hid (Gate.z8 r=false):=by unfold Hid Gate.z8;rw [decide_eq_false h16];simp
    have h16I:decide ((r.px.size:Int)<=16)=false:=by simp;omega
    clear h16;go_enter Tryz.func157,Tryz.ntmps157
    go_wp2_with (first | (go_at_call_of 145 (Value.string r.kd);refine (zf HK.out (zG r.kd _ hskd)).mono ?_;rintro e w' ⟨rfl,rfl⟩) | (go_at_call 199;refine (zf HV.out (qJ _ _ r.vs _ (by exact HI.out _))).mono ?_;rintro e w' ⟨rfl,rfl⟩))
    go_ret;exact ⟨ze HF.out.symm,HB.out _⟩
  ·have HKD:Hid (Gate.qO r=true):=by unfold Hid Gate.qO;rw [HK.out,HT.out];simp
   by_cases hv:Gate.q8 r.vs=true
   rotate_left
   ·have HV:Hid (Gate.q8 r.vs=false):=by simpa [Hid] using hv
    have HF:Hid (Gate.z8 r=false):=by unfold Hid Gate.z8;rw [HV.out];simp
    clear hv;go_enter Tryz.func157,Tryz.ntmps157
    go_wp2_with (first | (go_at_call_of 145 (Value.string r.kd);refine (zf HK.out (zG r.kd _ hskd)).mono ?_;rintro e w' ⟨rfl,rfl⟩) | (go_at_call_of 145 (Value.string r.tm);refine (zf HT.out (zG r.tm _ hstm)).mono ?_;rintro e w' ⟨rfl,rfl⟩) | (go_at_call 199;refine (zf HV.out (qJ _ _ r.vs _ (by exact HI.out _))).mono ?_;rintro e w' ⟨rfl,rfl⟩))
    go_ret;exact ⟨ze HF.out.symm,HB.out _⟩
   have HV:Hid (Gate.q8 r.vs=true):=hv;clear hv
   by_cases h16:r.px.size<=16
   ·have HF:Hid (Gate.z8 r=Gate.yZ r.px):=by unfold Hid Gate.z8;rw [HKD.out,HV.out,decide_eq_true h16];rfl
    have h16I:(r.px.size:Int)<=16:=by omega
    clear h16;go_enter Tryz.func157,Tryz.ntmps157
    go_wp2_with (first | (go_at_call_of 145 (Value.string r.kd);refine (zf HK.out (zG r.kd _ hskd)).mono ?_;rintro e w' ⟨rfl,rfl⟩) | (go_at_call_of 145 (Value.string r.tm);refine (zf HT.out (zG r.tm _ hstm)).mono ?_;rintro e w' ⟨rfl,rfl⟩) | (go_at_call 199;refine (zf HV.out (qJ _ _ r.vs _ (by exact HI.out _))).mono ?_;rintro e w' ⟨rfl,rfl⟩) | (go_at_call 189;refine (jZ r.px _ hspx).mono ?_;rintro e w' ⟨rfl,rfl⟩))
    go_ret;exact ⟨ze HF.out.symm,HB.out _⟩
   ·have HF:Hid (Gate.z8 r=false):=by unfold Hid Gate.z8;rw [decide_eq_false h16];simp
    have h16I:decide ((r.px.size:Int)<=16)=false:=by simp;omega
    clear h16;go_enter Tryz.func157,Tryz.ntmps157
    go_wp2_with (first | (go_at_call_of 145 (Value.string r.kd);refine (zf HK.out (zG r.kd _ hskd)).mono ?_;rintro e w' ⟨rfl,rfl⟩) | (go_at_call_of 145 (Value.string r.tm);refine (zf HT.out (zG r.tm _ hstm)).mono ?_;rintro e w' ⟨rfl,rfl⟩) | (go_at_call 199;refine (zf HV.out (qJ _ _ r.vs _ (by exact HI.out _))).mono ?_;rintro e w' ⟨rfl,rfl⟩))
    go_ret;exact ⟨ze HF.out.symm,HB.out _⟩
  ·have HF:Hid (Gate.z8 r=false):=by unfold Hid Gate.z8 Gate.qO;rw [ht,HT.out];simp
   go_enter Tryz.func157,Tryz.ntmps157
   go_wp2_with (first | (go_at_call_of 145 (Value.string r.kd);refine (zf HK.out (zG r.kd _ hskd)).mono ?_;rintro e w' ⟨rfl,rfl⟩) | (go_at_call_of 145 (Value.string r.tm);refine (zf HT.out (zG r.tm _ hstm)).mono ?_;rintro e w' ⟨rfl,rfl⟩))
   go_ret;exact ⟨ze HF.out.symm,HB.out _⟩
 ·have HF:Hid (Gate.z8 r=false):=by unfold Hid Gate.z8 Gate.qO;rw [hk,HK.out];simp
  go_enter Tryz.func157,Tryz.ntmps157
  go_wp2_with (first | (go_at_call_of 145 (Value.string r.kd);refine (zf HK.out (zG r.kd _ hskd)).mono ?_;rintro e w' ⟨rfl,rfl⟩))
  go_ret;exact ⟨ze HF.out.symm,HB.out _⟩
theorem ziw {a b:ByteArray} (h:a=b):Ending.returned (.string a) = .returned (.string b):=by rw [h]
theorem zbp (a:Option Addr) (cap:Nat) (ts:List Tm) (v:ByteArray) (w:World) (hw:jk w a ts) :
 Calls Tryz.prog 128 #[.slice a ts.length cap,.string v] w fun e w'=>e = .returned (.string (Gate.over ts v))/\w'=w:=by
 have hl:=hw.len;unfold maxLen at hl;go_enter Tryz.func128,Tryz.ntmps128;go_wp2_with fail
 go_loop [5] (fun i=>∃ k:Nat,k<=ts.length/\i = .int .i64 k/\Gate.yA (ts.take k) v=false) (fun i=>ts.length - (intOf i).toNat)
 case atStart=>exact ⟨0,Nat.zero_le _,rfl,rfl⟩
 case round =>
  obtain ⟨k,hk,rfl,hall⟩:=hrel
  by_cases hlt:k < ts.length
  ·obtain ⟨b,off,rfl,hb,c0,c1⟩:=hw.load (bRf _ _) k hlt
   clear hw;have HS:Hid (Gate.yA (ts.take (k+1)) v=(false || decide (ts[k].nm=v))):=by rw [Gate.zd4 ts v k hlt,hall];rfl
   have hltI:(k:Int) < (ts.length:Int):=by omega
   by_cases he:ts[k].nm=v
   ·have hbe:(ts[k].nm.toList == v.toList)=true:=by rw [Gate.beq_toList];simpa using he
    have HR:Hid (Gate.over ts v=ts[k].ov):=Gate.zlz ts v k hlt hall he;clear he hall;go_wp2_with fail
    go_ret;exact ⟨ziw HR.out.symm,rfl⟩
   ·have hbe:(ts[k].nm.toList == v.toList)=false:=by rw [Gate.beq_toList];simpa using he
    have HE:Hid (¬ ts[k].nm=v):=he;clear he hall;go_wp2_with fail
    go_round
    case rel=>exact ⟨k+1,by omega,by go_num,by rw [HS.out,decide_eq_false HE.out];rfl⟩
    case measure=>simp [intOf];omega
  ·have HR:Hid (Gate.over ts v=ByteArray.empty):=Gate.zgH ts v (by rw [<- Gate.zeG ts v k (by omega)];exact hall)
   clear hall hw;go_wp2_with fail
   go_ret;exact ⟨ziw HR.out.symm,rfl⟩
theorem zed (a:Option Addr) (cap:Nat) (ts:List Tm) (v:ByteArray) (w:World) (hw:jk w a ts) :
 Calls Tryz.prog 192 #[.slice a ts.length cap,.string v] w fun e w'=>e = .returned (.string (Gate.over ts v))/\Below w.heap.size w w':=by
 have hl:=hw.len;unfold maxLen at hl;go_enter Tryz.func192,Tryz.ntmps192;go_wp2_with fail
 go_loopw [9] (fun i wr=>∃ k:Nat,k<=ts.length/\i = .int .i64 k/\Gate.yA (ts.take k) v=false/\Below w.heap.size w wr) (fun i _=>ts.length - (intOf i).toNat)
 case atStart=>exact ⟨0,Nat.zero_le _,rfl,rfl,bRf _ _⟩
 case round =>
  obtain ⟨k,hk,rfl,hall,hB⟩:=hrel;have hsz:=hB.size
  by_cases hlt:k < ts.length
  ·obtain ⟨b,off,rfl,hb,c0,c1⟩:=hw.load hB k hlt
   clear hw;have HS:Hid (Gate.yA (ts.take (k+1)) v=(false || decide (ts[k].nm=v))):=by rw [Gate.zd4 ts v k hlt,hall];rfl
   have hltI:(k:Int) < (ts.length:Int):=by omega
   have hbr:b < wr.heap.size:=by omega
   by_cases he:ts[k].nm=v
   ·have hbe:(ts[k].nm.toList == v.toList)=true:=by rw [Gate.beq_toList];simpa using he
    have HR:Hid (Gate.over ts v=ts[k].ov):=Gate.zlz ts v k hlt hall he;clear he hall;go_wp2_with fail
    go_ret;exact ⟨ziw HR.out.symm,hB.alloc hsz _⟩
   ·have hbe:(ts[k].nm.toList == v.toList)=false:=by rw [Gate.beq_toList];simpa using he
    have HE:Hid (¬ ts[k].nm=v):=he;clear he hall;go_wp2_with fail
    exact ⟨⟨k+1,by omega,by go_num,by rw [HS.out,decide_eq_false HE.out];rfl,hB.alloc hsz _⟩,by simp [intOf];omega⟩
  ·have HR:Hid (Gate.over ts v=ByteArray.empty):=Gate.zgH ts v (by rw [<- Gate.zeG ts v k (by omega)];exact hall)
   clear hall hw;go_wp2_with fail
   go_ret;exact ⟨ziw HR.out.symm,hB⟩
end Go.Proofs.YtghnakljnhnenaaGreat
