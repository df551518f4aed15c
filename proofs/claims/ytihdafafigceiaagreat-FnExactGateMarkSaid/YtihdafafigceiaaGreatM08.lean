import Derived.WalkKit
import Derived.Deep.RegionHeld3
import Derived.Test.YtihdafafigceiaaGreatM02
import Derived.Test.YtihdafafigceiaaGreatM01
import Derived.Deep.QuietTactic
import Derived.BigQuiet
import Derived.Test.YtihdafafigceiaaGreatM04
set_option maxHeartbeats 1000000
namespace Go.Proofs.YtihdafafigceiaaGreat
open Go.RowKit
def nth:List Oper->Nat->Option Oper
 | [],_=>none
 | o :: _,0=>some o
 | _ :: l,n+1=>nth l n
theorem zok:∀ (l:List Oper) (i:Nat),nth l i=l[i]?
 | [],_=>by simp [nth]
 | _ :: _,0=>by simp [nth]
 | _ :: l,n+1=>by simp [nth,zok l n]
section
variable {P:Program} {ops:Array Oper} {Q:Exit->Act->World->Prop} {md:Region.Mode} {S:World->Prop}
theorem zmN {i:Nat} {oi:Oper} (hi:nth ops.toList i=some oi):ops[i]?=some oi:=by
 rw [zok] at hi;simpa using hi
theorem zpc {i:Nat} {oi:Oper} {v:Value} {fuel:Nat} {listed:Array Bool} {a:Act} {w:World} (hi:nth ops.toList i=some oi)
 (hs:Region.noSelect ops=true) (hf:Region.free md ops listed i=true) (hr:(Region.ready md ops listed).contains i=true)
 (hQ:∀ c a w,Q (.panic c) (a.put oi.dst v) w->Q (.panic c) a w) (hw:Region.wanted oi (yielded ops a.tmps)=true) (hS:S w)
 (hy:∀ w,S w->(execOp a.eval oi).run P w = .ok (.value v) w)
 (h:wpAnyH P md ops Q S fuel (listed.setIfInBounds i true) (a.put oi.dst v) w):wpAnyH P md ops Q S (fuel+1) listed a w :=
 wpAnyH_take (zmN hi) hs hf hr hQ (Or.inl ⟨hw,hy⟩) hS h
theorem zpe {i:Nat} {oi:Oper} {fuel:Nat} {listed:Array Bool} {a:Act} {w:World} (hi:nth ops.toList i=some oi)
 (hs:Region.noSelect ops=true) (hf:Region.free md ops listed i=true) (hr:(Region.ready md ops listed).contains i=true)
 (hQ:∀ c a w,Q (.panic c) (a.put oi.dst undef) w->Q (.panic c) a w) (hw:Region.wanted oi (yielded ops a.tmps)=false) (hS:S w)
 (h:wpAnyH P md ops Q S fuel (listed.setIfInBounds i true) (a.put oi.dst undef) w):wpAnyH P md ops Q S (fuel+1) listed a w :=
 wpAnyH_take (zmN hi) hs hf hr hQ (Or.inr ⟨hw,rfl⟩) hS h
theorem zpg {i:Nat} {oi:Oper} {fuel:Nat} {listed:Array Bool} {a:Act} {w:World} (hi:nth ops.toList i=some oi)
 (hr:Region.ready md ops listed=[i]) (hw:Region.wanted oi (yielded ops a.tmps)=true)
 (h:∀ K:Act->World->Prop,Shut (∀ a w,S w->(S w->wpAnyH P md ops Q S fuel (listed.setIfInBounds i true) a w)->K a w)->Oper.wp P oi a w K Q):wpAnyH P md ops Q S (fuel+1) listed a w :=
 wpAnyH_ready hr (by simp) (AllReadyH.cons (zmN hi) (fun K hK=>by rw [if_pos hw];exact h K hK) AllReadyH.nil)
end
theorem sA {α:Type} (l:List α) (i:Nat) (x:α):l.toArray.setIfInBounds i x=(l.set i x).toArray:=List.setIfInBounds_toArray ..
theorem sS {α:Type} (x y:α) (l:List α) (n:Nat):(x :: l).set (n+1) y=x :: l.set n y:=rfl
section
variable {P:Program} {ops:Array Oper} {Q:Exit->Act->World->Prop} {md:Region.Mode} {S:World->Prop}
theorem tH (i:Nat) {oi:Oper} {v:Value} {fuel:Nat} {listed:Array Bool} {a a':Act} {w:World} (hi:nth ops.toList i=some oi) (hS:S w)
 (h:wpAnyH P md ops Q S fuel (listed.setIfInBounds i true) a' w) (hs:Region.noSelect ops=true:=by kernel_rfl) (hf:Region.free md ops listed i=true:=by kernel_rfl) (hr:(Region.ready md ops listed).contains i=true:=by kernel_rfl)
 (hw:Region.wanted oi (yielded ops a.tmps)=true:=by rfl)
 (hy:∀ w,S w->(execOp a.eval oi).run P w = .ok (.value v) w:=by (intro w hSw;(try dsimp only at hSw);go_simp;try with_reducible rfl))
 (ha:a.put oi.dst v=a':=by ((try simp only [Act.put,sA,s0,sS]);rfl))
 (hQ:∀ c a w,Q (.panic c) (a.put oi.dst v) w->Q (.panic c) a w:=by exact fun _ _ _ h=>h):wpAnyH P md ops Q S (fuel+1) listed a w :=
 zpc hi hs hf hr hQ hw hS hy (ha ▸ h)
theorem kH (i:Nat) {oi:Oper} {fuel:Nat} {listed:Array Bool} {a a':Act} {w:World} (hi:nth ops.toList i=some oi) (hS:S w)
 (h:wpAnyH P md ops Q S fuel (listed.setIfInBounds i true) a' w) (hs:Region.noSelect ops=true:=by kernel_rfl) (hf:Region.free md ops listed i=true:=by kernel_rfl) (hr:(Region.ready md ops listed).contains i=true:=by kernel_rfl)
 (hw:Region.wanted oi (yielded ops a.tmps)=false:=by rfl)
 (ha:a.put oi.dst undef=a':=by ((try simp only [Act.put,sA,s0,sS]);rfl))
 (hQ:∀ c a w,Q (.panic c) (a.put oi.dst undef) w->Q (.panic c) a w:=by exact fun _ _ _ h=>h):wpAnyH P md ops Q S (fuel+1) listed a w :=
 zpe hi hs hf hr hQ hw hS (ha ▸ h)
theorem cH (i:Nat) {oi:Oper} {fuel:Nat} {listed:Array Bool} {a:Act} {w:World} (hi:nth ops.toList i=some oi)
 (h:∀ K:Act->World->Prop,Shut (∀ a w,S w->(S w->wpAnyH P md ops Q S fuel (listed.setIfInBounds i true) a w)->K a w)->Oper.wp P oi a w K Q)
 (hr:Region.ready md ops listed=[i]:=by kernel_rfl) (hw:Region.wanted oi (yielded ops a.tmps)=true:=by rfl):wpAnyH P md ops Q S (fuel+1) listed a w :=
 zpg hi hr hw h
end
def zor (ss:List Shp) (v:ByteArray) (e:Ending):Prop :=
 (Gate.zG ss v=false->e = .returned (.int .i64 (-1)))/\(Gate.zG ss v=true->∃ k,∃ h:k < ss.length,e = .returned (.int .i64 (k:Nat))/\Gate.shapeOf ss v=ss[k])
theorem zgT (a:Option Addr) (cap:Nat) (ss:List Shp) (v:ByteArray) (w:World) (hw:yI w a ss) :
 Calls Tryz.prog 129 #[.slice a ss.length cap,.string v] w fun e w'=>zor ss v e/\w'=w:=by
 have hl:=hw.len
 unfold maxLen at hl
 go_enter Tryz.func129,Tryz.ntmps129
 go_wp2
 go_loop [5] (fun i=>∃ k:Nat,k<=ss.length/\i = .int .i64 k/\Gate.zG (ss.take k) v=false) (fun i=>ss.length - (intOf i).toNat)
 case atStart=>exact ⟨0,Nat.zero_le _,rfl,rfl⟩
 case round =>
  obtain ⟨k,hk,rfl,hno⟩:=hrel
  by_cases hlt:k < ss.length
  ·obtain ⟨b,off,rfl,hb,hr⟩:=hw.rows (by rintro rfl;simp at hlt)
   obtain ⟨fa,fcap,hs⟩:=hr k hlt
   have hck:=hs.kind
   clear hw hr hs
   by_cases he:ss[k].kd=v
   ·have hbe:(ss[k].kd.toList == v.toList)=true:=by rw [Gate.beq_toList];simpa using he
    have HA:Hid (Gate.zG ss v=true):=Gate.ziz ss v k hlt he
    have HB:Hid (Gate.shapeOf ss v=ss[k]):=Gate.ze7 ss v k hlt hno he
    clear he hno
    go_wp2
    go_ret
    exact ⟨⟨fun h=>(by rw [HA.out] at h;cases h),fun _=>⟨k,hlt,rfl,HB.out⟩⟩,rfl⟩
   ·have hbe:(ss[k].kd.toList == v.toList)=false:=by rw [Gate.beq_toList];simpa using he
    have HS:Hid (Gate.zG (ss.take (k+1)) v=false):=by unfold Hid;rw [Gate.zf7 ss v k hlt,hno,decide_eq_false he];rfl
    clear he hno
    go_wp2
    go_round
    case rel=>exact ⟨k+1,by omega,by go_num,HS.out⟩
    case measure=>simp [intOf];omega
  ·have HA:Hid (Gate.zG ss v=false):=by rw [<- Gate.zhd ss v k (by omega)];exact hno
   clear hno hw
   go_wp2
   go_ret
   exact ⟨⟨fun _=>rfl,fun h=>by rw [HA.out] at h;cases h⟩,rfl⟩
theorem zdP (a:Option Addr) (cap:Nat) (ss:List Shp) (v:ByteArray) (w:World) (hw:yI w a ss) (h:Gate.zG ss v=false) :
 Calls Tryz.prog 129 #[.slice a ss.length cap,.string v] w fun e w'=>e = .returned (.int .i64 (-1))/\w'=w:=by
 refine (zgT a cap ss v w hw).mono ?_
 rintro e w' ⟨⟨h1,_⟩,rfl⟩
 exact ⟨h1 h,rfl⟩
theorem jH (a:Option Addr) (cap:Nat) (ss:List Shp) (v:ByteArray) (w:World) (hw:yI w a ss) (h:Gate.zG ss v=true) :
 Calls Tryz.prog 129 #[.slice a ss.length cap,.string v] w fun e w'=>∃ k,∃ h:k < ss.length,e = .returned (.int .i64 (k:Nat))/\Gate.shapeOf ss v=ss[k]/\w'=w:=by
 refine (zgT a cap ss v w hw).mono ?_
 rintro e w' ⟨⟨_,h2⟩,rfl⟩
 obtain ⟨k,hk,he,hs⟩:=h2 h
 exact ⟨k,hk,he,hs,rfl⟩
theorem qR (a0:Option Addr) (cap0:Nat) (ss:List Shp) (o:Ob) (a a':Option Addr) (cap cap':Nat) (w:World) (hw:yI w a0 ss) (_ho:qj w o a a') (hc:Gate.zx ss o=true) :
 Calls Tryz.prog 93 #[.slice a0 ss.length cap0,.agg #[.string o.kd,.string o.nm,.string o.tm,.slice a o.vs.length cap,.bool o.en,.slice a' o.hs.length cap',.int .i64 o.vr]] w fun e w'=>∃ fa fcap,e = .returned (.tuple #[.slice fa (Gate.shapeOf ss o.kd).fs.length fcap,.bool true])/\zP w fa (Gate.shapeOf ss o.kd).fs/\Below w.heap.size w w':=by
 unfold Gate.zx at hc
 simp only [Bool.and_eq_true,decide_eq_true_eq] at hc
 have HK:Hid (Gate.zG ss o.kd=true):=hc.1
 have HL:Hid (o.vs.length=(Gate.shapeOf ss o.kd).fs.length):=hc.2
 clear hc
 have hl:=hw.len
 unfold maxLen at hl
 go_enter Tryz.func93,Tryz.ntmps93
 go_wp2_with fail
 refine (jH _ _ _ _ _ (hw.mono ((Below.refl _ _).alloc (Nat.le_refl _) _)) HK.out).mono ?_
 rintro e w1 ⟨ix,hix,rfl,hsh,rfl⟩
 have HSh:Hid (Gate.shapeOf ss o.kd=ss[ix]):=hsh
 clear hsh
 obtain ⟨b,off,rfl,hb,hr⟩:=hw.rows (by rintro rfl;simp at hix)
 obtain ⟨fa,fcap,hs⟩:=hr ix hix
 have hcl:=hs.list
 have hfl:=hs.zc8
 have hixI:(ix:Int) < (ss.length:Int):=by omega
 have hix0:decide ((ix:Int) < 0)=false:=by simp
 have hneq:((ss[ix].fs.length:Int) != (o.vs.length:Int))=false:=by have h1:=HL.out;have h2:=HSh.out;rw [h2] at h1;simp [h1]
 have hbw:b < w.heap.size:=hb
 clear hr hs
 go_wp2_with fail
 go_quiet (fail)
 go_wp2_with fail
 go_ret2
 rw [HSh.out]
 exact ⟨fa,fcap,rfl,hfl,below_drewN ((Below.refl _ _).alloc (Nat.le_refl _) _) _⟩
theorem zcH (a0:Option Addr) (cap0:Nat) (ss:List Shp) (o:Ob) (a a':Option Addr) (cap cap':Nat) (w:World) (hw:yI w a0 ss) (_ho:qj w o a a') (hc:Gate.zx ss o=false) :
 Calls Tryz.prog 93 #[.slice a0 ss.length cap0,.agg #[.string o.kd,.string o.nm,.string o.tm,.slice a o.vs.length cap,.bool o.en,.slice a' o.hs.length cap',.int .i64 o.vr]] w fun e w'=>∃ v,e = .returned (.tuple #[v,.bool false])/\Below w.heap.size w w':=by
 have hl:=hw.len
 unfold maxLen at hl
 by_cases hk:Gate.zG ss o.kd=true
 ·have HK:Hid (Gate.zG ss o.kd=true):=hk
  have HL:Hid (¬ o.vs.length=(Gate.shapeOf ss o.kd).fs.length):=by unfold Gate.zx at hc;rw [hk] at hc;simpa [Hid] using hc
  clear hc hk
  go_enter Tryz.func93,Tryz.ntmps93
  go_wp2_with fail
  refine (jH _ _ _ _ _ (hw.mono ((Below.refl _ _).alloc (Nat.le_refl _) _)) HK.out).mono ?_
  rintro e w1 ⟨ix,hix,rfl,hsh,rfl⟩
  have HSh:Hid (Gate.shapeOf ss o.kd=ss[ix]):=hsh
  clear hsh
  obtain ⟨b,off,rfl,hb,hr⟩:=hw.rows (by rintro rfl;simp at hix)
  obtain ⟨fa,fcap,hs⟩:=hr ix hix
  have hcl:=hs.list
  have hixI:(ix:Int) < (ss.length:Int):=by omega
  have hix0:decide ((ix:Int) < 0)=false:=by simp
  have hneq:((ss[ix].fs.length:Int) != (o.vs.length:Int))=true:=by have h1:=HL.out;have h2:=HSh.out;rw [h2] at h1;rw [bne_iff_ne];omega
  have hbw:b < w.heap.size:=hb
  clear hr hs
  go_wp2_with fail
  go_quiet (fail)
  go_wp2_with fail
  go_ret2
  exact ⟨_,rfl,below_drewN (zA _ _ _) _⟩
 ·have HK:Hid (Gate.zG ss o.kd=false):=by simpa [Hid] using hk
  clear hc hk
  go_enter Tryz.func93,Tryz.ntmps93
  go_wp2_with fail
  refine (zdP _ _ _ _ _ (hw.mono ((Below.refl _ _).alloc (Nat.le_refl _) _)) HK.out).mono ?_
  rintro e w1 ⟨rfl,rfl⟩
  go_wp2_with fail
  go_quiet (fail)
  go_wp2_with fail
  go_ret2
  exact ⟨_,rfl,below_drewN (zA _ _ _) _⟩
end Go.Proofs.YtihdafafigceiaaGreat
