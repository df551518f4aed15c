import Derived.WalkKit
import Derived.Test.YtaickbhifenbjaaGreatM03
import Derived.Test.YtaickbhifenbjaaGreatM12
import Derived.Test.YtaickbhifenbjaaGreatM14
set_option maxHeartbeats 4000000
namespace Go.Proofs.YtaickbhifenbjaaGreat
open Go.RowKit
theorem zf0 {w:World} {b:Nat} {X:Array Value} {t:TypeId} (h:w.heap[b]?=some (.cells X t)):∀ j,w.cell? ⟨b,j,none⟩=X[j]?:=fun _=>cell_of_block h
theorem zl3 {w:World} {b:Nat} {X:Array Value} {t:TypeId} (h:w.heap[b]?=some (.cells X t)):∀ j,w.frozen? ⟨b,j,none⟩=false:=fun _=>zn h
set_option maxRecDepth 20000 in
theorem zlG (b:Bk) (a0 a1 a2 a3:Option Addr) (c0 c1 c2 c3:Nat) (who:ByteArray) (w:World) (hb:zbb w a1 b.gs) (hl:b.gs.length<=1048576) :
 Calls Tryz.prog 63 #[.agg (b.cells a0 a1 a2 a3 c0 c1 c2 c3),.string who] w fun e w'=>∃ a cap,e = .returned (.slice a (Gate.yc who b.gs).length cap)/\zeJ w' a (Gate.yc who b.gs)/\Below w.heap.size w w':=by
 obtain ⟨i0,hi,hzi,hz1',hz2'⟩:=info_parts Tryz.zlX
 have HI:Hid (Tryz.prog.info? 112=some i0/\i0.zero=some (.agg #[.slice none 0 0,.string ByteArray.empty,.string ByteArray.empty,.string ByteArray.empty])/\i0.size=4/\i0.bytes=72):=⟨hi,hzi,hz1',hz2'⟩
 have HK:Hid (zbb w a1 b.gs):=hb
 have HN:Hid (∀ k,(Gate.yc who (b.gs.take k)).length<=1048576):=fun k=>by have:=Gate.zcu who (b.gs.take k);have:=List.length_take_le k b.gs;have:=List.length_take_le' k b.gs;omega
 clear hb hi hzi hz1' hz2'
 unfold Bk.cells
 go_enter Tryz.func63,Tryz.ntmps63
 go_wp2_with fail
 have hX0:=zl w #[.int .i64 b.now,.int .i64 b.tick,.int .i64 b.given,.slice a0 b.os.length c0,.slice a1 b.gs.length c1,.slice a2 b.ls.length c2,.slice a3 b.ps.length c3] 50
 have HB0:Hid (Below w.heap.size w (w.alloc (.cells #[.int .i64 b.now,.int .i64 b.tick,.int .i64 b.given,.slice a0 b.os.length c0,.slice a1 b.gs.length c1,.slice a2 b.ls.length c2,.slice a3 b.ps.length c3] 50))):=(Below.refl _ _).alloc (Nat.le_refl _) _
 obtain ⟨W0,hW0⟩:∃ W0,W0=w.alloc (.cells #[.int .i64 b.now,.int .i64 b.tick,.int .i64 b.given,.slice a0 b.os.length c0,.slice a1 b.gs.length c1,.slice a2 b.ls.length c2,.slice a3 b.ps.length c3] 50):=⟨_,rfl⟩
 have hz0:w.heap.size < W0.heap.size:=by rw [hW0];simp
 rw [<- hW0] at HB0 hX0 ⊢
 clear hW0
 have HR0:Hid (jW w W0.heap.size W0 (.slice none 0 0) []):=jW.nil _ _ _
 go_loopw [5,11] (fun v0 iv wr=>∃ (k:Nat) (v:Value),v=v0/\k<=b.gs.length/\iv = .int .i64 k/\Hid (jW w W0.heap.size wr v (Gate.yc who (b.gs.take k))/\Below W0.heap.size W0 wr)) (fun _ iv _=>b.gs.length - (intOf iv).toNat)
 case atStart=>exact ⟨0,_,rfl,Nat.zero_le _,rfl,by rw [List.take_zero];exact HR0.out,Below.refl _ _⟩
 case round =>
  obtain ⟨k,v,hv,hk,rfl,HQ⟩:=hrel
  subst hv
  have hkn:k<=1048576:=by omega
  have HBr:Hid (Below w.heap.size w wr):=HB0.out.trans (HQ.out.2.mono (by have:=HB0.out.size;omega))
  have hX1:∀ j,wr.cell? ⟨w.heap.size,j,none⟩=(#[.int .i64 b.now,.int .i64 b.tick,.int .i64 b.given,.slice a0 b.os.length c0,.slice a1 b.gs.length c1,.slice a2 b.ls.length c2,.slice a3 b.ps.length c3]:Array Value)[j]?:=fun j=>(HQ.out.2.cell (p:=⟨w.heap.size,j,none⟩) (by show w.heap.size < _;omega)).trans (hX0 j)
  have hz1:w.heap.size < wr.heap.size:=by have:=HQ.out.2.size;omega
  by_cases hlt:k < b.gs.length
  ·obtain ⟨ob,off,va,vcap,rfl,hob,hsm,hi0,d0,d1,d2,d3,d4,d5,d6⟩:=HK.out.load HBr.out k hlt
   have hob':ob < wr.heap.size:=Nat.lt_of_lt_of_le hob HBr.out.size
   have hltI:(k:Int) < (b.gs.length:Int):=by omega
   have HSm:Hid (b.gs[k].r.Small/\b.gs[k].Small):=⟨hsm.r,hsm⟩
   have HVA:Hid (yJ w va b.gs[k].r.vs):=by
    obtain ⟨ob',off',va',vcap',e',hob'',hsm',hiw,dd0,dd1,dd2,dd3,_⟩:=HK.out.load (Below.refl w.heap.size w) k hlt
    cases e'
    have e3:=(HBr.out.cell (p:=⟨ob,off+k * 7+3,none⟩) hob).trans dd3
    rw [d3] at e3
    cases e3
    exact hiw
   have HBa:Hid (∀ o,Below wr.heap.size wr (wr.alloc o)):=fun o=>(Below.refl _ _).alloc (Nat.le_refl _) _
   clear hsm hi0
   by_cases hto:b.gs[k].to=who
   rotate_left
   ·have hne:(b.gs[k].to.toList == who.toList)=false:=by rw [Gate.beq_toList];exact decide_eq_false hto
    have HS:Hid (Gate.yc who (b.gs.take (k+1))=Gate.yc who (b.gs.take k)):=Gate.zh0 hlt hto
    clear hto
    go_wp2_with fail
    exact ⟨⟨k+1,_,rfl,by omega,by go_num,by rw [HS.out];exact HQ.out.1.later (HBa.out _),HQ.out.2.trans ((HBa.out _).mono HQ.out.2.size)⟩,zw hlt⟩
   ·have hyes:(b.gs[k].to.toList == who.toList)=true:=by rw [Gate.beq_toList];exact decide_eq_true hto
    have HS:Hid (Gate.yc who (b.gs.take (k+1))=Gate.yc who (b.gs.take k) ++ [b.gs[k].r]):=Gate.zgE hlt hto
    obtain ⟨ps,hps,hpp,hown⟩:=HQ.out.1
    have HLL:Hid (ps.length<=1048576):=by have:=HN.out k;rw [<- hps,List.length_map] at this;exact this
    have HPP:Hid (ps.map (·.1)=Gate.yc who (b.gs.take k)/\∀ p ∈ ps,p.1.Small/\yJ w p.2.1 p.1.vs):=⟨hps,hpp⟩
    have HLO:Hid (W0.heap.size<=wr.heap.size):=by have:=HQ.out.2.size;have:=HB0.out.size;show _<=_;omega
    clear hto hps hpp
    go_wp2_with (at_builtin;refine wpList_append_own _ rfl (.tmp 19) (.tmp 22) 109 rfl W0.heap.size 112 i0 (.agg #[.slice none 0 0,.string ByteArray.empty,.string ByteArray.empty,.string ByteArray.empty]) 4 72 Tryz.underlying109 HI.out.1 HI.out.2.1 HI.out.2.2.1 HI.out.2.2.2 rfl (by decide) _ _ _ rfl ((hown.alloc _).alloc _) ⟨wr.heap.size+1,0,none⟩ 1 1 [.slice va b.gs[k].r.vs.length vcap,.string b.gs[k].r.kd,.string b.gs[k].r.tm,.string b.gs[k].r.px] rfl rfl (by have h:=zjE (wr.alloc (.cells #[.int .i64 b.gs[k].no,.string b.gs[k].to,.string b.gs[k].gb,.slice va b.gs[k].r.vs.length vcap,.string b.gs[k].r.kd,.string b.gs[k].r.tm,.string b.gs[k].r.px] 124)) (.slice va b.gs[k].r.vs.length vcap) (.string b.gs[k].r.kd) (.string b.gs[k].r.tm) (.string b.gs[k].r.px) 112;simpa using h) (by intro u hu;simp at hu;rcases hu with rfl | rfl | rfl | rfl <;> rfl) (by have:=HLL.out;unfold maxLen;omega) (by have:=HLL.out;omega) (by have:=HLO.out;simp;omega) ?_;intro v' w4 hown' hgr _)
    have hgb:∀ g',v.ownBlock=some g'->W0.heap.size<=g':=fun g' hg'=>(hown.lt g' hg').1
    exact ⟨⟨k+1,_,rfl,by omega,by go_num,by rw [HS.out];exact jW.snoc HPP.out.1 HPP.out.2 HSm.out.1 HVA.out hown',zfr (HQ.out.2.alloc HLO.out _) (by have:=HLO.out;simp;omega) hgr hgb⟩,zw hlt⟩
  ·have e:k=b.gs.length:=by omega
   subst e
   have hrow:=HQ.out.1
   rw [List.take_of_length_le (Nat.le_refl _)] at hrow
   have hml:(Gate.yc who b.gs).length<=maxLen:=by have:=Gate.zcu who b.gs;unfold maxLen;omega
   obtain ⟨ra,rcap,rfl,hat⟩:=hrow.at HBr.out hml
   have HE:Hid (zeJ wr ra (Gate.yc who b.gs)):=hat
   clear HQ hlt hk hX1 hrow hat
   go_wp2_with fail
   go_ret
   exact ⟨ra,rcap,rfl,HE.out,HBr.out⟩
set_option maxRecDepth 20000 in
theorem zkQ (b:Bk) (a0 a1 a2 a3:Option Addr) (c0 c1 c2 c3:Nat) (who:ByteArray) (w:World) (hb:zbb w a1 b.gs) (hl:b.gs.length<=1048576) :
 Calls Tryz.prog 51 #[.agg (b.cells a0 a1 a2 a3 c0 c1 c2 c3),.string who] w fun e w'=>∃ a cap,e = .returned (.slice a (Gate.yc who b.gs).length cap)/\zeJ w' a (Gate.yc who b.gs)/\Below w.heap.size w w':=by
 obtain ⟨i0,hi,hzi,hz1',hz2'⟩:=info_parts Tryz.zlX
 have HI:Hid (Tryz.prog.info? 112=some i0/\i0.zero=some (.agg #[.slice none 0 0,.string ByteArray.empty,.string ByteArray.empty,.string ByteArray.empty])/\i0.size=4/\i0.bytes=72):=⟨hi,hzi,hz1',hz2'⟩
 have HK:Hid (zbb w a1 b.gs):=hb
 have HN:Hid (∀ k,(Gate.yc who (b.gs.take k)).length<=1048576):=fun k=>by have:=Gate.zcu who (b.gs.take k);have:=List.length_take_le k b.gs;have:=List.length_take_le' k b.gs;omega
 clear hb hi hzi hz1' hz2'
 unfold Bk.cells
 go_enter Tryz.func51,Tryz.ntmps51
 go_wp2_with fail
 obtain ⟨hA,hC⟩:=yw w (.cells #[.int .i64 b.now,.int .i64 b.tick,.int .i64 b.given,.slice a0 b.os.length c0,.slice a1 b.gs.length c1,.slice a2 b.ls.length c2,.slice a3 b.ps.length c3] 50) (.cells #[] 112)
 have HB0:Hid (Below w.heap.size w ((w.alloc (.cells #[.int .i64 b.now,.int .i64 b.tick,.int .i64 b.given,.slice a0 b.os.length c0,.slice a1 b.gs.length c1,.slice a2 b.ls.length c2,.slice a3 b.ps.length c3] 50)).alloc (.cells #[] 112))):=zC w _ _
 obtain ⟨W0,hW0⟩:∃ W0,W0=(w.alloc (.cells #[.int .i64 b.now,.int .i64 b.tick,.int .i64 b.given,.slice a0 b.os.length c0,.slice a1 b.gs.length c1,.slice a2 b.ls.length c2,.slice a3 b.ps.length c3] 50)).alloc (.cells #[] 112):=⟨_,rfl⟩
 have hz0':w.heap.size+1 < W0.heap.size:=by rw [hW0];simp
 rw [<- hW0] at HB0 hA hC ⊢
 clear hW0
 have hX0:=zf0 hA
 have HR0:Hid (jW w (w.heap.size+1) W0 (.slice (some ⟨w.heap.size+1,0,none⟩) 0 0) []):=⟨[],rfl,(fun _ h=>by cases h),rfl,.inr ⟨w.heap.size+1,0,#[],rfl,Nat.le_refl _,hC,Nat.le_refl _,by simp [maxLen],rfl,rfl⟩⟩
 clear hA hC
 go_loopw [5,6] (fun v0 iv wr=>∃ (k:Nat) (v:Value),v=v0/\k<=b.gs.length/\iv = .int .i64 k/\Hid (jW w (w.heap.size+1) wr v (Gate.yc who (b.gs.take k))/\Below (w.heap.size+1) W0 wr)) (fun _ iv _=>b.gs.length - (intOf iv).toNat)
 case atStart=>exact ⟨0,_,rfl,Nat.zero_le _,rfl,by rw [List.take_zero];exact HR0.out,Below.refl _ _⟩
 case round =>
  obtain ⟨k,v,hv,hk,rfl,HQ⟩:=hrel
  subst hv
  have hkn:k<=1048576:=by omega
  have HBr:Hid (Below w.heap.size w wr):=HB0.out.trans (HQ.out.2.mono (by have:=HB0.out.size;omega))
  have hX1:∀ j,wr.cell? ⟨w.heap.size,j,none⟩=(#[.int .i64 b.now,.int .i64 b.tick,.int .i64 b.given,.slice a0 b.os.length c0,.slice a1 b.gs.length c1,.slice a2 b.ls.length c2,.slice a3 b.ps.length c3]:Array Value)[j]?:=fun j=>(HQ.out.2.cell (p:=⟨w.heap.size,j,none⟩) (by show w.heap.size < _;omega)).trans (hX0 j)
  have hz1:w.heap.size < wr.heap.size:=by have:=HQ.out.2.size;omega
  by_cases hlt:k < b.gs.length
  ·obtain ⟨ob,off,va,vcap,rfl,hob,hsm,hi0,d0,d1,d2,d3,d4,d5,d6⟩:=HK.out.load HBr.out k hlt
   have hob':ob < wr.heap.size:=Nat.lt_of_lt_of_le hob HBr.out.size
   have hltI:(k:Int) < (b.gs.length:Int):=by omega
   have HSm:Hid (b.gs[k].r.Small/\b.gs[k].Small):=⟨hsm.r,hsm⟩
   have HVA:Hid (yJ w va b.gs[k].r.vs):=by
    obtain ⟨ob',off',va',vcap',e',hob'',hsm',hiw,dd0,dd1,dd2,dd3,_⟩:=HK.out.load (Below.refl w.heap.size w) k hlt
    cases e'
    have e3:=(HBr.out.cell (p:=⟨ob,off+k * 7+3,none⟩) hob).trans dd3
    rw [d3] at e3
    cases e3
    exact hiw
   have HBa:Hid (∀ o,Below wr.heap.size wr (wr.alloc o)):=fun o=>(Below.refl _ _).alloc (Nat.le_refl _) _
   clear hsm hi0
   by_cases hto:b.gs[k].to=who
   rotate_left
   ·have hne:(b.gs[k].to.toList == who.toList)=false:=by rw [Gate.beq_toList];exact decide_eq_false hto
    have HS:Hid (Gate.yc who (b.gs.take (k+1))=Gate.yc who (b.gs.take k)):=Gate.zh0 hlt hto
    clear hto
    go_wp2_with fail
    exact ⟨⟨k+1,_,rfl,by omega,by go_num,by rw [HS.out];exact HQ.out.1,HQ.out.2⟩,zw hlt⟩
   ·have hyes:(b.gs[k].to.toList == who.toList)=true:=by rw [Gate.beq_toList];exact decide_eq_true hto
    have HS:Hid (Gate.yc who (b.gs.take (k+1))=Gate.yc who (b.gs.take k) ++ [b.gs[k].r]):=Gate.zgE hlt hto
    obtain ⟨ps,hps,hpp,hown⟩:=HQ.out.1
    have HLL:Hid (ps.length<=1048576):=by have:=HN.out k;rw [<- hps,List.length_map] at this;exact this
    have HPP:Hid (ps.map (·.1)=Gate.yc who (b.gs.take k)/\∀ p ∈ ps,p.1.Small/\yJ w p.2.1 p.1.vs):=⟨hps,hpp⟩
    have HLO:Hid ((w.heap.size+1)<=wr.heap.size):=by have:=HQ.out.2.size;have:=HB0.out.size;show _<=_;omega
    clear hto hps hpp
    go_wp2_with (at_builtin;refine wpList_append_own _ rfl (.tmp 23) (.tmp 30) 109 rfl (w.heap.size+1) 112 i0 (.agg #[.slice none 0 0,.string ByteArray.empty,.string ByteArray.empty,.string ByteArray.empty]) 4 72 Tryz.underlying109 HI.out.1 HI.out.2.1 HI.out.2.2.1 HI.out.2.2.2 rfl (by decide) _ _ _ rfl (hown.alloc _) ⟨wr.heap.size,0,none⟩ 1 1 [.slice va b.gs[k].r.vs.length vcap,.string b.gs[k].r.kd,.string b.gs[k].r.tm,.string b.gs[k].r.px] rfl rfl (zjE _ _ _ _ _ _) (by intro u hu;simp at hu;rcases hu with rfl | rfl | rfl | rfl <;> rfl) (by have:=HLL.out;unfold maxLen;omega) (by have:=HLL.out;omega) (by have:=HLO.out;simp;omega) ?_;intro v' w4 hown' hgr _)
    have hgb:∀ g',v.ownBlock=some g'->(w.heap.size+1)<=g':=fun g' hg'=>(hown.lt g' hg').1
    exact ⟨⟨k+1,_,rfl,by omega,by go_num,by rw [HS.out];exact jW.snoc HPP.out.1 HPP.out.2 HSm.out.1 HVA.out hown',zfr HQ.out.2 HLO.out hgr hgb⟩,zw hlt⟩
  ·have e:k=b.gs.length:=by omega
   subst e
   have hrow:=HQ.out.1
   rw [List.take_of_length_le (Nat.le_refl _)] at hrow
   have hml:(Gate.yc who b.gs).length<=maxLen:=by have:=Gate.zcu who b.gs;unfold maxLen;omega
   obtain ⟨ra,rcap,rfl,hat⟩:=hrow.at HBr.out hml
   have HE:Hid (zeJ wr ra (Gate.yc who b.gs)):=hat
   clear HQ hlt hk hrow hat
   go_wp2_with fail
   go_ret
   exact ⟨ra,rcap,rfl,HE.out,HBr.out⟩
end Go.Proofs.YtaickbhifenbjaaGreat
