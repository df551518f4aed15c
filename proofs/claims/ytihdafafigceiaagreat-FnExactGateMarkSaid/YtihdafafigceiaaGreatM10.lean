import Derived.Test.YtihdafafigceiaaGreatM09
import Derived.Test.YtihdafafigceiaaGreatM03
import Derived.WalkKit
import Derived.Test.YtihdafafigceiaaGreatM02
import Derived.Test.YtihdafafigceiaaGreatM01
set_option maxHeartbeats 1000000
namespace Go.Proofs.YtihdafafigceiaaGreat
open Go.RowKit
def zw (lo:Nat) (w:World) (a:Option Addr) (ws:List ByteArray):Prop :=
 (a=none/\ws=[]) \/ ∃ g C,a=some ⟨g,0,none⟩/\lo<=g/\w.heap[g]?=some (.cells C 9)/\∀ i (h:i < ws.length),C[i]?=some (.string ws[i])
theorem zw.ze8 {lo:Nat} {w:World} {v:Value} {ws:List ByteArray} (h:w.ownsRow lo 9 1 v ws.length (ws.map Value.string)):∃ a cap,v = .slice a ws.length cap/\zw lo w a ws:=by
 obtain ⟨_,⟨rfl,h0⟩ | ⟨g,cap,cur,rfl,hg,hh,_,_,_,ht⟩⟩:=h
 ·exact ⟨none,0,by rw [h0],Or.inl ⟨rfl,List.length_eq_zero_iff.1 h0⟩⟩
 ·refine ⟨some ⟨g,0,none⟩,cap,rfl,Or.inr ⟨g,cur,rfl,hg,hh,fun i hi=>?_⟩⟩
  have h1:(cur.toList.take (ws.length * 1))[i]?=(ws.map Value.string)[i]?:=by rw [ht]
  rw [List.getElem?_take_of_lt (by omega),List.getElem?_map,List.getElem?_eq_getElem hi] at h1
  simpa using h1
theorem zw.mono {lo:Nat} {w w':World} {a:Option Addr} {ws:List ByteArray} (h:zw lo w a ws) (hb:Below w.heap.size w w'):zw lo w' a ws:=by
 rcases h with ⟨rfl,rfl⟩ | ⟨g,C,rfl,hg,hh,hc⟩
 ·exact Or.inl ⟨rfl,rfl⟩
 ·exact Or.inr ⟨g,C,rfl,hg,(hb.block g (Array.getElem?_eq_some_iff.1 hh).1).trans hh,hc⟩
theorem zw.at {lo:Nat} {w:World} {a:Option Addr} {ws:List ByteArray} (h:zw lo w a ws) (hl:ws.length<=maxLen) (hs:∀ s ∈ ws,s.size<=maxLen):zD w a ws:=by
 refine ⟨hl,hs,fun hne=>?_⟩
 rcases h with ⟨_,rfl⟩ | ⟨g,C,rfl,_,hh,hc⟩
 ·exact absurd rfl hne
 ·refine ⟨g,0,rfl,(Array.getElem?_eq_some_iff.1 hh).1,fun i hi=>?_⟩
  simp only [World.cell?,hh,Nat.zero_add]
  simpa using hc i hi
theorem yu (w:World) (o1 o2:Obj):((w.alloc o1).alloc o2).heap[w.heap.size]?=some o1/\((w.alloc o1).alloc o2).heap[w.heap.size+1]?=some o2:=by
 refine ⟨(Below.heap_alloc _ _ _ (by simp)).trans (alloc_at _ _),?_⟩
 have h:=alloc_at (w.alloc o1) o2
 simpa using h
theorem zw.setCell {lo:Nat} {w:World} {a:Option Addr} {ws:List ByteArray} (h:zw lo w a ws) (p:Addr) (hp:p.block < lo) (v:Value):zw lo (w.setCell p v) a ws:=by
 rcases h with ⟨rfl,rfl⟩ | ⟨g,C,rfl,hg,hh,hc⟩
 ·exact Or.inl ⟨rfl,rfl⟩
 ·exact Or.inr ⟨g,C,rfl,hg,(Below.heap_setCell _ _ _ _ (by omega)).trans hh,hc⟩
theorem zw.low {lo lo':Nat} {w:World} {a:Option Addr} {ws:List ByteArray} (h:zw lo w a ws) (hl:lo'<=lo):zw lo' w a ws:=by
 rcases h with ⟨rfl,rfl⟩ | ⟨g,C,rfl,hg,hh,hc⟩
 ·exact Or.inl ⟨rfl,rfl⟩
 ·exact Or.inr ⟨g,C,rfl,by omega,hh,hc⟩
theorem zn {n i:Nat} (h:i < n):n - (intOf (Value.int IntKind.i64 ((i:Int)+1))).toNat < n - (intOf (Value.int IntKind.i64 (i:Int))).toNat:=by
 show n - ((i+1:Nat):Int).toNat < n - ((i:Nat):Int).toNat
 rw [Int.toNat_natCast,Int.toNat_natCast]
 omega
theorem yw (n:Int) (h:-9223372036854775808<=n/\n<=9223372036854775807):wrap64 n=n:=by unfold wrap64;omega
theorem wrap_one {i:Nat} (h:i < 9000000000000000000):wrap64 ((i:Int)+1)=((i+1:Nat):Int):=by
 rw [yw _ ⟨by omega,by omega⟩];omega
theorem jo {n i:Nat} (h:i < n) (hi:i < 9000000000000000000):n - (intOf (Value.int IntKind.i64 (wrap64 ((i:Int)+1)))).toNat < n - (intOf (Value.int IntKind.i64 (i:Int))).toNat:=by
 rw [wrap_one hi]
 show n - ((i+1:Nat):Int).toNat < n - ((i:Nat):Int).toNat
 rw [Int.toNat_natCast,Int.toNat_natCast]
 omega
theorem qJ (a:Option Addr) (cap:Nat) (ss:List Shp) (v:ByteArray) (w:World) (hw:yI w a ss) :
 Calls Tryz.prog 137 #[.slice a ss.length cap,.string v] w fun e w'=>∃ fa fcap,e = .returned (.tuple #[.agg #[.string (Gate.shapeOf ss v).kd,.slice fa (Gate.shapeOf ss v).fs.length fcap],.bool (Gate.zG ss v)]) /\
  zP w fa (Gate.shapeOf ss v).fs/\Below w.heap.size w w':=by
 have hl:=hw.len
 unfold maxLen at hl
 go_enter Tryz.func137,Tryz.ntmps137
 go_wp2
 go_loopw [10] (fun i wr=>∃ k:Nat,k<=ss.length/\i = .int .i64 k/\Gate.zG (ss.take k) v=false/\Below (w.heap.size+1) (w.alloc (.cells #[.string ByteArray.empty,.slice none 0 0] 119)) wr) (fun i _=>ss.length - (intOf i).toNat)
 case atStart=>exact ⟨0,Nat.zero_le _,rfl,rfl,Below.refl _ _⟩
 case round =>
  obtain ⟨k,hk,rfl,hno,hbl⟩:=hrel
  have hsz:w.heap.size < wr.heap.size:=by have:=hbl.size;simp at this;omega
  have hB0:Below w.heap.size w wr:=((Below.refl _ _).alloc (Nat.le_refl _) _).trans (hbl.mono (by omega))
  have hX0:wr.cell? ⟨w.heap.size,0,none⟩=some (.string ByteArray.empty):=(hbl.cell (p:=⟨w.heap.size,0,none⟩) (by simp)).trans (by rw [World.cell?_alloc_at _ _ _ _ rfl];rfl)
  have hX1:wr.cell? ⟨w.heap.size,1,none⟩=some (.slice none 0 0):=(hbl.cell (p:=⟨w.heap.size,1,none⟩) (by simp)).trans (by rw [World.cell?_alloc_at _ _ _ _ rfl];rfl)
  have hF0:wr.frozen? ⟨w.heap.size,0,none⟩=false:=(hbl.frozen (p:=⟨w.heap.size,0,none⟩) (by simp)).trans (by rw [World.frozen?_alloc_at _ _ _ _ rfl])
  have hF1:wr.frozen? ⟨w.heap.size,1,none⟩=false:=(hbl.frozen (p:=⟨w.heap.size,1,none⟩) (by simp)).trans (by rw [World.frozen?_alloc_at _ _ _ _ rfl])
  by_cases hlt:k < ss.length
  ·obtain ⟨b,off,rfl,hb,hr⟩:=hw.rows (by rintro rfl;simp at hlt)
   obtain ⟨fa,fcap,hs⟩:=hr k hlt
   have hck:=(hB0.cell (p:=⟨b,off+k * 2,none⟩) hb).trans hs.kind
   have hcl:=(hB0.cell (p:=⟨b,off+k * 2+1,none⟩) hb).trans hs.list
   have hfl:=hs.zc8
   clear hw hr hs
   by_cases he:ss[k].kd=v
   ·have hbe:(ss[k].kd.toList == v.toList)=true:=by rw [Gate.beq_toList];simpa using he
    have HA:Hid (Gate.zG ss v=true):=Gate.ziz ss v k hlt he
    have HB:Hid (Gate.shapeOf ss v=ss[k]):=Gate.ze7 ss v k hlt hno he
    clear he hno
    go_wp2
    refine bodyPost_ret (v:=.tuple #[.agg #[.string ss[k].kd,.slice fa ss[k].fs.length fcap],.bool true]) (by simp [results,Tryz.results137,go_sem,hX0,hX1,hsz]) rfl ⟨fa,fcap,by rw [HA.out,HB.out],by rw [HB.out];exact hfl,?_⟩
    exact ((hB0.setCell (Nat.le_refl _) _).setCell (Nat.le_refl _) _).alloc (by simp [World.setCell];omega) _
   ·have hbe:(ss[k].kd.toList == v.toList)=false:=by rw [Gate.beq_toList];simpa using he
    have HS:Hid (Gate.zG (ss.take (k+1)) v=false):=by unfold Hid;rw [Gate.zf7 ss v k hlt,hno,decide_eq_false he];rfl
    clear he hno hX0 hX1 hF0 hF1
    go_wp2
    go_roundw
    case rel=>exact ⟨k+1,by omega,by go_num,HS.out,hbl.alloc (by omega) _⟩
    case measure=>simp [intOf];omega
  ·have HA:Hid (Gate.zG ss v=false):=by rw [<- Gate.zhd ss v k (by omega)];exact hno
   have HB:Hid (Gate.shapeOf ss v=Gate.zca):=Gate.zkI ss v HA.out
   clear hno hw
   go_wp2
   refine bodyPost_ret (v:=.tuple #[.agg #[.string ByteArray.empty,.slice none 0 0],.bool false]) (by simp [results,Tryz.results137,go_sem,hX0,hX1];rfl) rfl ⟨none,0,by rw [HA.out,HB.out];rfl,by rw [HB.out];exact ⟨by simp [Gate.zca,maxLen],fun h=>absurd rfl h⟩,?_⟩
   exact (hB0.setCell (Nat.le_refl _) _).setCell (Nat.le_refl _) _
end Go.Proofs.YtihdafafigceiaaGreat
