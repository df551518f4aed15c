import Derived.Test.YtghnakljnhnenaaGreatM09
set_option maxHeartbeats 1000000
namespace Go.Proofs.YtghnakljnhnenaaGreat
open Go.RowKit
theorem Tryz.zcP:(Tryz.prog.info? 9).map (fun i=>(i.zero,i.size,i.bytes))=some (some (.string ByteArray.empty),1,16):=by kernel_rfl
theorem yh (w:World) (o1 o2:Obj):((w.alloc o1).alloc o2).heap[w.heap.size]?=some o1/\((w.alloc o1).alloc o2).heap[w.heap.size+1]?=some o2:=by
 refine ⟨(Below.heap_alloc _ _ _ (by simp)).trans (alloc_at _ _),?_⟩;have h:=alloc_at (w.alloc o1) o2
 simpa using h
theorem zn {n i:Nat} (h:i < n):n - (intOf (Value.int IntKind.i64 ((i:Int)+1))).toNat < n - (intOf (Value.int IntKind.i64 (i:Int))).toNat:=by
 show n - ((i+1:Nat):Int).toNat < n - ((i:Nat):Int).toNat
 rw [Int.toNat_natCast,Int.toNat_natCast];omega
theorem yw (n:Int) (h:-9223372036854775808<=n/\n<=9223372036854775807):wrap64 n=n:=by unfold wrap64;omega
theorem wrap_one {i:Nat} (h:i < 9000000000000000000):wrap64 ((i:Int)+1)=((i+1:Nat):Int):=by
 rw [yw _ ⟨by omega,by omega⟩];omega
theorem jr {n i:Nat} (h:i < n) (hi:i < 9000000000000000000):n - (intOf (Value.int IntKind.i64 (wrap64 ((i:Int)+1)))).toNat < n - (intOf (Value.int IntKind.i64 (i:Int))).toNat:=by
 rw [wrap_one hi]
 show n - ((i+1:Nat):Int).toNat < n - ((i:Nat):Int).toNat
 rw [Int.toNat_natCast,Int.toNat_natCast];omega
theorem qN (a:Option Addr) (cap:Nat) (ss:List Shp) (v:ByteArray) (w:World) (hw:yI w a ss) :
 Calls Tryz.prog 142 #[.slice a ss.length cap,.string v] w fun e w'=>∃ fa fcap,e = .returned (.tuple #[.agg #[.string (Gate.shapeOf ss v).kd,.slice fa (Gate.shapeOf ss v).fs.length fcap],.bool (Gate.zF ss v)]) /\
  zP w fa (Gate.shapeOf ss v).fs/\Below w.heap.size w w':=by
 have hl:=hw.len;unfold maxLen at hl;go_enter Tryz.func142,Tryz.ntmps142
 go_wp2
 go_loopw [10] (fun i wr=>∃ k:Nat,k<=ss.length/\i = .int .i64 k/\Gate.zF (ss.take k) v=false/\Below (w.heap.size+1) (w.alloc (.cells #[.string ByteArray.empty,.slice none 0 0] 123)) wr) (fun i _=>ss.length - (intOf i).toNat)
 case atStart=>exact ⟨0,Nat.zero_le _,rfl,rfl,bRf _ _⟩
 case round =>
  obtain ⟨k,hk,rfl,hno,hbl⟩:=hrel;have hsz:w.heap.size < wr.heap.size:=by have:=hbl.size;simp at this;omega
  have hB0:Below w.heap.size w wr:=(bAl _ _).trans (hbl.mono (by omega));have hX0:wr.cell? ⟨w.heap.size,0,none⟩=some (.string ByteArray.empty):=(hbl.cell (p:=⟨w.heap.size,0,none⟩) (by simp)).trans (by rw [World.cell?_alloc_at _ _ _ _ rfl];rfl);have hX1:wr.cell? ⟨w.heap.size,1,none⟩=some (.slice none 0 0):=(hbl.cell (p:=⟨w.heap.size,1,none⟩) (by simp)).trans (by rw [World.cell?_alloc_at _ _ _ _ rfl];rfl);have hF0:wr.frozen? ⟨w.heap.size,0,none⟩=false:=(hbl.frozen (p:=⟨w.heap.size,0,none⟩) (by simp)).trans (by rw [World.frozen?_alloc_at _ _ _ _ rfl]);have hF1:wr.frozen? ⟨w.heap.size,1,none⟩=false:=(hbl.frozen (p:=⟨w.heap.size,1,none⟩) (by simp)).trans (by rw [World.frozen?_alloc_at _ _ _ _ rfl])
  by_cases hlt:k < ss.length
  ·obtain ⟨b,off,rfl,hb,hr⟩:=hw.rows (by rintro rfl;simp at hlt)
   obtain ⟨fa,fcap,hs⟩:=hr k hlt;have hck:=(hB0.cell (p:=⟨b,off+k * 2,none⟩) hb).trans hs.kind;have hcl:=(hB0.cell (p:=⟨b,off+k * 2+1,none⟩) hb).trans hs.list;have hfl:=hs.zdk;clear hw hr hs
   by_cases he:ss[k].kd=v
   ·have hbe:(ss[k].kd.toList == v.toList)=true:=by rw [Gate.beq_toList];simpa using he
    have HA:Hid (Gate.zF ss v=true):=Gate.ziF ss v k hlt he;have HB:Hid (Gate.shapeOf ss v=ss[k]):=Gate.zfm ss v k hlt hno he;clear he hno
    go_wp2
    refine bodyPost_ret (v:=.tuple #[.agg #[.string ss[k].kd,.slice fa ss[k].fs.length fcap],.bool true]) (by simp [results,Tryz.results142,go_sem,hX0,hX1,hsz]) rfl ⟨fa,fcap,by rw [HA.out,HB.out],by rw [HB.out];exact hfl,?_⟩;exact ((hB0.setCell (Nat.le_refl _) _).setCell (Nat.le_refl _) _).alloc (by simp [World.setCell];omega) _
   ·have hbe:(ss[k].kd.toList == v.toList)=false:=by rw [Gate.beq_toList];simpa using he
    have HS:Hid (Gate.zF (ss.take (k+1)) v=false):=by unfold Hid;rw [Gate.zf4 ss v k hlt,hno,decide_eq_false he];rfl
    clear he hno hX0 hX1 hF0 hF1
    go_wp2
    go_roundw
    case rel=>exact ⟨k+1,by omega,by go_num,HS.out,hbl.alloc (by omega) _⟩
    case measure=>simp [intOf];omega
  ·have HA:Hid (Gate.zF ss v=false):=by rw [<- Gate.zhH ss v k (by omega)];exact hno
   have HB:Hid (Gate.shapeOf ss v=Gate.zb2):=Gate.zge ss v HA.out;clear hno hw
   go_wp2
   refine bodyPost_ret (v:=.tuple #[.agg #[.string ByteArray.empty,.slice none 0 0],.bool false]) (by simp [results,Tryz.results142,go_sem,hX0,hX1];rfl) rfl ⟨none,0,by rw [HA.out,HB.out];rfl,by rw [HB.out];exact ⟨by simp [Gate.zb2,maxLen],fun h=>absurd rfl h⟩,?_⟩;exact (hB0.setCell (Nat.le_refl _) _).setCell (Nat.le_refl _) _
theorem zad (c:UInt8) (w:World) :
 Calls Tryz.prog 135 #[.int .u8 c.toNat] w fun e w'=>e = .returned (.bool (Gate.zJ c))/\w'=w:=by
 go_enter Tryz.func135,Tryz.ntmps135
 go_wp2
 all_goals
  go_ret;refine ⟨ze ?_,rfl⟩;rw [Bool.eq_iff_iff];simp [Gate.zJ];try omega
end Go.Proofs.YtghnakljnhnenaaGreat
