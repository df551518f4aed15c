import Derived.Test.YtghnakljnhnenaaGreatM27
import Derived.Shelf.Lay
import Derived.Shelf.LaySoft
import Derived.Shelf.LaysM
import Derived.Shelf.Small.Strs
set_option maxHeartbeats 400000
namespace Go.Proofs
open Go.Shelf
shelf_lay Lays.n106 Nm 106 at Tryz as YtghnakljnhnenaaGreat.lays106
end Go.Proofs
namespace Go.Proofs.YtghnakljnhnenaaGreat
open Go.RowKit
namespace Gate
def key (a b:ByteArray):Int:=Lib.compareBytes a.data.toList b.data.toList
theorem zme:∀ a b:List UInt8,Lib.compareBytes a b=-1 \/ Lib.compareBytes a b=0 \/ Lib.compareBytes a b=1
 | [],[]=>by simp [Lib.compareBytes]
 | [],_ :: _=>by simp [Lib.compareBytes]
 | _ :: _,[]=>by simp [Lib.compareBytes]
 | a :: xs,b :: ys=>by
  simp only [Lib.compareBytes]
  split
  ·simp
  ·split
   ·simp
   ·exact zme xs ys
theorem zlX:∀ a b:List UInt8,Op.bytesLess a b=decide (Lib.compareBytes a b=-1)
 | [],[]=>by simp [Lib.compareBytes,Op.bytesLess]
 | [],_ :: _=>by simp [Lib.compareBytes,Op.bytesLess]
 | _ :: _,[]=>by simp [Lib.compareBytes,Op.bytesLess]
 | a :: xs,b :: ys=>by
  simp only [Lib.compareBytes,Op.bytesLess];rw [zlX xs ys]
  by_cases h:a < b
  ·simp [h]
  ·by_cases h':b < a
   ·have hne:¬ a=b:=fun e=>by subst e;exact h h'
    simp [h,h',hne]
   ·have he:a=b:=by
     have h1:¬ a.toNat < b.toNat:=h;have h2:¬ b.toNat < a.toNat:=h';exact UInt8.toNat_inj.1 (by omega)
    simp [he]
theorem zmJ:∀ a b:List UInt8,Lib.compareBytes b a=- Lib.compareBytes a b
 | [],[]=>by simp [Lib.compareBytes]
 | [],_ :: _=>by simp [Lib.compareBytes]
 | _ :: _,[]=>by simp [Lib.compareBytes]
 | a :: xs,b :: ys=>by
  simp only [Lib.compareBytes]
  by_cases h:a < b
  ·have h':¬ b < a:=fun h2=>absurd (UInt8.lt_trans h h2) (UInt8.lt_irrefl _)
   simp [h,h']
  ·by_cases h':b < a
   ·simp [h,h']
   ·simp [h,h',zmJ xs ys]
theorem zph (a b:ByteArray):key b a=- key a b:=zmJ _ _
theorem zm6 (a b:ByteArray):key a b=-1 \/ key a b=0 \/ key a b=1:=zme _ _
theorem ziL (a b:ByteArray):less a b=decide (key a b=-1):=by
 unfold less key;rw [<- zlX,ByteArray.toList_eq,ByteArray.toList_eq]
theorem zmr:∀ a b:List UInt8,Lib.compareBytes a b=0 ↔ a=b
 | [],[]=>by simp [Lib.compareBytes]
 | [],_ :: _=>by simp [Lib.compareBytes]
 | _ :: _,[]=>by simp [Lib.compareBytes]
 | a :: xs,b :: ys=>by
  simp only [Lib.compareBytes]
  by_cases h:a < b
  ·have hne:¬ a=b:=fun e=>by subst e;exact UInt8.lt_irrefl _ h
   simp [h,hne]
  ·by_cases h':b < a
   ·have hne:¬ a=b:=fun e=>by subst e;exact UInt8.lt_irrefl _ h'
    simp [h,h',hne]
   ·have he:a=b:=by
     have h1:¬ a.toNat < b.toNat:=h;have h2:¬ b.toNat < a.toNat:=h';exact UInt8.toNat_inj.1 (by omega)
    simp [he,zmr xs ys]
theorem zbL (a b:ByteArray):key a b=0 ↔ a=b:=by
 unfold key;rw [zmr]
 constructor
 ·intro h
  cases a;cases b
  simp only at h
  rw [Array.toList_inj.1 h]
 ·rintro rfl;rfl
def zc1 (vs:List Int):Int:=(vs.find? (fun v=>decide (¬ v=0))).getD 0
theorem zkB (a b:Int):zc1 [a,b]=if a=0 then b else a:=by
 unfold zc1
 by_cases h:a=0
 ·by_cases h2:b=0 <;> simp [h,h2]
 ·simp [h]
theorem zm7 (a b c:Int):zc1 [a,b,c]=if a=0 then (if b=0 then c else b) else a:=by
 unfold zc1
 by_cases h:a=0
 ·by_cases h2:b=0
  ·by_cases h3:c=0 <;> simp [h,h2,h3]
  ·simp [h,h2]
 ·simp [h]
def key2 (a b c d:ByteArray):Int:=if key a c=0 then key b d else key a c
def zax (a b:Ob):Int:=key2 a.kd a.nm b.kd b.nm
def qC (a b:Lg):Int:=key2 a.tm a.rs b.tm b.rs
def zae (a b:Pu):Int:=if key a.dr b.dr=0 then key2 a.tm a.rs b.tm b.rs else key a.dr b.dr
end Gate
theorem zeJ (a b:ByteArray) (w:World):Calls Tryz.prog 194 #[.string a,.string b] w fun e w'=>e = .returned (.int .i64 (Gate.key a b))/\w'=w :=
 Any.strings_Compare lays106 a b w
theorem zkN (a:Option Addr) (cap:Nat) (vs:List Int) (w:World) (hw:qp w a vs) (hl:vs.length<=100) :
 Calls Tryz.prog 193 #[.slice a vs.length cap] w fun e w'=>e = .returned (.int .i64 (Gate.zc1 vs))/\w'=w:=by
 go_enter Tryz.func193,Tryz.ntmps193;go_wp2_with fail
 go_loopw [8] (fun i wr=>∃ k:Nat,k<=vs.length/\i = .int .i64 k/\Hid (∀ v ∈ vs.take k,v=0)/\wr=w) (fun i _=>vs.length - (intOf i).toNat)
 case atStart=>exact ⟨0,Nat.zero_le _,rfl,fun v hv=>by simp at hv,rfl⟩
 case round =>
  obtain ⟨k,hk,rfl,hz,rfl⟩:=hrel
  by_cases hlt:k < vs.length
  ·obtain ⟨b,off,rfl,hb,hck⟩:=hw.load (bRf _ _) k hlt
   have hltI:(k:Int) < (vs.length:Int):=by omega
   clear hw
   by_cases h0:vs[k]=0
   ·have e0:(vs[k] != 0)=false:=by simpa using h0
    have HZ:Hid (∀ v ∈ vs.take (k+1),v=0):=by
     intro v hv;rw [tSe hlt,List.mem_append,List.mem_singleton] at hv
     rcases hv with hv | hv
     ·exact hz.out v hv
     ·rw [hv];exact h0
    clear h0;go_wp2_with fail
    exact ⟨⟨k+1,by omega,by go_num,HZ.out,trivial⟩,by simp [intOf];omega⟩
   ·have e0:(vs[k] != 0)=true:=by simpa using h0
    have HF:Hid (Gate.zc1 vs=vs[k]):=by
     unfold Hid Gate.zc1;have e:vs=vs.take k ++ vs[k] :: vs.drop (k+1):=by rw [<- List.drop_eq_getElem_cons hlt,List.take_append_drop]
     have hn:(vs.take k).find? (fun v=>decide (¬ v=0))=none:=by
      rw [List.find?_eq_none];intro v hv;simp [hz.out v hv]
     have:vs.find? (fun v=>decide (¬ v=0))=some vs[k]:=by
      rw [List.find?_eq_some_iff_append];refine ⟨by simpa using h0,vs.take k,vs.drop (k+1),e,fun v hv=>by simp [hz.out v hv]⟩
     rw [this];rfl
    clear h0;go_wp2_with fail
    go_ret;exact ⟨zq HF.out.symm,rfl⟩
  ·have HF:Hid (Gate.zc1 vs=0):=by
    unfold Hid Gate.zc1;have h:=hz.out;rw [tOl (by omega)] at h
    have:vs.find? (fun v=>decide (¬ v=0))=none:=by
     rw [List.find?_eq_none];intro v hv;simp [h v hv]
    rw [this];rfl
   clear hw;go_wp2_with fail
   go_ret;exact ⟨zq HF.out.symm,rfl⟩
end Go.Proofs.YtghnakljnhnenaaGreat
