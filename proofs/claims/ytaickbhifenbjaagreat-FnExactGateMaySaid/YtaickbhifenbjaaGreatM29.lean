import Derived.Test.YtaickbhifenbjaaGreatM28
import Derived.Test.YtaickbhifenbjaaGreatM03
import Derived.Test.YtaickbhifenbjaaGreatM12
import Derived.Test.YtaickbhifenbjaaGreatM08
import Derived.WalkKit
set_option maxHeartbeats 1000000
namespace Go.Proofs.YtaickbhifenbjaaGreat.Gate
open Go
theorem zlh {fs:List Fld} {vs:List ByteArray} (v:ByteArray) (hv:∀ x ∈ vs,x.size<=maxLen):(qO fs vs v).size<=maxLen:=by
 have he:ByteArray.empty.size<=maxLen:=by show 0<=_;exact Nat.zero_le _
 unfold qO
 split
 ·rename_i j _
  rw [List.getD_eq_getElem?_getD]
  cases h:vs[j]? with
  | none=>exact he
  | some x=>exact hv x (List.mem_of_getElem? h)
 ·exact he
theorem zjl {s:Shp} {ms:List Mnd} {vs:List ByteArray} (p:Nat) (hm:∀ i (h:i < ms.length),ms[i].Small) (hv:∀ x ∈ vs,x.size<=maxLen):(decided s ms p vs).size<=maxLen:=by
 unfold decided
 cases hf:ms.findSome? (gives s vs p) with
 | none =>
  show (vs.getD p ByteArray.empty).size<=maxLen
  rw [List.getD_eq_getElem?_getD]
  cases h:vs[p]? with
  | none=>show 0<=_;exact Nat.zero_le _
  | some x=>exact hv x (List.mem_of_getElem? h)
 | some x =>
  show x.size<=maxLen
  obtain ⟨m,hmm,hg⟩:=List.exists_of_findSome?_eq_some hf
  obtain ⟨i,hi,rfl⟩:=List.mem_iff_getElem.1 hmm
  unfold gives at hg
  split at hg
  ·split at hg
   ·split at hg
    ·rw [<- Option.some.inj hg];exact zlh _ hv
    ·cases hg
   ·rw [<- Option.some.inj hg];exact (hm i hi).pt
  ·cases hg
theorem zbF {s:Shp} {ms:List Mnd} (hm:∀ i (h:i < ms.length),ms[i].Small):∀ (row:List Nat) (vs:List ByteArray),(∀ x ∈ vs,x.size<=maxLen)->∀ x ∈ yh (decided s ms) row vs,x.size<=maxLen
 | [],_,hv=>hv
 | p :: row,vs,hv=>by
  refine zbF hm row (vs.set p (decided s ms p vs)) (fun x hx=>?_)
  rcases List.mem_or_eq_of_mem_set hx with h | h
  ·exact hv x h
  ·rw [h];exact zjl p hm hv
end Go.Proofs.YtaickbhifenbjaaGreat.Gate
namespace Go.Proofs.YtaickbhifenbjaaGreat
open Go.RowKit
theorem zeK (b off cap:Nat) (ws:List ByteArray) (w:World) (hw:zF w (some ⟨b,off,none⟩) ws) (hl:ws.length<=1048576) :
 Calls Tryz.prog 220 #[.slice (some ⟨b,off,none⟩) ws.length cap] w
  fun e w'=>∃ v,e = .returned v/\w'.ownsRow w.heap.size 9 1 v ws.length (ws.map Value.string)/\Below w.heap.size w w':=by
 obtain ⟨i0,hi,hz0,hz1,hz2⟩:=info_parts Tryz.zcf
 have hnews:∀ j u,(ws.map Value.string)[j]?=some u->w.cell? ((⟨b,off,none⟩:Addr).add j)=some u:=by
  intro j u hj
  have hlt:j < ws.length:=by
   have:=(List.getElem?_eq_some_iff.1 hj).1;simpa using this
  obtain ⟨b',off',he,hb,hc⟩:=hw.cells (by rintro rfl;simp at hlt)
  simp only [Option.some.injEq,Addr.mk.injEq] at he
  obtain ⟨rfl,rfl,_⟩:=he
  have h1:=hc j hlt
  have e1:(⟨b,off,none⟩:Addr).add j=⟨b,off+j,none⟩:=by
   unfold Addr.add;split
   ·rename_i h;subst h;simp
   ·rfl
  rw [e1,h1]
  rw [List.getElem?_map,List.getElem?_eq_getElem hlt] at hj
  simpa using hj
 have hone:∀ u ∈ ws.map Value.string,u.oneCell'=true:=by
  intro u hu;simp only [List.mem_map] at hu;obtain ⟨s,_,rfl⟩:=hu;rfl
 go_enter Tryz.func220,Tryz.ntmps220
 go_wp2_with (at_builtin;refine wpList_append_own _ rfl _ _ 91 rfl w.heap.size 9 i0 (.string ByteArray.empty) 1 16 Tryz.underlying91 hi hz0 hz1 hz2 rfl (by decide) (.slice none 0 0) 0 [] rfl ⟨rfl,.inl ⟨rfl,rfl⟩⟩ ⟨b,off,none⟩ ws.length cap (ws.map Value.string) rfl (by simp) hnews hone (by unfold maxLen;omega) (by omega) (Nat.le_refl _) ?_;intro v' w1 hown hgr _)
 simp only [Nat.zero_add,List.nil_append] at hown
 go_ret
 exact ⟨v',rfl,hown,(Below.refl _ _).grown hgr (Nat.le_refl _) (by simp [Value.ownBlock])⟩
def zu (lo:Nat) (w:World) (a:Option Addr) (ws:List ByteArray):Prop :=
 (a=none/\ws=[]) \/ ∃ g C,a=some ⟨g,0,none⟩/\lo<=g/\w.heap[g]?=some (.cells C 9)/\∀ i (h:i < ws.length),C[i]?=some (.string ws[i])
theorem zu.zeL {lo:Nat} {w:World} {v:Value} {ws:List ByteArray} (h:w.ownsRow lo 9 1 v ws.length (ws.map Value.string)):∃ a cap,v = .slice a ws.length cap/\zu lo w a ws:=by
 obtain ⟨_,⟨rfl,h0⟩ | ⟨g,cap,cur,rfl,hg,hh,_,_,_,ht⟩⟩:=h
 ·exact ⟨none,0,by rw [h0],Or.inl ⟨rfl,List.length_eq_zero_iff.1 h0⟩⟩
 ·refine ⟨some ⟨g,0,none⟩,cap,rfl,Or.inr ⟨g,cur,rfl,hg,hh,fun i hi=>?_⟩⟩
  have h1:(cur.toList.take (ws.length * 1))[i]?=(ws.map Value.string)[i]?:=by rw [ht]
  rw [List.getElem?_take_of_lt (by omega),List.getElem?_map,List.getElem?_eq_getElem hi] at h1
  simpa using h1
theorem zu.mono {lo:Nat} {w w':World} {a:Option Addr} {ws:List ByteArray} (h:zu lo w a ws) (hb:Below w.heap.size w w'):zu lo w' a ws:=by
 rcases h with ⟨rfl,rfl⟩ | ⟨g,C,rfl,hg,hh,hc⟩
 ·exact Or.inl ⟨rfl,rfl⟩
 ·exact Or.inr ⟨g,C,rfl,hg,(hb.block g (Array.getElem?_eq_some_iff.1 hh).1).trans hh,hc⟩
theorem zu.at {lo:Nat} {w:World} {a:Option Addr} {ws:List ByteArray} (h:zu lo w a ws) (hl:ws.length<=maxLen) (hs:∀ s ∈ ws,s.size<=maxLen):zF w a ws:=by
 refine ⟨hl,hs,fun hne=>?_⟩
 rcases h with ⟨_,rfl⟩ | ⟨g,C,rfl,_,hh,hc⟩
 ·exact absurd rfl hne
 ·refine ⟨g,0,rfl,(Array.getElem?_eq_some_iff.1 hh).1,fun i hi=>?_⟩
  simp only [World.cell?,hh,Nat.zero_add]
  simpa using hc i hi
theorem zu.setCell {lo:Nat} {w:World} {a:Option Addr} {ws:List ByteArray} (h:zu lo w a ws) (p:Addr) (hp:p.block < lo) (v:Value):zu lo (w.setCell p v) a ws:=by
 rcases h with ⟨rfl,rfl⟩ | ⟨g,C,rfl,hg,hh,hc⟩
 ·exact Or.inl ⟨rfl,rfl⟩
 ·exact Or.inr ⟨g,C,rfl,hg,(Below.heap_setCell _ _ _ _ (by omega)).trans hh,hc⟩
theorem zu.low {lo lo':Nat} {w:World} {a:Option Addr} {ws:List ByteArray} (h:zu lo w a ws) (hl:lo'<=lo):zu lo' w a ws:=by
 rcases h with ⟨rfl,rfl⟩ | ⟨g,C,rfl,hg,hh,hc⟩
 ·exact Or.inl ⟨rfl,rfl⟩
 ·exact Or.inr ⟨g,C,rfl,by omega,hh,hc⟩
end Go.Proofs.YtaickbhifenbjaaGreat
