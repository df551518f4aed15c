import Derived.Test.YtjnpjkigofldlaaGreatM31
import Derived.Lib.SliceRun
import Derived.Deep.RegionLaw
namespace Go.Proofs.YtjnpjkigofldlaaGreat
open Go.RowKit
theorem zfh {t:TypeId}{b:Nat}:∀(vs:List Value) (o:Nat) (w:World) (C:AV),w.heap[b]?=some (.cells C t)->o+vs.length<=C.size->∃C',(w.setCells b o vs).heap[b]?=some (.cells C' t)/\C'.size=C.size/\(∀j,j<vs.length->C'[o+j]?=vs[j]?)/\∀x,(x<o \/ o+vs.length<=x)->C'[x]?=C[x]?
 | [],_,_,C,h,_=>⟨C,h,rfl,fun j hj=>by simp at hj,fun _ _=>rfl⟩
 | v :: r,o,w,C,h,hs=>by
  simp only[List.length_cons]at hs;obtain⟨C',h1,h2,h3,h4⟩:=zfh r (o+1) (w.setCell (aD b o) v) _ (zh h v) (by simp;omega);refine⟨C',h1,h2.trans (by simp),fun j hj=>?_,fun x hx=>?_⟩
  ·cases j with
   | zero=>
    rw[h4 _ (by omega),Nat.add_zero,Array.getElem?_setIfInBounds,if_pos rfl,if_pos (by omega)]
    rfl
   | succ j=>
    rw[show o+(j+1)=o+1+j by omega,h3 j (by simpa using hj)]
    rfl
  ·simp only[List.length_cons]at hx
   rw[h4 x (by omega),Array.getElem?_setIfInBounds,if_neg (by omega)]
theorem zgg {S:Nat->Prop}{w:World}{b:Nat}(hb:S b):∀(vs:List Value) (o:Nat) (W:World),Left S w W->Left S w (W.setCells b o vs)
 | [],_,_,h=>h
 | v :: r,o,_,h=>zgg hb r (o+1) _ (h.set hb o v)
end Go.Proofs.YtjnpjkigofldlaaGreat
