import Derived.Test.YtnapmdofidgliaaGreatM22
import Derived.Test.YtnapmdofidgliaaGreatM23
set_option maxHeartbeats 1000000
namespace Go.Proofs.YtnapmdofidgliaaGreat
open Go.RowKit
structure zcZ (w:World)(a:Option Addr)(ms:List Ob):Prop where
 len:ms.length<=maxLen
 rows:ms≠[]->∃b off,a=some ⟨b,off,none⟩/\b<w.heap.size/\∀i (h:i<ms.length),∃g0 g1 c0 c1,zpX w b (off+i*7) ms[i] (some ⟨g0,0,none⟩) (some ⟨g1,0,none⟩) c0 c1
theorem zcZ.mono {w w':World}{a:Option Addr}{ms:List Ob}(h:zcZ w a ms)(hl:Below w.heap.size w w'):zcZ w' a ms:=
 ⟨h.len,fun hne=>by
  obtain⟨b,off,ha,hb,hr⟩:=h.rows hne;refine⟨b,off,ha,nLt hb hl.size,fun i hi=>?_⟩;obtain⟨g0,g1,c0,c1,hf⟩:=hr i hi;exact⟨g0,g1,c0,c1,hf.mono hb hl⟩⟩
theorem zcZ.load {w w':World}{a:Option Addr}{ms:List Ob}(h:zcZ w a ms)(hl:Below w.heap.size w w')(i:Nat)(hi:i<ms.length):∃b off g0 g1 c0 c1,a=some ⟨b,off,none⟩/\b<w.heap.size/\ms[i].Small/\zD w' (some ⟨g0,0,none⟩) ms[i].vs/\zD w' (some ⟨g1,0,none⟩) ms[i].hs /\
 w'.cell? ⟨b,off+i*7,none⟩=some (.string ms[i].kd)/\w'.cell? ⟨b,off+i*7+1,none⟩=some (.string ms[i].nm)/\w'.cell? ⟨b,off+i*7+2,none⟩=some (.string ms[i].tm)/\w'.cell? ⟨b,off+i*7+3,none⟩=some (.slice (some ⟨g0,0,none⟩) ms[i].vs.length c0)/\w'.cell? ⟨b,off+i*7+4,none⟩=some (.bool ms[i].en)/\w'.cell? ⟨b,off+i*7+5,none⟩=some (.slice (some ⟨g1,0,none⟩) ms[i].hs.length c1)/\w'.cell? ⟨b,off+i*7+6,none⟩=some (.int .i64 ms[i].vr):=by
 obtain⟨b,off,ha,hb,hr⟩:=h.rows (by rintro rfl;simp at hi);obtain⟨g0,g1,c0,c1,hf0⟩:=hr i hi;have hf:=hf0.mono hb hl;exact⟨b,off,g0,g1,c0,c1,ha,hb,hf.small,hf.l0,hf.l1,hf.cell 0 (by omega),hf.cell 1 (by omega),hf.cell 2 (by omega),hf.cell 3 (by omega),hf.cell 4 (by omega),hf.cell 5 (by omega),hf.cell 6 (by omega)⟩
theorem zan.has {lo:Nat}{w:World}{bo:Nat}{ms:List Ob}(h:zan lo w bo ms ms.length)(hs:zgn ms)(hl:ms.length<=maxLen):zcZ w (some ⟨bo,0,none⟩) ms:=by
 obtain⟨C,hC,hsz,hr⟩:=h.rows;refine⟨hl,fun _=>⟨bo,0,rfl,(gES hC).1,fun i hi=>?_⟩⟩;obtain⟨g0,g1,_,_,hk0,_,_,hk1,hc⟩:=hr i hi hi;obtain⟨s0,s1,s2⟩:=hs.small i hi;refine⟨g0,g1,ms[i].vs.length,ms[i].hs.length,s0,zdL hk0 s1.1 s1.2,zdL hk1 s2.1 s2.2,fun j hj=>?_⟩;rw[cell_of_block hC,Nat.zero_add];exact hc j hj
theorem zjN (b:Bk)(a0 a1 a2 a3:Option Addr)(c0 c1 c2 c3:Nat)(w:World)(hl:jk w b a0 a1 a2 a3)(hf:b.Few) :
 Calls Tryz.prog 8 #[.agg (b.cells a0 a1 a2 a3 c0 c1 c2 c3)] w fun e w'=>∃a0' a1' a2' a3',e=.returned (.agg (b.cells a0' a1' a2' a3' b.os.length b.gs.length b.ls.length b.ps.length))/\jk w' b a0' a1' a2' a3'/\zcZ w' a0' b.os/\Below w.heap.size w w':=by
 refine(zcW b a0 a1 a2 a3 c0 c1 c2 c3 w hl hf).mono ?_;rintro e w'⟨lo,g0,g1,g2,g3,he,_,ho,hb⟩;exact⟨_,_,_,_,he,ho.at hl.small,ho.os.has hl.os.smalls hl.os.len,hb⟩
theorem ziv (g n cap:Nat)(C:Array Value)(k:Nat)(w:World)(hC:w.heap[g]?=some (.cells C 9))(hn:n<=C.size)(hns:∀i,i<n->∀a m c,C[i]?≠some (Value.slice a m c))(hk:0<k)(hkn:k+n<9000000000000000000) :
 Calls Tryz.prog 92 #[.slice (some ⟨g,0,none⟩) n cap,.int .i64 k] w fun e w'=>e=.returned (.int .i64 ((k+n:Nat):Int))/\Marked g (g+1) w w'/\∃C',w'.heap[g]?=some (.cells C' 9)/\C'.size=C.size/\∀i,i<n->C'[i]?=some (.string (zfr (k+i))):=by
 have HS:=hid hns;have HC:=hid hC;have HN:=hid hn;have HKN:=hid hkn;clear hns hC hn hkn;go_enter Tryz.func92,Tryz.ntmps92;go_wp2_with fail
 go_loopw [1,5] (fun kv iv wr=>∃i:Nat,i<=n/\kv=.int .i64 ((k+i:Nat):Int)/\iv=.int .i64 i/\Marked g (g+1) w wr/\∃C',wr.heap[g]?=some (.cells C' 9)/\C'.size=C.size/\∀j,j<i->C'[j]?=some (.string (zfr (k+j)))) (fun _ iv _=>n-(intOf iv).toNat)
 case atStart=>exact⟨0,Nat.zero_le _,by simp,rfl,Marked.refl _ _ _,C,HC.out,rfl,fun j h=>absurd h (by omega)⟩
 case round=>
  obtain⟨i,hi,rfl,rfl,hM,C',hC',hs',hc'⟩:=hrel
  by_cases hlt:i<n
  ·have hkn:=HKN.out
   have hltI:(i:Int)<(n:Int):=by omega
   have HX:=zkC hM hC' hs' hc';have hglt:=(gES hC').1;clear hM hC' hs' hc' hkn;go_wp2_with fail
   rw[<- Int.natCast_add];refine(zgO (k+i) _ (by omega) (by have:=HKN.out;omega)).mono ?_;rintro e w1⟨rfl,hb1⟩;have hC1:w1.heap[g]?=some (.cells C' 9):=(hb1.block g hglt).trans HX.out.2.1;have hi1:i<C'.size:=by have h1:=HX.out.2.2.1;have h2:=HN.out;omega
   have hcell:w1.cell? ⟨g,i,none⟩=some C'[i]:=by rw[cell_of_block hC1];exact Array.getElem?_eq_getElem hi1
   have hfz:w1.frozen? ⟨g,i,none⟩=false:=zh hC1;have HC1:=hid hC1;have HM1:=hid (HX.out.1.trans (Marked.of_below hb1));have HR:Hid (wrap64 ((k:Int)+i+1)=((k+(i+1):Nat):Int)):=by have:=HKN.out;rw[Hid,yt _ ⟨by omega,by omega⟩];omega
   clear hb1 hC1;go_wp2_with fail
   go_roundw
   case rel=>
    refine⟨i+1,by omega,?_,by rw[wrap_one (by have:=HKN.out;omega)],?_,C'.setIfInBounds i (.string (zfr (k+i))),zk HC1.out _,by simp[HX.out.2.2.1],fun j hj=>?_⟩
    ·rw[HR.out]
    ·exact HM1.out.put (Nat.le_refl _) (Nat.lt_succ_self _) HC.out (HS.out i hlt) _ (fun _ _ _ h=>by cases h)
    ·by_cases e:j=i
     ·subst e;rw[Array.getElem?_setIfInBounds_self_of_lt hi1]
     ·rw[Array.getElem?_setIfInBounds_ne (fun h=>e h.symm)];exact HX.out.2.2.2 j (by omega)
   case measure=>
    have hkn:=HKN.out;exact jq hlt (by omega)
  ·have e:i=n:=by omega
   have HX:Hid (Marked g (g+1) w wr/\∃C',wr.heap[g]?=some (.cells C' 9)/\C'.size=C.size/\∀j,j<n->C'[j]?=some (.string (zfr (k+j)))):=⟨hM,C',hC',hs',by rw[<- e];exact hc'⟩
   clear hM hC' hs' hc';subst e;go_wp2_with fail
   go_ret;exact⟨rfl,HX.out⟩
end Go.Proofs.YtnapmdofidgliaaGreat
