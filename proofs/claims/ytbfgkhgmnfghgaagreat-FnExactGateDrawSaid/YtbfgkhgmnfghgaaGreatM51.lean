import Derived.Test.YtbfgkhgmnfghgaaGreatM50
set_option maxHeartbeats 8000000
namespace Go.Proofs.YtbfgkhgmnfghgaaGreat
open Go.RowKit
noncomputable def putAt (ps:List Pu)(dr tm rs:BA):Nat:=ps.findIdx fun q=>decide (0<=yg q ⟨dr,tm,rs,0,0⟩)
def zeN (ps:List Pu)(dr tm rs:BA):Int:=if h:ps.findIdx (zcB dr tm rs)<ps.length then ps[ps.findIdx (zcB dr tm rs)].am else 0
noncomputable def fill (ps:List Pu)(dr tm rs:BA)(am un:Int):List Pu:=ps.take (putAt ps dr tm rs)++⟨dr,tm,rs,zeN ps dr tm rs+am,un⟩ :: ps.drop (putAt ps dr tm rs+if yP ps dr tm rs=true then 1 else 0)
noncomputable def jL (tick:Int)(ls:List Lg)(ps:List Pu)(dr tm rs:BA)(am:Int):(List Lg × List Pu) × Int:=
 if h:(zx dr&&within am 1 1000000)=true/\ls.findIdx (zam tm rs)<ls.length then
  (if ls[ls.findIdx (zam tm rs)].fr<am then ((ls,ps),3) else if 24<(fill ps dr tm rs am (tick+10)).length then ((ls,ps),4) else ((ls.set (ls.findIdx (zam tm rs)) ⟨ls[ls.findIdx (zam tm rs)].tm,ls[ls.findIdx (zam tm rs)].rs,ls[ls.findIdx (zam tm rs)].mo,ls[ls.findIdx (zam tm rs)].fr-am⟩,fill ps dr tm rs am (tick+10)),0))
 else ((ls,ps),2)
noncomputable def zeC (b:Bk)(dr tm rs:BA)(am:Int):Bk × Int:=({ b with ls:=(jL b.tick b.ls b.ps dr tm rs am).1.1,ps:=(jL b.tick b.ls b.ps dr tm rs am).1.2 },(jL b.tick b.ls b.ps dr tm rs am).2)
noncomputable def draw (l:Lw)(b:Bk)(dr tm rs:BA)(am:Int):Bk × Int:=if jG l b=true then zeC b dr tm rs am else (zaR,1)
theorem zbf.put {ps:List Pu}{dr tm rs:BA}{k:Nat}(h:zbf ps dr tm rs k):putAt ps dr tm rs=k:=by
 unfold putAt
 by_cases hk:k<ps.length
 ·rw[List.findIdx_eq hk]
  refine⟨by simpa using h.above 0 0 k hk (Nat.le_refl _),fun j hj=>?_⟩
  have:=h.below 0 0 j (by omega) hj
  simp only[decide_eq_false_iff_not];omega
 ·have hle:=h.le
  rw[show k=ps.length by omega,List.findIdx_eq_length];intro x hx;obtain⟨j,hj,rfl⟩:=List.mem_iff_getElem.1 hx
  have:=h.below 0 0 j hj (by omega)
  simp only[decide_eq_false_iff_not];omega
theorem zkg {ps:List Pu}(hr:rising yg ps)(dr tm rs:BA):zbf ps dr tm rs (putAt ps dr tm rs):=by
 refine⟨List.findIdx_le_length,fun u v i hi hlt=>?_,fun u v i hi hge=>?_⟩
 ·have h1:¬decide (0<=yg ps[i] ⟨dr,tm,rs,0,0⟩)=true:=by simpa using List.not_of_lt_findIdx hlt
  rw[decide_eq_true_eq]at h1
  show yg ps[i] ⟨dr,tm,rs,0,0⟩<0
  omega
 ·have hk:putAt ps dr tm rs<ps.length:=by omega
  have h1:0<=yg ps[putAt ps dr tm rs] ⟨dr,tm,rs,0,0⟩:=by
   have h2:decide (0<=yg ps[putAt ps dr tm rs] ⟨dr,tm,rs,0,0⟩)=true:=List.findIdx_getElem (w:=hk)
   rwa [decide_eq_true_eq]at h2
  show 0<=yg ps[i] ⟨dr,tm,rs,0,0⟩
  rcases Nat.eq_or_lt_of_le hge with e|hlt
  ·subst e;exact h1
  ·have h2:=zaz (fun a b c=>zan (a:=a) (b:=b) (c:=c)) hr i hi _ hlt
   by_cases h3:yg ps[i] ⟨dr,tm,rs,0,0⟩<0
   ·have:=zan h2 h3;omega
   ·omega
theorem znN {ps:List Pu}{dr tm rs:BA}{k:Nat}(h:zbf ps dr tm rs k)(hr:rising yg ps)(hh:yP ps dr tm rs=true)(hk:k<ps.length)(am un:Int):fill ps dr tm rs am un=ps.set k ⟨dr,tm,rs,ps[k].am+am,un⟩/\(fill ps dr tm rs am un).length=ps.length:=by
 have e1:=h.idx hr hh
 have e2:zeN ps dr tm rs=ps[k].am:=by
  unfold zeN;rw[dif_pos (by rw[e1];exact hk)];simp only[e1]
 have e3:fill ps dr tm rs am un=ps.set k ⟨dr,tm,rs,ps[k].am+am,un⟩:=by
  unfold fill;rw[h.put,e2,if_pos hh,List.set_eq_take_append_cons_drop,if_pos hk]
 exact⟨e3,by rw[e3,List.length_set]⟩
theorem zpO {ps:List Pu}{dr tm rs:BA}{k:Nat}(h:zbf ps dr tm rs k)(hh:yP ps dr tm rs=false)(am un:Int):fill ps dr tm rs am un=ps.take k++⟨dr,tm,rs,am,un⟩ :: ps.drop k/\(fill ps dr tm rs am un).length=ps.length+1:=by
 have e2:zeN ps dr tm rs=0:=by
  unfold zeN;rw[dif_neg (zmg hh).2]
 have e3:fill ps dr tm rs am un=ps.take k++⟨dr,tm,rs,am,un⟩ :: ps.drop k:=by
  unfold fill;rw[h.put,e2,if_neg (by rw[hh];simp),Nat.add_zero,Int.zero_add]
 have hle:=h.le;exact⟨e3,by rw[e3,List.length_append,List.length_take,List.length_cons,List.length_drop];omega⟩
theorem zre {ps:List Pu}{dr tm rs:BA}{am un:Int}{x:Pu}(h:x∈fill ps dr tm rs am un):x∈ps \/ (x.dr=dr/\x.tm=tm/\x.rs=rs):=by
 unfold fill at h
 rcases List.mem_append.1 h with h1|h1
 ·exact Or.inl (List.mem_of_mem_take h1)
 ·rcases List.mem_cons.1 h1 with h2|h2
  ·subst h2;exact Or.inr ⟨rfl,rfl,rfl⟩
  ·exact Or.inl (List.mem_of_mem_drop h2)
theorem zlY (tick:Int)(ls:List Lg)(ps:List Pu)(dr tm rs:BA)(am:Int)(P:(List Lg × List Pu) × Int->Prop)(h0:∀c,c≠0->P ((ls,ps),c))(h1:∀k (hk:k<ls.length) g,g.tm=ls[k].tm->g.rs=ls[k].rs->(fill ps dr tm rs am (tick+10)).length<=24->P ((ls.set k g,fill ps dr tm rs am (tick+10)),0)):P (jL tick ls ps dr tm rs am):=by
 unfold jL
 split
 ·rename_i h
  split
  ·exact h0 3 (by omega)
  ·split
   ·exact h0 4 (by omega)
   ·exact h1 _ h.2 _ rfl rfl (by omega)
 ·exact h0 2 (by omega)
theorem zho {b:Bk}{dr tm rs:BA}{am c:Int}(h:jL b.tick b.ls b.ps dr tm rs am=((b.ls,b.ps),c)):zeC b dr tm rs am=(b,c):=by unfold zeC;rw[h]
theorem zb5 {tick:Int}{ls:List Lg}{ps:List Pu}{dr tm rs:BA}{am:Int}(h:zx dr=false \/ yN ls tm rs=false \/ within am 1 1000000=false):jL tick ls ps dr tm rs am=((ls,ps),2):=by
 unfold jL;refine dif_neg fun h1=>?_
 rcases h with h|h|h
 ·rw[h]at h1;simp at h1
 ·exact(zpP h).2 h1.2
 ·rw[h]at h1;simp at h1
theorem ziz {l:Lw}{b:Bk}(h:jG l b=true):rising yg b.ps:=by
 unfold jG zaI at h;simp only[Bool.and_eq_true]at h;have h1:=h.2.2.2.2.2.1;unfold yY at h1;simp only[Bool.and_eq_true]at h1;exact(zjI _ _).1 h1.2.1
theorem zrf {l:Lw}{b rb:Bk}{rc am:Int}{dr tm rs:BA}(h:draw l b dr tm rs am=(rb,rc))(hf:b.Few):rb.Few:=by
 have e:rb=(draw l b dr tm rs am).1:=by rw[h]
 rw[e];unfold draw
 split
 ·refine zlY b.tick b.ls b.ps dr tm rs am (fun r=>({ b with ls:=r.1.1,ps:=r.1.2 }:Bk).Few) (fun c _=>hf) (fun k hk g _ _ hl=>⟨hf.os,hf.gs,?_,?_⟩)
  ·show(b.ls.set k g).length<=_
   rw[List.length_set];exact hf.ls
  ·show(fill _ _ _ _ _ _).length<=_
   omega
 ·exact⟨⟨Nat.zero_le _,fun i hi=>absurd hi (Nat.not_lt_zero i)⟩,⟨Nat.zero_le _,fun i hi=>absurd hi (Nat.not_lt_zero i)⟩,Nat.zero_le _,Nat.zero_le _⟩
theorem zoJ {l:Lw}{b rb:Bk}{rc am:Int}{dr tm rs:BA}(hd:dr.size<=maxLen)(ht:tm.size<=maxLen)(hr:rs.size<=maxLen)(h:draw l b dr tm rs am=(rb,rc))(hs:b.Small):rb.Small:=by
 have e:rb=(draw l b dr tm rs am).1:=by rw[h]
 rw[e];unfold draw
 split
 ·refine zlY b.tick b.ls b.ps dr tm rs am (fun r=>({ b with ls:=r.1.1,ps:=r.1.2 }:Bk).Small) (fun c _=>hs) (fun k hk g h8 h9 hl=>⟨hs.os,hs.lo,hs.gs,hs.lg,fun i hi=>?_,?_,fun i hi=>?_,?_⟩)
  ·rcases List.mem_or_eq_of_mem_set (List.getElem_mem hi) with h1|h1
   ·obtain⟨z,hz,e9⟩:=List.mem_iff_getElem.1 h1
    exact e9 ▸ hs.ls z hz
   ·have h2:=hs.ls k hk
    rw[h1];exact⟨by rw[h8];exact h2.1,by rw[h9];exact h2.2⟩
  ·show(b.ls.set k g).length<=_
   rw[List.length_set];exact hs.ll
  ·rcases zre (List.getElem_mem hi) with h1|⟨h1,h2,h3⟩
   ·obtain⟨z,hz,e9⟩:=List.mem_iff_getElem.1 h1
    exact e9 ▸ hs.ps z hz
   ·exact⟨by rw[h1];exact hd,by rw[h2];exact ht,by rw[h3];exact hr⟩
  ·show(fill _ _ _ _ _ _).length<=_
   unfold maxLen;omega
 ·refine⟨⟨fun i hi=>absurd hi (Nat.not_lt_zero i)⟩,Nat.zero_le _,⟨fun i hi=>absurd hi (Nat.not_lt_zero i)⟩,Nat.zero_le _,fun i hi=>absurd hi (Nat.not_lt_zero i),Nat.zero_le _,fun i hi=>absurd hi (Nat.not_lt_zero i),Nat.zero_le _⟩
theorem zhe {lo hi R:Nat}{w w4 W:World}{own:Nat->Lb}{b:Bk}{d0 d1 d2 d3:OA}{e0 e1 e2 e3:Nat}{r:Bk × Int}{c:Int}(hr:r=(b,c))(h:BkL lo hi w4 own b d0 d1 d2 d3)(hb:Bw w4 W)(hB:Bw w w4)(hR:R<lo)(hwR:w.heap.size<=R)(v0 v1 v2 v3 v4 v5 v6:Value) :
 zkr w.heap.size (zfa W R v0 v1 v2 v3 v4 v5 v6) (.returned (.tuple #[.agg #[.i b.now,.i b.tick,.i b.given,.l d0 b.os.length e0,.l d1 b.gs.length e1,.l d2 b.ls.length e2,.l d3 b.ps.length e3],.i c])) r/\Bw w (zfa W R v0 v1 v2 v3 v4 v5 v6):=by
 subst hr;exact⟨⟨hi,own,d0,d1,d2,d3,e0,e1,e2,e3,rfl,BkF.low ((BkL.mono h hb).zfa R hR v0 v1 v2 v3 v4 v5 v6) (by omega)⟩,jo (hB.trans (hb.mono hB.size)) R hwR v0 v1 v2 v3 v4 v5 v6⟩
theorem zqa {lo hi R:Nat}{w w3 w4:World}{own:Nat->Lb}{b:Bk}{d0 d1 d2 d3 va:OA}{e0 e1 e2 vc:Nat}{ls:List Lg}{ps:List Pu}{r:Bk × Int}(hr:r=({ b with ls:=ls,ps:=ps },0))(h:BkL lo hi w3 own b d0 d1 d2 d3)(hL:Left (fun q=>(own q).1=2 \/ (own q).1=9) w3 w4)(hl:zdl lo w4 own (.l d2 b.ls.length e2) ls)(hp:w4.ownsRow w3.heap.size 70 5 (.l va ps.length vc) ps.length (ps.flatMap Pu.row))(hB:Bw w w4)(hR:R<lo)(hwR:w.heap.size<=R)(v0 v1 v2 v3 v4 v5 v6:Value) :
 zkr w.heap.size (zfa w4 R v0 v1 v2 v3 v4 v5 v6) (.returned (.tuple #[.agg #[.i b.now,.i b.tick,.i b.given,.l d0 b.os.length e0,.l d1 b.gs.length e1,.l d2 b.ls.length e2,.l va ps.length vc],.i 0])) r/\Bw w (zfa w4 R v0 v1 v2 v3 v4 v5 v6):=by
 subst hr;have hz4:=hL.size;have hle:=h.le;have hhi:=h.hi;obtain⟨own',ho'⟩:∃own':Nat->Lb,own'=fun k=>if k<w3.heap.size then own k else if k<w4.heap.size then (3,0,0) else (9,0,0):=⟨_,rfl⟩
 have hoo:∀k,(own k).1≠9->own' k=own k:=fun k hk=>by
  rw[ho'];exact if_pos (Nat.lt_of_not_le fun h9=>hk (h.out k (Or.inr (by omega))))
 have hP:zcq lo w4 own' (.l va ps.length vc) ps:=⟨zb9 hp (by omega),fun z hz=>by
  have h8:=hp.lt z hz;rw[ho']
  show(if _ then _ else _:Lb)=_
  rw[if_neg (by omega),if_pos h8.2]⟩
 obtain⟨a',c',he,hps⟩:=hP.lie;simp only[Value.slice.injEq]at he;obtain⟨rfl,_,rfl⟩:=he;obtain⟨a'',c'',he,hls⟩:=hl.lie;simp only[Value.slice.injEq]at he;obtain⟨rfl,hll,rfl⟩:=he
 have hN:BkL lo w4.heap.size w4 own' { b with ls:=ls,ps:=ps } d0 d1 d2 va:=by
  refine⟨(h.os.left hL (fun k h1 h2=>by omega)).own (fun k _ h=>hoo k (by omega)),(h.gs.left hL (fun k h1 h2=>by omega)).own (fun k _ h=>hoo k (by omega)),hls.own (fun k _ h=>hoo k (by omega)),hps,fun k hk=>?_,by omega,Nat.le_refl _⟩;rw[ho']
  show(if _ then _ else _:Lb).1=_
  rcases hk with hk|hk
  ·rw[if_pos (by omega)];exact h.out k (Or.inl hk)
  ·rw[if_neg (by omega),if_neg (by omega)]
 exact⟨⟨w4.heap.size,own',d0,d1,d2,va,e0,e1,e2,vc,by unfold Bk.cells;simp only[<- hll],BkF.low (hN.zfa R hR v0 v1 v2 v3 v4 v5 v6) (by omega)⟩,jo hB R hwR v0 v1 v2 v3 v4 v5 v6⟩
theorem znc (b:Bk)(a0 a1 a2 a3:OA)(c0 c1 c2 c3:Nat)(dr tm rs:BA)(w:World)(hb:zaP w a3 b.ps)(hl:b.ps.length<=1048576) :
 Calls Tryz.prog 27 #[.agg (b.cells a0 a1 a2 a3 c0 c1 c2 c3),.s dr,.s tm,.s rs] w fun e w'=>e=.returned (.i (zbZ (zcB dr tm rs) b.ps))/\Bw w w':=by
 have HK:=hid hb;clear hb;unfold Bk.cells;go_enter Tryz.func27,Tryz.ntmps27;go_wp2_with fail
 have hX0:=zl w (bC b a0 a1 a2 a3 c0 c1 c2 c3) 40;have HB0:=hid ((bRf w.heap.size w).alloc (Nat.le_refl _) (.cells (bC b a0 a1 a2 a3 c0 c1 c2 c3) 40));obtain⟨W0,hW0⟩:=nm (w.alloc (.cells (bC b a0 a1 a2 a3 c0 c1 c2 c3) 40));have hz0:w.heap.size<W0.heap.size:=by rw[hW0];simp
 rw[<- hW0]at HB0 hX0 ⊢;clear hW0
 go_loopw [9] (fun iv wr=>∃k:Nat,k<=b.ps.length/\iv=.i k/\Hid (∀i (hi:i<b.ps.length),i<k->zcB dr tm rs b.ps[i]=false)/\wr=W0) (fun iv _=>b.ps.length-(intOf iv).toNat)
 case atStart=>exact⟨0,Nat.zero_le _,rfl,fun i hi h=>by omega,rfl⟩
 case round=>
  obtain⟨k,hk,rfl,HQ,rfl⟩:=hrel;have hkn:k<=1048576:=by omega
  by_cases hlt:k<b.ps.length
  ·obtain⟨ob,off,rfl,hob,d0,d1,d2,d3,d4⟩:=HK.o.load HB0.o k hlt
   have hltI:(k:Int)<(b.ps.length:Int):=by omega
   clear d3 d4
   have hno:∀h:zcB dr tm rs b.ps[k]=false,Hid (∀i (hi:i<b.ps.length),i<k+1->zcB dr tm rs b.ps[i]=false):=by
    intro h0 i hi h
    rcases Nat.eq_or_lt_of_le (Nat.le_of_lt_succ h) with e|h'
    ·subst e;exact h0
    ·exact HQ.o i hi h'
   have HNO:=hid hno;clear hno
   by_cases h1:b.ps[k].dr=dr
   ·have e1:(b.ps[k].dr.toList == dr.toList)=true:=by rw[beq_toList];simpa using h1
    by_cases h2:b.ps[k].tm=tm
    ·have e2:(b.ps[k].tm.toList == tm.toList)=true:=by rw[beq_toList];simpa using h2
     by_cases h3:b.ps[k].rs=rs
     ·have e3:(b.ps[k].rs.toList == rs.toList)=true:=by rw[beq_toList];simpa using h3
      have HF:Hid (zbZ (zcB dr tm rs) b.ps=k):=zl4 hlt HQ.o (by unfold zcB;simp[h1,h2,h3]);clear h1 h2 h3 HNO;go_wp2_with fail
      go_ret;exact⟨zq HF.o.symm,HB0.o⟩
     ·have e3:(b.ps[k].rs.toList == rs.toList)=false:=by rw[beq_toList];simpa using h3
      have HN:=HNO.o (by unfold zcB;simp[h3]);clear h1 h2 h3 HNO;go_wp2_with fail
      exact⟨⟨k+1,by omega,by go_num,HN.o,trivial⟩,zn hlt⟩
    ·have e2:(b.ps[k].tm.toList == tm.toList)=false:=by rw[beq_toList];simpa using h2
     have HN:=HNO.o (by unfold zcB;simp[h2]);clear h1 h2 HNO;go_wp2_with fail
     exact⟨⟨k+1,by omega,by go_num,HN.o,trivial⟩,zn hlt⟩
   ·have e1:(b.ps[k].dr.toList == dr.toList)=false:=by rw[beq_toList];simpa using h1
    have HN:=HNO.o (by unfold zcB;simp[h1]);clear h1 HNO;go_wp2_with fail
    exact⟨⟨k+1,by omega,by go_num,HN.o,trivial⟩,zn hlt⟩
  ·have HF:Hid (zbZ (zcB dr tm rs) b.ps=-1):=zh3 fun i hi=>HQ.o i hi (by omega)
   clear HQ;go_wp2_with fail
   go_ret;exact⟨zq HF.o.symm,HB0.o⟩
noncomputable def zkb (ps:List Pu)(p:Pu):List Pu:=ps.take (putAt ps p.dr p.tm p.rs)++p :: ps.drop (putAt ps p.dr p.tm p.rs+if yP ps p.dr p.tm p.rs=true then 1 else 0)
theorem zqR (ps:List Pu)(dr tm rs:BA)(am un:Int):fill ps dr tm rs am un=zkb ps ⟨dr,tm,rs,zeN ps dr tm rs+am,un⟩:=rfl
noncomputable def zbH (ps:List Pu)(p:Pu)(j:Nat):List Pu:=if j<=putAt ps p.dr p.tm p.rs then ps.take j else ps.take (putAt ps p.dr p.tm p.rs)++p :: (ps.take j).drop (putAt ps p.dr p.tm p.rs+if yP ps p.dr p.tm p.rs=true then 1 else 0)
theorem zrD {ps:List Pu}(hr:rising yg ps)(p:Pu)(j:Nat)(hj:j<ps.length):(j<putAt ps p.dr p.tm p.rs->yg ps[j] p<0)/\(j=putAt ps p.dr p.tm p.rs->yP ps p.dr p.tm p.rs=true->yg ps[j] p=0)/\(j=putAt ps p.dr p.tm p.rs->yP ps p.dr p.tm p.rs=false->0<yg ps[j] p)/\(putAt ps p.dr p.tm p.rs<j->0<yg ps[j] p):=by
 have h:=zkg hr p.dr p.tm p.rs;have hge:putAt ps p.dr p.tm p.rs<=j->0<=yg ps[j] p:=fun hk=>h.above 0 0 j hj hk
 refine⟨fun hlt=>h.below 0 0 j hj hlt,fun e hh=>?_,fun e hh=>?_,fun hlt=>?_⟩
 ·obtain⟨hk,h1⟩:=(h.found hr).1 hh
  rw[zbV];subst e;exact h1
 ·have h1:=hge (by omega)
  have h2:yg ps[j] p≠0:=fun e0=>by
   have h3:yP ps p.dr p.tm p.rs=true:=(h.found hr).2 ⟨e ▸ hj,by subst e;exact zbV.1 e0⟩;rw[hh]at h3;cases h3
  omega
 ·have h1:=hge (by omega)
  have h2:yg ps[j] p≠0:=fun e0=>by
   have h3:=zaz (fun a b c=>zan (a:=a) (b:=b) (c:=c)) hr j hj _ hlt;have h4:0<=yg (ps[putAt ps p.dr p.tm p.rs]'(by omega)) p:=h.above 0 0 _ (by omega) (Nat.le_refl _);have e1:=zbV.1 e0;have e2:yg (ps[putAt ps p.dr p.tm p.rs]'(by omega)) ps[j]=yg (ps[putAt ps p.dr p.tm p.rs]'(by omega)) p:=by unfold yg;rw[e1.1,e1.2.1,e1.2.2]
   omega
  omega
theorem zcT {ps:List Pu}{p:Pu}{j:Nat}(h:j<=putAt ps p.dr p.tm p.rs):zbH ps p j=ps.take j:=if_pos h
theorem zcX {ps:List Pu}{p:Pu}{j:Nat}(h:putAt ps p.dr p.tm p.rs<j):zbH ps p j=ps.take (putAt ps p.dr p.tm p.rs)++p :: (ps.take j).drop (putAt ps p.dr p.tm p.rs+if yP ps p.dr p.tm p.rs=true then 1 else 0):=if_neg (by omega)
theorem zmQ {ps:List Pu}{p:Pu}{j:Nat}(hj:j<ps.length)(h:j<putAt ps p.dr p.tm p.rs):zbH ps p (j+1)=zbH ps p j++[ps[j]]:=by
 rw[zcT h,zcT (by omega),tSe hj]
theorem zqv {ps:List Pu}{p:Pu}{j:Nat}(h:j=putAt ps p.dr p.tm p.rs)(hh:yP ps p.dr p.tm p.rs=true):zbH ps p (j+1)=zbH ps p j++[p]:=by
 rw[zcX (by omega),zcT (by omega),if_pos hh,List.drop_eq_nil_of_le (by rw[List.length_take];omega),h]
theorem zqS {ps:List Pu}{p:Pu}{j:Nat}(hj:j<ps.length)(h:j=putAt ps p.dr p.tm p.rs)(hh:yP ps p.dr p.tm p.rs=false):zbH ps p (j+1)=zbH ps p j++[p]++[ps[j]]:=by
 rw[zcX (by omega),zcT (by omega),if_neg (by rw[hh];simp),Nat.add_zero,<- h,tSe hj,List.drop_append,List.drop_eq_nil_of_le (by rw[List.length_take];omega),List.length_take,Nat.min_eq_left (by omega),Nat.sub_self]
 simp
theorem zm6 {ps:List Pu}{p:Pu}{j:Nat}(hj:j<ps.length)(h:putAt ps p.dr p.tm p.rs<j):zbH ps p (j+1)=zbH ps p j++[ps[j]]:=by
 rw[zcX (by omega),zcX h,tSe hj,List.drop_append_of_le_length (by rw[List.length_take];split <;> omega),List.append_assoc]
 rfl
theorem zp8 {ps:List Pu}{p:Pu}(h:putAt ps p.dr p.tm p.rs<ps.length):zbH ps p ps.length=zkb ps p:=by
 rw[zcX h,List.take_length];rfl
theorem zqA {ps:List Pu}{p:Pu}(h:¬putAt ps p.dr p.tm p.rs<ps.length):zkb ps p=zbH ps p ps.length++[p]:=by
 rw[zcT (by omega),List.take_length];unfold zkb;rw[tOl (by omega),List.drop_eq_nil_of_le (by omega)]
theorem zmI {ps:List Pu}{p:Pu}{j:Nat}:(zbH ps p j).length<=ps.length+1:=by
 unfold zbH
 split
 ·rw[List.length_take];omega
 ·rw[List.length_append,List.length_take,List.length_cons,List.length_drop,List.length_take];split <;> omega
theorem zcR (w:World)(p:Pu)(t:TypeId):∀j u,p.row[j]?=some u->(w.alloc (.cells #[.s p.dr,.s p.tm,.s p.rs,.i p.am,.i p.un] t)).cell? (((aD w.heap.size 0):Addr).add j)=some u:=zfh w p.row t
theorem zpe {w w1:World}{v:Value}{o:Obj}{b:Nat}(hg:(w.alloc o).grownBy w1 v.ownBlock)(hb:b<w.heap.size)(hn:∀q,v.ownBlock=some q->q≠b)(j:Nat):w1.cell? (aD b j)=w.cell? (aD b j):=World.cell?_of_block ((hg.block b (by simp;omega) (fun e=>hn b e.symm rfl)).trans ((MapKept.heap_alloc w o).2 b hb))
theorem za0 {B:Nat}{w0 w w1:World}{v:Value}{o:Obj}(h:Below B w0 w)(hB:B<=w.heap.size)(hg:(w.alloc o).grownBy w1 v.ownBlock)(hr:∀k,v.ownBlock=some k->B<=k):Below B w0 w1:=(h.alloc hB _).grown hg (by simp;omega) hr
set_option maxRecDepth 20000 in
theorem zp6 (a:OA)(cap:Nat)(ps:List Pu)(p:Pu)(w:World)(hw:zaP w a ps)(hl:ps.length<=24)(hr:rising yg ps) :
 Calls Tryz.prog 28 #[.l a ps.length cap,.agg #[.s p.dr,.s p.tm,.s p.rs,.i p.am,.i p.un]] w fun e w'=>∃v,e=.returned v/\w'.ownsRow w.heap.size 70 5 v (zkb ps p).length ((zkb ps p).flatMap Pu.row)/\Bw w w':=by
 obtain⟨i0,hi,hzi,hz1',hz2'⟩:=info_parts Tryz.zgb;have HI:=zbT hi hzi hz1' hz2';have HK:=yU hw hr;clear hw hr hi hzi hz1' hz2';go_enter Tryz.func28,Tryz.ntmps28;go_wp2_with fail
 obtain⟨hA,hC⟩:=zS w (.cells #[.s p.dr,.s p.tm,.s p.rs,.i p.am,.i p.un] 70) (.cells #[] 70);have HB0:=hid (zw w (.cells #[.s p.dr,.s p.tm,.s p.rs,.i p.am,.i p.un] 70) (.cells #[] 70));obtain⟨W0,hW0⟩:=nm ((w.alloc (.cells #[.s p.dr,.s p.tm,.s p.rs,.i p.am,.i p.un] 70)).alloc (.cells #[] 70));have hz0:w.heap.size+1<W0.heap.size:=by rw[hW0];simp
 rw[<- hW0]at HB0 hA hC ⊢;clear hW0;have hX0:=zae hA;have HR0:Hid (W0.ownsRow (w.heap.size+1) 70 5 (.l (some (aD (w.heap.size+1) 0)) 0 0) 0 []):=⟨rfl,.inr ⟨w.heap.size+1,0,#[],rfl,Nat.le_refl _,hC,Nat.le_refl _,by simp[maxLen],rfl,rfl⟩⟩
 clear hA hC
 go_loopw [5,6,7] (fun v0 d0 iv wr=>∃(k:Nat) (v:Value),v=v0/\k<=ps.length/\d0=.bool (decide (putAt ps p.dr p.tm p.rs<k))/\iv=.i k/\Hid (wr.ownsRow (w.heap.size+1) 70 5 v (zbH ps p k).length ((zbH ps p k).flatMap Pu.row)/\Below (w.heap.size+1) W0 wr)) (fun _ _ iv _=>ps.length-(intOf iv).toNat)
 case atStart=>exact⟨0,_,rfl,Nat.zero_le _,rfl,rfl,by rw[zcT (Nat.zero_le _),List.take_zero];exact HR0.o,bRf _ _⟩
 case round=>
  obtain⟨k,v,hv,hk,rfl,rfl,HQ⟩:=hrel;subst hv;have HBr:Hid (Bw w wr):=HB0.o.trans (HQ.o.2.mono (by have:=HB0.o.size;omega));have hX1:∀j,wr.cell? (aD w.heap.size j)=(#[.s p.dr,.s p.tm,.s p.rs,.i p.am,.i p.un]:AV)[j]?:=fun j=>(HQ.o.2.cell (p:=(aD w.heap.size j)) (by show w.heap.size<_;omega)).trans (hX0 j)
  have hz1:w.heap.size<wr.heap.size:=by have:=HQ.o.2.size;omega
  have HLL:Hid ((zbH ps p k).length<=25):=by have:=zmI (ps:=ps) (p:=p) (j:=k);show _<=_;omega
  by_cases hlt:k<ps.length
  ·obtain⟨b,off,rfl,hb,d0,d1,d2,d3,d4⟩:=HK.o.1.load HBr.o k hlt
   have hb':b<wr.heap.size:=nLt hb HBr.o.size;have hltI:(k:Int)<(ps.length:Int):=by omega
   have HS:Hid (∀W,Bw wr W->(∀j,W.cell? (aD w.heap.size j)=(#[.s p.dr,.s p.tm,.s p.rs,.i p.am,.i p.un]:AV)[j]?)/\W.cell? (aD b (off+k*5))=some (.s ps[k].dr)/\W.cell? (aD b (off+k*5+1))=some (.s ps[k].tm)/\W.cell? (aD b (off+k*5+2))=some (.s ps[k].rs)/\W.cell? (aD b (off+k*5+3))=some (.i ps[k].am)/\W.cell? (aD b (off+k*5+4))=some (.i ps[k].un)):=fun W hW=>⟨za hX1 hz1 hW,(hW.cell (p:=(aD b _)) hb').trans d0,(hW.cell (p:=(aD b _)) hb').trans d1,(hW.cell (p:=(aD b _)) hb').trans d2,(hW.cell (p:=(aD b _)) hb').trans d3,(hW.cell (p:=(aD b _)) hb').trans d4⟩
   have hBd:=(bRf wr.heap.size wr).drew;have hS:=HS.o wr.drew hBd;clear d0 d1 d2 d3 d4 hX1;go_wp2_with fail
   go_region_held3 (fun w'=>(∀j,w'.cell? (aD w.heap.size j)=(#[.s p.dr,.s p.tm,.s p.rs,.i p.am,.i p.un]:AV)[j]?)/\w'.cell? (aD b (off+k*5))=some (.s ps[k].dr)/\w'.cell? (aD b (off+k*5+1))=some (.s ps[k].tm)/\w'.cell? (aD b (off+k*5+2))=some (.s ps[k].rs)/\w'.cell? (aD b (off+k*5+3))=some (.i ps[k].am)/\w'.cell? (aD b (off+k*5+4))=some (.i ps[k].un)) (exact hS) (first|(go_at_call 71;refine(zff ps[k] p _).mono ?_;rintro e w2⟨rfl,hb2⟩;have hBd:=hBd.trans (hb2.mono hBd.size);have hS:=HS.o w2 hBd;clear hb2))
   have HOw2:=hid (yE HQ.o.1 hBd);have HB2:=hid (HQ.o.2.trans (hBd.mono (by have:=HQ.o.2.size;omega)));have HLOw2:Hid (w.heap.size+1<=w2.heap.size):=by have:=hBd.size;show _<=_;omega
   obtain⟨c0,c1,c2,c3,c4,c5⟩:=hS;have hz2:w.heap.size<w2.heap.size:=by have:=HLOw2.o;omega
   have hb2':b<w2.heap.size:=nLt hb' hBd.size;have hgb:∀(u:Value) (W:World) (n:Nat) (xs:List Value),W.ownsRow (w.heap.size+1) 70 5 u n xs->∀g',u.ownBlock=some g'->w.heap.size+1<=g':=fun u W n xs h g' hg'=>(h.lt g' hg').1
   have HGB:=hid hgb;have HNB:Hid (∀q,v.ownBlock=some q->q≠b):=fun q hq=>by have:=HGB.o _ _ _ _ HOw2.o q hq;omega
   obtain⟨q1,q2,q3,q4⟩:=zrD HK.o.2 p k hlt;clear hBd HS hgb
   rcases Nat.lt_trichotomy k (putAt ps p.dr p.tm p.rs) with h1|h1|h1
   ·have hdn:decide (putAt ps p.dr p.tm p.rs<k)=false:=decide_eq_false (by omega)
    have hge:decide (0<=yg ps[k] p)=false:=decide_eq_false (by have:=q1 h1;omega);have hne:(yg ps[k] p != 0)=true:=by have:=q1 h1;simp;omega
    have HE:=yU (zmQ hlt h1) h1;rw[hdn];clear q1 q2 q3 q4 h1 hdn
    go_wp2_with (at_builtin;refine wpList_append_own _ rfl (.tmp 34) (.tmp 39) 38 rfl (w.heap.size+1) 70 i0 (.agg #[.s ByteArray.empty,.s ByteArray.empty,.s ByteArray.empty,.i 0,.i 0]) 5 64 Tryz.underlying38 HI.o.1 HI.o.2.1 HI.o.2.2.1 HI.o.2.2.2 rfl (by decide) _ _ _ rfl (HOw2.o.alloc _) (aD w2.heap.size 0) 1 1 ps[k].row rfl rfl (zcR _ _ _) (fun u hu=>zbF (xs:=[ps[k]]) u (by simpa using hu)) (by have:=HLL.o;unfold maxLen;omega) (by have:=HLL.o;omega) (by have:=HLOw2.o;simp;omega) ?_;intro v4 w4 ho4 hg4 _)
    refine⟨⟨k+1,_,rfl,by omega,by rw[decide_eq_false (by have:=HE.o.2;omega)],by go_num,?_,za0 HB2.o HLOw2.o hg4 (HGB.o _ _ _ _ HOw2.o)⟩,zn hlt⟩;rw[HE.o.1,List.length_append,List.flatMap_append]
    simpa using ho4
   ·have hdn:decide (putAt ps p.dr p.tm p.rs<k)=false:=decide_eq_false (by omega)
    rw[hdn]
    by_cases hh:yP ps p.dr p.tm p.rs=true
    ·have hk0:=q2 h1 hh
     have hge:decide (0<=yg ps[k] p)=true:=decide_eq_true (by omega);have hne:(yg ps[k] p != 0)=false:=by simp[hk0]
     have HE:=yU (zqv h1 hh) h1;clear q1 q2 q3 q4 h1 hdn hk0 hh
     go_wp2_with (at_builtin;refine wpList_append_own _ rfl (.tmp 28) (.tmp 30) 38 rfl (w.heap.size+1) 70 i0 (.agg #[.s ByteArray.empty,.s ByteArray.empty,.s ByteArray.empty,.i 0,.i 0]) 5 64 Tryz.underlying38 HI.o.1 HI.o.2.1 HI.o.2.2.1 HI.o.2.2.2 rfl (by decide) _ _ _ rfl (HOw2.o.alloc _) (aD w2.heap.size 0) 1 1 p.row rfl rfl (zcR _ _ _) (fun u hu=>zbF (xs:=[p]) u (by simpa using hu)) (by have:=HLL.o;unfold maxLen;omega) (by have:=HLL.o;omega) (by have:=HLOw2.o;simp;omega) ?_;intro v4 w4 ho4 hg4 _)
     refine⟨⟨k+1,_,rfl,by omega,by rw[decide_eq_true (by have:=HE.o.2;omega)],by go_num,?_,za0 HB2.o HLOw2.o hg4 (HGB.o _ _ _ _ HOw2.o)⟩,zn hlt⟩;rw[HE.o.1,List.length_append,List.flatMap_append]
     simpa using ho4
    ·have hno:yP ps p.dr p.tm p.rs=false:=bFi hh
     have hk0:=q3 h1 hno;have hge:decide (0<=yg ps[k] p)=true:=decide_eq_true (by omega);have hne:(yg ps[k] p != 0)=true:=by simp;omega
     have HE:=yU (zqS hlt h1 hno) h1;clear q1 q2 q3 q4 h1 hdn hk0 hh hno
     go_wp2_with (first|(at_builtin;refine wpList_append_own _ rfl (.tmp 28) (.tmp 30) 38 rfl (w.heap.size+1) 70 i0 (.agg #[.s ByteArray.empty,.s ByteArray.empty,.s ByteArray.empty,.i 0,.i 0]) 5 64 Tryz.underlying38 HI.o.1 HI.o.2.1 HI.o.2.2.1 HI.o.2.2.2 rfl (by decide) _ _ _ rfl (HOw2.o.alloc _) (aD w2.heap.size 0) 1 1 p.row rfl rfl (zcR _ _ _) (fun u hu=>zbF (xs:=[p]) u (by simpa using hu)) (by have:=HLL.o;unfold maxLen;omega) (by have:=HLL.o;omega) (by have:=HLOw2.o;simp;omega) ?_;intro v4 w4 ho4 hg4 _;have cc:=zpe hg4 hb2' HNB.o;have c1:=(cc _).trans c1;have c2:=(cc _).trans c2;have c3:=(cc _).trans c3;have c4:=(cc _).trans c4;have c5:=(cc _).trans c5;have hb2':b<w4.heap.size:=by have:=hg4.size;simp at this;omega)|(at_builtin;refine zcn ?_))
     have hz4:=hg4.size;have HOw4:=hid ho4;have HLOw4:Hid (w.heap.size+1<=w4.heap.size):=by have:=HLOw2.o;simp at hz4;show _<=_;omega
     have HB4:=hid (za0 HB2.o HLOw2.o hg4 (HGB.o _ _ _ _ HOw2.o));clear cc hg4 ho4;refine wpList_append_own _ rfl (.tmp 34) (.tmp 39) 38 rfl (w.heap.size+1) 70 i0 (.agg #[.s ByteArray.empty,.s ByteArray.empty,.s ByteArray.empty,.i 0,.i 0]) 5 64 Tryz.underlying38 HI.o.1 HI.o.2.1 HI.o.2.2.1 HI.o.2.2.2 rfl (by decide) _ _ _ rfl (HOw4.o.alloc _) (aD w4.heap.size 0) 1 1 ps[k].row rfl rfl (zcR _ _ _) (fun u hu=>zbF (xs:=[ps[k]]) u (by simpa using hu)) (by have:=HLL.o;unfold maxLen;omega) (by have:=HLL.o;omega) (by have:=HLOw4.o;simp;omega) ?_;intro v5 w5 ho5 hg5 _;go_wp2_with fail
     refine⟨⟨k+1,_,rfl,by omega,by rw[decide_eq_true (by have:=HE.o.2;omega)],by go_num,?_,za0 HB4.o HLOw4.o hg5 (HGB.o _ _ _ _ HOw4.o)⟩,zn hlt⟩;rw[HE.o.1,List.length_append,List.length_append,List.flatMap_append,List.flatMap_append]
     simpa using ho5
   ·have hdn:decide (putAt ps p.dr p.tm p.rs<k)=true:=decide_eq_true h1
    have hne:(yg ps[k] p != 0)=true:=by have:=q4 h1;simp;omega
    have HE:=yU (zm6 hlt h1) h1;rw[hdn];clear q1 q2 q3 q4 h1 hdn
    go_wp2_with (at_builtin;refine wpList_append_own _ rfl (.tmp 34) (.tmp 39) 38 rfl (w.heap.size+1) 70 i0 (.agg #[.s ByteArray.empty,.s ByteArray.empty,.s ByteArray.empty,.i 0,.i 0]) 5 64 Tryz.underlying38 HI.o.1 HI.o.2.1 HI.o.2.2.1 HI.o.2.2.2 rfl (by decide) _ _ _ rfl (HOw2.o.alloc _) (aD w2.heap.size 0) 1 1 ps[k].row rfl rfl (zcR _ _ _) (fun u hu=>zbF (xs:=[ps[k]]) u (by simpa using hu)) (by have:=HLL.o;unfold maxLen;omega) (by have:=HLL.o;omega) (by have:=HLOw2.o;simp;omega) ?_;intro v4 w4 ho4 hg4 _)
    refine⟨⟨k+1,_,rfl,by omega,by rw[decide_eq_true (by have:=HE.o.2;omega)],by go_num,?_,za0 HB2.o HLOw2.o hg4 (HGB.o _ _ _ _ HOw2.o)⟩,zn hlt⟩;rw[HE.o.1,List.length_append,List.flatMap_append]
    simpa using ho4
  ·have e:k=ps.length:=by omega
   subst e;have HOw:Hid (wr.ownsRow (w.heap.size+1) 70 5 v (zbH ps p ps.length).length ((zbH ps p ps.length).flatMap Pu.row)):=HQ.o.1;have HLOw:Hid (w.heap.size+1<=wr.heap.size):=by have:=HQ.o.2.size;show _<=_;omega
   by_cases hd:putAt ps p.dr p.tm p.rs<ps.length
   ·have HE:=hid (zp8 hd)
    rw[decide_eq_true hd];clear hd;go_wp2_with fail
    go_ret;refine⟨v,rfl,?_,HBr.o⟩;rw[<- HE.o];exact zb9 HOw.o (by omega)
   ·have HE:=hid (zqA hd)
    rw[decide_eq_false hd];clear hd
    go_wp2_with (at_builtin;refine wpList_append_own _ rfl (.tmp 43) (.tmp 45) 38 rfl (w.heap.size+1) 70 i0 (.agg #[.s ByteArray.empty,.s ByteArray.empty,.s ByteArray.empty,.i 0,.i 0]) 5 64 Tryz.underlying38 HI.o.1 HI.o.2.1 HI.o.2.2.1 HI.o.2.2.2 rfl (by decide) _ _ _ rfl (HOw.o.alloc _) (aD wr.heap.size 0) 1 1 p.row rfl rfl (zcR _ _ _) (fun u hu=>zbF (xs:=[p]) u (by simpa using hu)) (by have:=HLL.o;unfold maxLen;omega) (by have:=HLL.o;omega) (by have:=HLOw.o;simp;omega) ?_;intro v4 w4 ho4 hg4 _)
    go_ret;refine⟨v4,rfl,?_,za0 HBr.o (by omega) hg4 (fun q hq=>by have:=(HOw.o.lt q hq).1;omega)⟩;rw[HE.o,List.length_append,List.flatMap_append];refine zb9 (lo:=w.heap.size+1) ?_ (by omega)
    simpa using ho4
theorem ziR (lo:Nat)(own:Nat->Lb)(a:OA)(cap:Nat)(ps:List Pu)(w:World)(h:zcq lo w own (.l a ps.length cap) ps)(hl:ps.length<=1000) :
 Calls Tryz.prog 135 #[.l a ps.length cap] w fun e w'=>∃v,e=.returned v/\w'.ownsRow w.heap.size 70 5 v ps.length (ps.flatMap Pu.row)/\Bw w w':=by
 obtain⟨i3,hi3,hzi3,hsi3,hbi3⟩:=info_parts Tryz.zgb;have HO:=hid h.1
 rcases h.1 with⟨_,⟨h3,h0⟩|⟨g,cap',cur,h3,_,hg,hnc,hmx,hs,ht⟩⟩
 ·have e0:ps=[]:=List.length_eq_zero_iff.1 h0
  subst e0
  cases h3
  have hq:∀w,(binOp .eql 38 (.l none 0 0) (.l none 0 0)).run Tryz.prog w=.ok (.bool true) w:=fun w=>Lib.run_eql_slice_nil w _ 70 none 0 0 0 0 Tryz.underlying38
  clear h;go_enter Tryz.func135,Tryz.ntmps135;go_wp2_with fail
  go_ret;exact⟨_,rfl,World.ownsRow_nil _ _ _ _,bRf _ _⟩
 ·cases h3
  have hc:=zqm HO.o;have hgw:g<w.heap.size:=(gES hg).1;have hBa:Bw w (w.alloc (.cells #[] 70)):=bAl _ _
  have HC:Hid (∀j u,(ps.flatMap Pu.row)[j]?=some u->(w.alloc (.cells #[] 70)).cell? (((aD g 0):Addr).add j)=some u):=fun j u hj=>by
   rw[Addr.add_mid,Nat.zero_add];exact(hBa.cell (p:=(aD g j)) hgw).trans (hc j u hj)
  have hN:(w.alloc (.cells #[] 70)).heap[w.heap.size]?=some (.cells #[] 70):=(MapKept.heap_alloc w _).1;have HBa:=yU hBa hN;have hq:∀w,(binOp .eql 38 (.l (some (aD g 0)) ps.length cap) (.l none 0 0)).run Tryz.prog w=.ok (.bool false) w:=fun w=>Lib.run_eql_slice_nil w _ 70 (some (aD g 0)) ps.length cap 0 0 Tryz.underlying38
  clear h hc hs ht hg hmx hBa hN;go_enter Tryz.func135,Tryz.ntmps135
  go_wp2_with (at_builtin;refine wpList_append_own _ rfl (.tmp 5) (.tmp 6) 38 rfl w.heap.size 70 i3 (.agg #[.s ByteArray.empty,.s ByteArray.empty,.s ByteArray.empty,.i 0,.i 0]) 5 64 Tryz.underlying38 hi3 hzi3 hsi3 hbi3 rfl (by decide) (.l (some (aD w.heap.size 0)) 0 0) 0 [] rfl ⟨rfl,Or.inr ⟨w.heap.size,0,#[],rfl,Nat.le_refl _,HBa.o.2,Nat.le_refl _,by simp[maxLen],rfl,rfl⟩⟩ (aD g 0) ps.length cap (ps.flatMap Pu.row) rfl (by rw[zbN Pu.row 5 (fun _=>rfl)]) HC.o zbF (by unfold maxLen;omega) (by omega) (by simp) ?_;intro v' w1 hown hgr _;have HR:=yU hown hgr;clear hown hgr)
  go_ret;have hR:=HR.o;rw[Nat.zero_add,List.nil_append]at hR;exact⟨v',rfl,hR.1,HBa.o.1.grown hR.2 (by simp) (fun z hz=>by have:=Option.some.inj (show some w.heap.size=some z from hz);omega)⟩
theorem zpH {lo:Nat}{w:World}{g cap k:Nat}{qs:List Pu}(h:w.ownsRow lo 70 5 (.l (some (aD g 0)) qs.length cap) qs.length (qs.flatMap Pu.row))(hk:k<qs.length)(x y:Int) :
 ((w.setCell (aD g (k*5+3)) (.i x)).setCell (aD g (k*5+4)) (.i y)).ownsRow lo 70 5 (.l (some (aD g 0)) qs.length cap) qs.length ((qs.set k ⟨qs[k].dr,qs[k].tm,qs[k].rs,x,y⟩).flatMap Pu.row):=by
 have h2:=zjt (zjt h (k*5+3) (.i x)) (k*5+4) (.i y);have e1:=ze0 Pu.row 5 (fun _=>rfl) qs k hk 3 (.i x) ⟨qs[k].dr,qs[k].tm,qs[k].rs,x,qs[k].un⟩ (by omega) rfl;have e2:=ze0 Pu.row 5 (fun _=>rfl) (qs.set k ⟨qs[k].dr,qs[k].tm,qs[k].rs,x,qs[k].un⟩) k (by simpa using hk) 4 (.i y) ⟨qs[k].dr,qs[k].tm,qs[k].rs,x,y⟩ (by omega) (by rw[List.getElem_set_self];rfl);rw[List.set_set]at e2;rw[e2,e1];exact h2
set_option maxRecDepth 20000 in
theorem zia (lo:Nat)(own:Nat->Lb)(a:OA)(cap:Nat)(ps:List Pu)(dr tm rs:BA)(am un:Int)(w:World)(h:zcq lo w own (.l a ps.length cap) ps)(hl:ps.length<=1000)(hr:rising yg ps)(hs:∀i (h:i<ps.length),ps[i].Small)(ha:∀p∈ps,1<=p.am/\p.am<=1000000)(hm:1<=am/\am<=1000000) :
 Calls Tryz.prog 89 #[.l a ps.length cap,.s dr,qC tm rs,.i am,.i un] w fun e w'=>∃v,e=.returned v/\w'.ownsRow w.heap.size 70 5 v (fill ps dr tm rs am un).length ((fill ps dr tm rs am un).flatMap Pu.row)/\Bw w w':=by
 have HS:=zbT hs hr ha hm;unfold qC;have k0:=alloc_at w (.cells #[.s tm,.s rs] 82);have hB0:=(bRf w.heap.size w).alloc (Nat.le_refl _) (.cells #[.s tm,.s rs] 82);obtain⟨W0,hW0⟩:=nm (w.alloc (.cells #[.s tm,.s rs] 82));have hz0:W0.heap.size=w.heap.size+1:=by rw[hW0];simp
 go_enter Tryz.func89,Tryz.ntmps89;go_wp2_with fail
 rw[<- hW0]at k0 hB0 ⊢;clear hW0;refine(ziR lo own a cap ps W0 (h.left (Left.of_below (fun _=>False) hB0) (fun _ _ h=>h)) hl).mono ?_;rintro e w1⟨v1,rfl,ho1,hb1⟩;obtain⟨a1,c1,rfl⟩:=jc ho1;have k1:=(hb1.block _ (by omega)).trans k0;have hz1:=hb1.size;have cF:=fun j=>cell_of_block (o:=j) k1
 have hzF:w.heap.size<w1.heap.size:=by omega
 have HB1:=hid (hB0.trans (hb1.mono hB0.size));have HO1:=hid ho1;clear h hb1 hB0 k0 ho1 hs hr ha hm;go_wp2_with fail
 have hP1:zaP w1 a1 ps:=by
  obtain⟨a',c',he,hp⟩:=zcq.lie (own:=fun _=>(3,0,0)) ⟨HO1.o,fun _ _=>rfl⟩
  cases he
  exact hp.at HS.o.1 (by unfold maxLen;omega)
 refine(zj1 a1 c1 ps dr tm rs w1 hP1 hl HS.o.2.1).mono ?_;rintro e w2⟨⟨k,rfl,hk⟩,hb2⟩;have hz2:=hb2.size;have HB2:=hid (HB1.o.trans (hb2.mono HB1.o.size));have HO2:=hid (yE HO1.o hb2);have k2:=(hb2.block _ (by omega)).trans k1;have cF2:=fun j=>cell_of_block (o:=j) k2
 have hzF2:w.heap.size<w2.heap.size:=by omega
 have HK:=hid hk;clear hb2 k1 cF hP1 hk HB1 HO1;have hwk:∀x:Int,0<=x/\x<=1000000->wrap64 (x+am)=x+am:=fun x hx=>by have:=HS.o.2.2.2;exact zA _ ⟨by omega,by omega⟩
 by_cases hh:yP ps dr tm rs=true
 ·obtain⟨hkl,hke⟩:=(HK.o.found HS.o.2.1).1 hh
  obtain⟨g,C,rfl,hlo,hg,hCz,hCc⟩:=zds HO2.o (by omega);have HE:=yU hke (znN HK.o HS.o.2.1 hh hkl am un);have hcA:w2.cell? (aD g (k*5+3))=some (.i ps[k].am):=by rw[cell_of_block hg,hCc _ (by omega),zaZ Pu.row 5 (fun _=>rfl) ps k hkl 3 (by omega)];rfl
  have hcU:w2.cell? (aD g (k*5+4))=some (.i ps[k].un):=by rw[cell_of_block hg,hCc _ (by omega),zaZ Pu.row 5 (fun _=>rfl) ps k hkl 4 (by omega)];rfl
  have fz:=fun o=>zf (o:=o) hg
  have hgz:g<w2.heap.size:=(gES hg).1;have hkI:(k:Int)<(ps.length:Int):=by omega
  have hw1:=hwk ps[k].am (by have:=HS.o.2.2.1 _ (List.getElem_mem hkl);omega);have hrow:=zpH HO2.o hkl (ps[k].am+am) un;rw[hke.1,hke.2.1,hke.2.2]at hrow;have HR:=hid hrow;rw[hh];clear hrow hke hwk hg hCz hCc hh;go_wp2_with fail
  go_ret;refine⟨_,rfl,?_,(HB2.o.setCell (show _<=g by omega) _).setCell (show _<=g by omega) _⟩;rw[HE.o.2.1,List.length_set];exact zb9 HR.o (by omega)
 ·have hno:yP ps dr tm rs=false:=bFi hh
  have HE:=hid (zpO HK.o hno am un);have HLE:=hid HK.o.le;have k3:=alloc_at w2 (.cells #[.s dr,.s tm,.s rs,.i 0,.i 0] 70);have hB3:=(bRf w2.heap.size w2).alloc (Nat.le_refl _) (.cells #[.s dr,.s tm,.s rs,.i 0,.i 0] 70);obtain⟨W3,hW3⟩:=nm (w2.alloc (.cells #[.s dr,.s tm,.s rs,.i 0,.i 0] 70));have hz3:W3.heap.size=w2.heap.size+1:=by rw[hW3];simp
  rw[hno];clear hh hno;go_wp2_with fail
  rw[<- hW3]at k3 hB3 ⊢;clear hW3;have hR3:zcq W0.heap.size W3 (fun q=>if W0.heap.size<=q/\q<w2.heap.size then (3,0,0) else (9,0,0)) (.l a1 ps.length c1) ps:=⟨yE HO2.o hB3,fun q hq=>if_pos (HO2.o.lt q hq)⟩
  refine(zl1 W0.heap.size _ a1 c1 ps k ⟨dr,tm,rs,0,0⟩ w2.heap.size 1 W3 hR3 HLE.o hl (by omega) k3 (by simp)).mono ?_;rintro e w4⟨v4,own4,rfl,_,hr4,hL4⟩
  have hB4:Bw w w4:=(HB2.o.trans (hB3.mono (by omega))).trans (hL4.below (B:=w.heap.size) (fun q hq h1=>by
   have h2:(if W0.heap.size<=q/\q<w2.heap.size then ((3,0,0):Lb) else (9,0,0)).1=3:=h1;rw[if_neg (by omega)]at h2
   cases h2) (by omega))
  obtain⟨qs,hqs⟩:=nm (ps.take k++(⟨dr,tm,rs,0,0⟩:Pu) :: ps.drop k);rw[<- hqs]at hr4;have hql:qs.length=ps.length+1:=by rw[hqs,List.length_append,List.length_take,List.length_cons,List.length_drop];have:=HLE.o;omega
  have hkl:k<qs.length:=by have:=HLE.o;omega
  have hqk:qs[k]=⟨dr,tm,rs,0,0⟩:=by
   simp only[hqs];rw[List.getElem_append_right (by rw[List.length_take];omega)]
   simp[List.length_take,Nat.min_eq_left HLE.o]
  obtain⟨a4,c4,hv4⟩:=jc hr4.1;subst hv4;obtain⟨g,C,rfl,hlo,hg,hCz,hCc⟩:=zds hr4.1 (by omega);have hcA:w4.cell? (aD g (k*5+3))=some (.i 0):=by rw[cell_of_block hg,hCc _ (by omega),zaZ Pu.row 5 (fun _=>rfl) qs k hkl 3 (by omega),hqk];rfl
  have hcU:w4.cell? (aD g (k*5+4))=some (.i 0):=by rw[cell_of_block hg,hCc _ (by omega),zaZ Pu.row 5 (fun _=>rfl) qs k hkl 4 (by omega),hqk];rfl
  have fz:=fun o=>zf (o:=o) hg
  have hgz:g<w4.heap.size:=(gES hg).1;have hkI:(k:Int)<(qs.length:Int):=by omega
  have hw1:wrap64 am=am:=by have:=hwk 0 (by omega);rwa [Int.zero_add]at this
  have hrow:=zpH hr4.1 hkl am un
  have e5:qs.set k ⟨dr,tm,rs,am,un⟩=fill ps dr tm rs am un:=by
   rw[HE.o.1,hqs,List.set_append_right _ _ (by rw[List.length_take];omega),List.length_take,Nat.min_eq_left HLE.o,Nat.sub_self]
   rfl
  simp only[hqk]at hrow;rw[e5]at hrow;have HR:=hid hrow;have HB4:=hid hB4;have HQL:Hid ((fill ps dr tm rs am un).length=qs.length/\w.heap.size<=g):=⟨by rw[HE.o.2,hql],by omega⟩
  clear hrow hwk hg hCz hCc hr4 hL4 hB4 hqs hql hqk e5 hB3 k3 hR3 hlo;go_wp2_with fail
  go_ret;refine⟨_,rfl,?_,(HB4.o.setCell HQL.o.2 _).setCell HQL.o.2 _⟩;rw[HQL.o.1];exact zb9 HR.o (by omega)
end Go.Proofs.YtbfgkhgmnfghgaaGreat
