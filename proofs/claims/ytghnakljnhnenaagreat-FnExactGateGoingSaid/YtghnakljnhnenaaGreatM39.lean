import Derived.Test.YtghnakljnhnenaaGreatM38
set_option maxHeartbeats 40000000
namespace Go.Proofs.YtghnakljnhnenaaGreat
open Go.RowKit
theorem zgy (l:Lw) (la lb lc:Option Addr) (lca lcb lcc:Nat) (b:Bk) (a0 a1 a2 a3:Option Addr) (c0 c1 c2 c3:Nat) (team res:ByteArray) (w:World) (hl:y9 w l la lb lc) (hb:y7 w b a0 a1 a2 a3) (hz:qF b.os<=1048576) :
 Calls Tryz.prog 101 #[.agg (l.cells la lb lc lca lcb lcc),.agg (b.cells a0 a1 a2 a3 c0 c1 c2 c3),.string team,.string res] w fun e w'=>e = .returned (.int .i64 (Gate.used l b.os team res))/\Below w.heap.size w w':=by
 have HL:Hid (y9 w l la lb lc):=hl;have HK:Hid (y7 w b a0 a1 a2 a3):=hb;have HZ:Hid (qF b.os<=1048576/\b.os.length<=1048576):=⟨hz,by unfold qF at hz;omega⟩
 clear hl hb hz;unfold Lw.cells Bk.cells;go_enter Tryz.func101,Tryz.ntmps101;go_wp2_with fail
 obtain ⟨hX0,hY0⟩:=qw w #[.slice la l.ss.length lca,.slice lb l.ms.length lcb,.slice lc l.ts.length lcc] #[.int .i64 b.now,.int .i64 b.tick,.int .i64 b.given,.slice a0 b.os.length c0,.slice a1 b.gs.length c1,.slice a2 b.ls.length c2,.slice a3 b.ps.length c3] 41 48;have HB0:Hid (Below w.heap.size w ((w.alloc (.cells #[.slice la l.ss.length lca,.slice lb l.ms.length lcb,.slice lc l.ts.length lcc] 41)).alloc (.cells #[.int .i64 b.now,.int .i64 b.tick,.int .i64 b.given,.slice a0 b.os.length c0,.slice a1 b.gs.length c1,.slice a2 b.ls.length c2,.slice a3 b.ps.length c3] 48))):=zA w _ _;obtain ⟨W0,hW0⟩:∃ W0,W0=(w.alloc (.cells #[.slice la l.ss.length lca,.slice lb l.ms.length lcb,.slice lc l.ts.length lcc] 41)).alloc (.cells #[.int .i64 b.now,.int .i64 b.tick,.int .i64 b.given,.slice a0 b.os.length c0,.slice a1 b.gs.length c1,.slice a2 b.ls.length c2,.slice a3 b.ps.length c3] 48):=⟨_,rfl⟩
 have hz0:w.heap.size+1 < W0.heap.size:=by rw [hW0];simp
 rw [<- hW0] at HB0 hX0 hY0 ⊢;clear hW0
 go_loopw [9,10] (fun nv iv wr=>∃ (k:Nat) (s:Int),k<=b.os.length/\iv = .int .i64 k/\nv = .int .i64 s/\Hid (s=Gate.zah l b.os team res k/\Below W0.heap.size W0 wr)) (fun _ iv _=>b.os.length - (intOf iv).toNat)
 case atStart=>exact ⟨0,0,Nat.zero_le _,rfl,rfl,by simp [Gate.zah],bRf _ _⟩
 case round =>
  obtain ⟨k,s,hk,rfl,rfl,HQ⟩:=hrel
  have hsb:0<=s/\s<=20000000000000:=by
   have h1:=HQ.out.1;have h2:=Gate.zb3 l b.os team res k hk;have h3:=HZ.out;have h4:zaZ (b.os.take k)<=zaZ b.os:=zcQ Ob.sz b.os k;unfold qF at h3;omega
  have hX:=za hX0 (nSl hz0) HQ.out.2;have hY:=za hY0 hz0 HQ.out.2;have hz:w.heap.size+1 < wr.heap.size:=nLt hz0 HQ.out.2.size;have hzX:w.heap.size < wr.heap.size:=nSl hz;have hkn:k<=1048576:=by have:=HZ.out.2;omega
  by_cases hlt:k < b.os.length
  ·obtain ⟨ob,off,v0,v1,q0,q1,rfl,hob,hsm,hl0,hl1,d0,d1,d2,d3,d4,d5,d6⟩:=HK.out.os.load (HB0.out.trans (HQ.out.2.mono HB0.out.size)) k hlt
   have hob':ob < wr.heap.size:=nLt hob (HB0.out.trans (HQ.out.2.mono HB0.out.size)).size;have hltI:(k:Int) < (b.os.length:Int):=by omega
   have HSt:Hid (Gate.zah l b.os team res (k+1)=Gate.zah l b.os team res k+Gate.zbq l team res b.os[k]):=Gate.zfs l b.os team res k hlt;have HOo:Hid (qB wr b.os[k] v0 v1):=⟨hsm,hl0,hl1⟩
   have HOl:Hid (b.os[k].vs.length<=1048576):=by
    have h3:=HZ.out.1
    have:=(zlt (left:=1048576) (ms:=b.os) (by omega) (by omega)).2 k hlt
    exact this.1
   have hwb:=Gate.zgo l.ss b.os[k] res HOl.out;have HBr:Hid (Below w.heap.size w wr):=HB0.out.trans (HQ.out.2.mono HB0.out.size);clear hsm hl0 hl1;go_wp2_with fail
   have HS:Hid ((∀ j,wr.cell? ⟨w.heap.size,j,none⟩=(#[.slice la l.ss.length lca,.slice lb l.ms.length lcb,.slice lc l.ts.length lcc]:Array Value)[j]?)/\(∀ j,wr.cell? ⟨w.heap.size+1,j,none⟩=(#[.int .i64 b.now,.int .i64 b.tick,.int .i64 b.given,.slice (some ⟨ob,off,none⟩) b.os.length c0,.slice a1 b.gs.length c1,.slice a2 b.ls.length c2,.slice a3 b.ps.length c3]:Array Value)[j]?)/\wr.cell? ⟨ob,off+k * 7,none⟩=some (.string b.os[k].kd)/\wr.cell? ⟨ob,off+k * 7+1,none⟩=some (.string b.os[k].nm)/\wr.cell? ⟨ob,off+k * 7+2,none⟩=some (.string b.os[k].tm)/\wr.cell? ⟨ob,off+k * 7+3,none⟩=some (.slice v0 b.os[k].vs.length q0)/\wr.cell? ⟨ob,off+k * 7+4,none⟩=some (.bool b.os[k].en)/\wr.cell? ⟨ob,off+k * 7+5,none⟩=some (.slice v1 b.os[k].hs.length q1)/\wr.cell? ⟨ob,off+k * 7+6,none⟩=some (.int .i64 b.os[k].vr)):=⟨hX,hY,d0,d1,d2,d3,d4,d5,d6⟩
   have hS:(∀ j,wr.drew.cell? ⟨w.heap.size,j,none⟩=(#[.slice la l.ss.length lca,.slice lb l.ms.length lcb,.slice lc l.ts.length lcc]:Array Value)[j]?)/\(∀ j,wr.drew.cell? ⟨w.heap.size+1,j,none⟩=(#[.int .i64 b.now,.int .i64 b.tick,.int .i64 b.given,.slice (some ⟨ob,off,none⟩) b.os.length c0,.slice a1 b.gs.length c1,.slice a2 b.ls.length c2,.slice a3 b.ps.length c3]:Array Value)[j]?)/\wr.drew.cell? ⟨ob,off+k * 7,none⟩=some (.string b.os[k].kd)/\wr.drew.cell? ⟨ob,off+k * 7+1,none⟩=some (.string b.os[k].nm)/\wr.drew.cell? ⟨ob,off+k * 7+2,none⟩=some (.string b.os[k].tm)/\wr.drew.cell? ⟨ob,off+k * 7+3,none⟩=some (.slice v0 b.os[k].vs.length q0)/\wr.drew.cell? ⟨ob,off+k * 7+4,none⟩=some (.bool b.os[k].en)/\wr.drew.cell? ⟨ob,off+k * 7+5,none⟩=some (.slice v1 b.os[k].hs.length q1)/\wr.drew.cell? ⟨ob,off+k * 7+6,none⟩=some (.int .i64 b.os[k].vr):=HS.out;clear hX hY d0 d1 d2 d3 d4 d5 d6
   go_region_held3 (fun w'=>(∀ j,w'.cell? ⟨w.heap.size,j,none⟩=(#[.slice la l.ss.length lca,.slice lb l.ms.length lcb,.slice lc l.ts.length lcc]:Array Value)[j]?)/\(∀ j,w'.cell? ⟨w.heap.size+1,j,none⟩=(#[.int .i64 b.now,.int .i64 b.tick,.int .i64 b.given,.slice (some ⟨ob,off,none⟩) b.os.length c0,.slice a1 b.gs.length c1,.slice a2 b.ls.length c2,.slice a3 b.ps.length c3]:Array Value)[j]?)/\w'.cell? ⟨ob,off+k * 7,none⟩=some (.string b.os[k].kd)/\w'.cell? ⟨ob,off+k * 7+1,none⟩=some (.string b.os[k].nm)/\w'.cell? ⟨ob,off+k * 7+2,none⟩=some (.string b.os[k].tm)/\w'.cell? ⟨ob,off+k * 7+3,none⟩=some (.slice v0 b.os[k].vs.length q0)/\w'.cell? ⟨ob,off+k * 7+4,none⟩=some (.bool b.os[k].en)/\w'.cell? ⟨ob,off+k * 7+5,none⟩=some (.slice v1 b.os[k].hs.length q1)/\w'.cell? ⟨ob,off+k * 7+6,none⟩=some (.int .i64 b.os[k].vr)) (exact hS) (first | (go_at_call 136;refine (zj3 _ _ l.ts b.os[k].tm team _ (by exact HL.out.ts.mono HBr.out.drew)).mono ?_;rintro e w1 ⟨rfl,rfl⟩))
   obtain ⟨w2,hw2⟩:∃ w2,w2=wr.drew:=⟨_,rfl⟩
   have hB2:Below W0.heap.size W0 w2:=by rw [hw2];exact HQ.out.2.drew
   have HBr2:Hid (Below w.heap.size w w2):=by unfold Hid;rw [hw2];exact HBr.out.drew
   have HO2:Hid (qB w2 b.os[k] v0 v1):=by unfold Hid;rw [hw2];exact HOo.out.mono (bRf _ _).drew
   have hS2:(∀ j,w2.cell? ⟨w.heap.size,j,none⟩=(#[.slice la l.ss.length lca,.slice lb l.ms.length lcb,.slice lc l.ts.length lcc]:Array Value)[j]?)/\(∀ j,w2.cell? ⟨w.heap.size+1,j,none⟩=(#[.int .i64 b.now,.int .i64 b.tick,.int .i64 b.given,.slice (some ⟨ob,off,none⟩) b.os.length c0,.slice a1 b.gs.length c1,.slice a2 b.ls.length c2,.slice a3 b.ps.length c3]:Array Value)[j]?)/\w2.cell? ⟨ob,off+k * 7,none⟩=some (.string b.os[k].kd)/\w2.cell? ⟨ob,off+k * 7+1,none⟩=some (.string b.os[k].nm)/\w2.cell? ⟨ob,off+k * 7+2,none⟩=some (.string b.os[k].tm)/\w2.cell? ⟨ob,off+k * 7+3,none⟩=some (.slice v0 b.os[k].vs.length q0)/\w2.cell? ⟨ob,off+k * 7+4,none⟩=some (.bool b.os[k].en)/\w2.cell? ⟨ob,off+k * 7+5,none⟩=some (.slice v1 b.os[k].hs.length q1)/\w2.cell? ⟨ob,off+k * 7+6,none⟩=some (.int .i64 b.os[k].vr):=by rw [hw2];exact hS
   have hz2:w.heap.size+1 < w2.heap.size:=by rw [hw2];exact hz
   have hzX2:w.heap.size < w2.heap.size:=nSl hz2;have hob2:ob < w2.heap.size:=by rw [hw2];exact hob'
   have HB2:Hid (Below W0.heap.size W0 w2):=hB2;rw [<- hw2];clear hw2 hS HS hB2 hz hzX hob'
   by_cases hu:Gate.under l.ts 4 b.os[k].tm team=true
   ·have HU:Hid (Gate.zbq l team res b.os[k]=Gate.qX l.ss b.os[k] res):=by unfold Hid Gate.zbq;rw [if_pos hu]
    rw [hu];clear hu;have hS:(∀ j,w2.drew.cell? ⟨w.heap.size,j,none⟩=(#[.slice la l.ss.length lca,.slice lb l.ms.length lcb,.slice lc l.ts.length lcc]:Array Value)[j]?)/\(∀ j,w2.drew.cell? ⟨w.heap.size+1,j,none⟩=(#[.int .i64 b.now,.int .i64 b.tick,.int .i64 b.given,.slice (some ⟨ob,off,none⟩) b.os.length c0,.slice a1 b.gs.length c1,.slice a2 b.ls.length c2,.slice a3 b.ps.length c3]:Array Value)[j]?)/\w2.drew.cell? ⟨ob,off+k * 7,none⟩=some (.string b.os[k].kd)/\w2.drew.cell? ⟨ob,off+k * 7+1,none⟩=some (.string b.os[k].nm)/\w2.drew.cell? ⟨ob,off+k * 7+2,none⟩=some (.string b.os[k].tm)/\w2.drew.cell? ⟨ob,off+k * 7+3,none⟩=some (.slice v0 b.os[k].vs.length q0)/\w2.drew.cell? ⟨ob,off+k * 7+4,none⟩=some (.bool b.os[k].en)/\w2.drew.cell? ⟨ob,off+k * 7+5,none⟩=some (.slice v1 b.os[k].hs.length q1)/\w2.drew.cell? ⟨ob,off+k * 7+6,none⟩=some (.int .i64 b.os[k].vr):=hS2;clear hS2;go_wp2_with fail
    go_region_held3 (fun w'=>(∀ j,w'.cell? ⟨w.heap.size,j,none⟩=(#[.slice la l.ss.length lca,.slice lb l.ms.length lcb,.slice lc l.ts.length lcc]:Array Value)[j]?)/\(∀ j,w'.cell? ⟨w.heap.size+1,j,none⟩=(#[.int .i64 b.now,.int .i64 b.tick,.int .i64 b.given,.slice (some ⟨ob,off,none⟩) b.os.length c0,.slice a1 b.gs.length c1,.slice a2 b.ls.length c2,.slice a3 b.ps.length c3]:Array Value)[j]?)/\w'.cell? ⟨ob,off+k * 7,none⟩=some (.string b.os[k].kd)/\w'.cell? ⟨ob,off+k * 7+1,none⟩=some (.string b.os[k].nm)/\w'.cell? ⟨ob,off+k * 7+2,none⟩=some (.string b.os[k].tm)/\w'.cell? ⟨ob,off+k * 7+3,none⟩=some (.slice v0 b.os[k].vs.length q0)/\w'.cell? ⟨ob,off+k * 7+4,none⟩=some (.bool b.os[k].en)/\w'.cell? ⟨ob,off+k * 7+5,none⟩=some (.slice v1 b.os[k].hs.length q1)/\w'.cell? ⟨ob,off+k * 7+6,none⟩=some (.int .i64 b.os[k].vr)) (exact hS) (first | (go_at_call 137;refine (ziV l _ _ _ _ _ _ b.os[k] _ _ _ _ res _ (by exact HL.out.mono HBr2.out.drew) (by exact HO2.out.mono (bRf _ _).drew) HOl.out).mono ?_;rintro e w3 ⟨rfl,hb3⟩;have hS:=(⟨za hS.1 hzX2 hb3,za hS.2.1 hz2 hb3,(hb3.cell (p:=⟨ob,_,none⟩) hob2).trans hS.2.2.1,(hb3.cell (p:=⟨ob,_,none⟩) hob2).trans hS.2.2.2.1,(hb3.cell (p:=⟨ob,_,none⟩) hob2).trans hS.2.2.2.2.1,(hb3.cell (p:=⟨ob,_,none⟩) hob2).trans hS.2.2.2.2.2.1,(hb3.cell (p:=⟨ob,_,none⟩) hob2).trans hS.2.2.2.2.2.2.1,(hb3.cell (p:=⟨ob,_,none⟩) hob2).trans hS.2.2.2.2.2.2.2.1,(hb3.cell (p:=⟨ob,_,none⟩) hob2).trans hS.2.2.2.2.2.2.2.2⟩:_/\_/\_/\_/\_/\_/\_/\_/\_);have hB3:=HB2.out.drew.trans (hb3.mono HB2.out.drew.size);clear hb3))
    go_wp2_with fail
    refine ⟨⟨k+1,s+Gate.qX l.ss b.os[k] res,by omega,by go_num,?_,by rw [HSt.out,HU.out,HQ.out.1],hB3⟩,zn hlt⟩
    have hw:IntKind.i64.wrap (s+Gate.qX l.ss b.os[k] res)=s+Gate.qX l.ss b.os[k] res:=by
     rw [IntKind.wrap_i64];omega
    rw [hw]
   ·have hu':Gate.under l.ts 4 b.os[k].tm team=false:=by simpa using hu
    have HU:Hid (Gate.zbq l team res b.os[k]=0):=by unfold Hid Gate.zbq;rw [if_neg hu]
    rw [hu'];clear hu hu';go_wp2_with fail
    exact ⟨⟨k+1,s,by omega,by go_num,rfl,by rw [HSt.out,HU.out,HQ.out.1];omega,HB2.out⟩,zn hlt⟩
  ·have e:k=b.os.length:=by omega
   subst e;have HE:Hid (Gate.used l b.os team res=s):=by unfold Hid Gate.used;rw [HQ.out.1]
   clear hlt hk;go_wp2_with fail
   go_ret;exact ⟨zq HE.out.symm,HB0.out.trans (HQ.out.2.mono HB0.out.size)⟩
namespace Gate
noncomputable def qy (l:Lw) (b:Bk):Bool:=yP l.ts b && (yX b && zcJ l b)
theorem zmp (ls:List Lg) (tm rs:ByteArray):ls.any (zeo tm rs)=jq ls tm rs:=rfl
theorem zet {l:Lw} {b:Bk} (h:yP l.ts b=false):qy l b=false:=by unfold qy;rw [h];rfl
theorem zeM {l:Lw} {b:Bk} (h:yX b=false):qy l b=false:=by unfold qy;rw [h];simp
theorem zmL {l:Lw} {b:Bk} (h:zcJ l b=false):qy l b=false:=by unfold qy;rw [h];simp
theorem zf5 {b:Bk} (h:b.ps.all (yE b.ls b.tick)=true):∀ i (h:i < b.ps.length),0<=b.ps[i].am/\b.ps[i].am<=1000000:=fun i hi=>by
 have h4:=List.all_eq_true.1 h _ (List.getElem_mem hi);unfold yE within at h4;simp only [Bool.and_eq_true,decide_eq_true_eq] at h4;omega
end Gate
set_option maxRecDepth 20000 in
theorem zk5 (l:Lw) (la lb lc:Option Addr) (lca lcb lcc:Nat) (b:Bk) (a0 a1 a2 a3:Option Addr) (c0 c1 c2 c3:Nat) (w:World) (hl:y9 w l la lb lc) (hb:y7 w b a0 a1 a2 a3) (htk:0<=b.tick/\b.tick<=1000000) (hz:qF b.os<=1048576) :
 Calls Tryz.prog 62 #[.agg (l.cells la lb lc lca lcb lcc),.agg (b.cells a0 a1 a2 a3 c0 c1 c2 c3)] w fun e w'=>e = .returned (.bool (Gate.qy l b))/\Below w.heap.size w w':=by
 have HK:Hid (y7 w b a0 a1 a2 a3):=hb;have HL:Hid (y9 w l la lb lc):=hl;have HZ:Hid (qF b.os<=1048576/\0<=b.tick/\b.tick<=1000000):=⟨hz,htk⟩
 clear hb hl hz htk;unfold Lw.cells Bk.cells
 by_cases hln:b.ls.length<=10
 rotate_left
 ·have HF:Hid (Gate.qy l b=false):=Gate.zet (by unfold Gate.yP;rw [decide_eq_false hln];rfl)
  have hg:(10:Int) < (b.ls.length:Int):=by omega
  go_enter Tryz.func62,Tryz.ntmps62;go_wp2_with fail
  go_ret;exact ⟨ze HF.out.symm,zA _ _ _⟩
 have hg:decide ((10:Int) < (b.ls.length:Int))=false:=by simp;omega
 have HLN:Hid (b.ls.length<=10):=hln;clear hln
 by_cases hpn:b.ps.length<=24
 rotate_left
 ·have HF:Hid (Gate.qy l b=false):=Gate.zeM (by unfold Gate.yX;rw [decide_eq_false hpn];rfl)
  have hg2:(24:Int) < (b.ps.length:Int):=by omega
  go_enter Tryz.func62,Tryz.ntmps62;go_wp2_with fail
  go_ret;exact ⟨ze HF.out.symm,zA _ _ _⟩
 have hg2:decide ((24:Int) < (b.ps.length:Int))=false:=by simp;omega
 have HPN:Hid (b.ps.length<=24):=hpn;clear hpn;go_enter Tryz.func62,Tryz.ntmps62;go_wp2_with fail
 clear hg hg2;obtain ⟨hL0,hX0⟩:=qw w #[.slice la l.ss.length lca,.slice lb l.ms.length lcb,.slice lc l.ts.length lcc] #[.int .i64 b.now,.int .i64 b.tick,.int .i64 b.given,.slice a0 b.os.length c0,.slice a1 b.gs.length c1,.slice a2 b.ls.length c2,.slice a3 b.ps.length c3] 41 48;have HB0:Hid (Below w.heap.size w ((w.alloc (.cells #[.slice la l.ss.length lca,.slice lb l.ms.length lcb,.slice lc l.ts.length lcc] 41)).alloc (.cells #[.int .i64 b.now,.int .i64 b.tick,.int .i64 b.given,.slice a0 b.os.length c0,.slice a1 b.gs.length c1,.slice a2 b.ls.length c2,.slice a3 b.ps.length c3] 48))):=zA w _ _;obtain ⟨W0,hW0⟩:∃ W0,W0=(w.alloc (.cells #[.slice la l.ss.length lca,.slice lb l.ms.length lcb,.slice lc l.ts.length lcc] 41)).alloc (.cells #[.int .i64 b.now,.int .i64 b.tick,.int .i64 b.given,.slice a0 b.os.length c0,.slice a1 b.gs.length c1,.slice a2 b.ls.length c2,.slice a3 b.ps.length c3] 48):=⟨_,rfl⟩
 have hz0:w.heap.size+1 < W0.heap.size:=by rw [hW0];simp
 rw [<- hW0] at HB0 hX0 hL0 ⊢;clear hW0
 go_loopw [5] (fun iv wr=>∃ k:Nat,k<=b.ps.length/\iv = .int .i64 k/\Hid ((b.ps.take k).all (Gate.yE b.ls b.tick)=true/\Gate.jI Gate.zae b.ps k/\Below W0.heap.size W0 wr)) (fun iv _=>b.ps.length - (intOf iv).toNat)
 case atStart=>exact ⟨0,Nat.zero_le _,rfl,by simp,fun i _ h=>by omega,bRf _ _⟩
 case round =>
  obtain ⟨k,hk,rfl,HQ⟩:=hrel;have hkn:k<=24:=by have:=HPN.out;omega
  have hX1:=za hX0 hz0 HQ.out.2.2;have hL1:=za hL0 (nSl hz0) HQ.out.2.2;have hz1:=nLt hz0 HQ.out.2.2.size;have HBq:Hid (Below w.heap.size w wr):=HB0.out.trans (HQ.out.2.2.mono HB0.out.size)
  by_cases hlt:k < b.ps.length
  ·have hsm:=HK.out.ps.small k hlt
   obtain ⟨ob,off,rfl,hob,d0,d1,d2,d3,d4⟩:=HK.out.ps.load HBq.out k hlt;have hob':ob < wr.heap.size:=nLt hob HBq.out.size;have hltI:(k:Int) < (b.ps.length:Int):=by omega
   have HSn:Hid ((b.ps.take (k+1)).all (Gate.yE b.ls b.tick)=((b.ps.take k).all (Gate.yE b.ls b.tick) && (Gate.yE b.ls b.tick) b.ps[k])):=Gate.qU _ _ _ hlt;have HBo:Hid (∀ ob,Below W0.heap.size W0 (wr.alloc ob)):=fun ob=>HQ.out.2.2.alloc HQ.out.2.2.size _
   have HBw:Hid (∀ W,Below W0.heap.size W0 W->Below w.heap.size w W):=fun W hW=>HB0.out.trans (hW.mono HB0.out.size)
   have HNo:Hid ((Gate.yE b.ls b.tick) b.ps[k]=false->Gate.qy l b=false):=fun h=>Gate.zeM (by unfold Gate.yX;rw [Gate.zaC _ _ _ hlt h];simp)
   have HNa:Hid (0 < k->0<=Gate.zae (b.ps[k - 1]'(by omega)) b.ps[k]->Gate.qy l b=false):=fun h0 h=>Gate.zeM (by unfold Gate.yX;rw [Gate.zdG hlt h0 (Int.not_lt.2 h)];simp)
   have HYes:Hid ((Gate.yE b.ls b.tick) b.ps[k]=true->(∀ m (e:k=m+1),Gate.zae (b.ps[m]'(by omega)) b.ps[k] < 0)->(b.ps.take (k+1)).all (Gate.yE b.ls b.tick)=true/\Gate.jI Gate.zae b.ps (k+1)):=fun h h'=>⟨by rw [HSn.out,HQ.out.1,h];rfl,Gate.ze1 HQ.out.2.1 hlt h'⟩
   have HSm:Hid (b.ps[k].Small):=hsm;clear hsm;go_wp2_with fail
   have hY0:=zm wr #[.string b.ps[k].dr,.string b.ps[k].tm,.string b.ps[k].rs,.int .i64 b.ps[k].am,.int .i64 b.ps[k].un] 136;have hb5:Below wr.heap.size wr (wr.alloc (.cells #[.string b.ps[k].dr,.string b.ps[k].tm,.string b.ps[k].rs,.int .i64 b.ps[k].am,.int .i64 b.ps[k].un] 136)):=bAl _ _;have HBe:=HBo.out (.cells #[.string b.ps[k].dr,.string b.ps[k].tm,.string b.ps[k].rs,.int .i64 b.ps[k].am,.int .i64 b.ps[k].un] 136);obtain ⟨W5,hW5⟩:∃ W5,W5=wr.alloc (.cells #[.string b.ps[k].dr,.string b.ps[k].tm,.string b.ps[k].rs,.int .i64 b.ps[k].am,.int .i64 b.ps[k].un] 136):=⟨_,rfl⟩
   have hy0:wr.heap.size < W5.heap.size:=by rw [hW5];simp
   rw [<- hW5] at hb5 hY0 HBe ⊢;clear hW5 d0 d1 d2 d3 d4;have hX:=za (za hX1 hz1 hb5) (nLt hz1 hb5.size) (bRf W5.heap.size W5).drew;have hY:=za hY0 hy0 (bRf W5.heap.size W5).drew;have hz:w.heap.size+1 < W5.drew.heap.size:=nLt hz1 hb5.size;have hy:wr.heap.size < W5.drew.heap.size:=hy0;have hB:Below W0.heap.size W0 W5.drew:=HBe.drew;have hobz:ob < W5.drew.heap.size:=nLt hob' hb5.size
   have HP:Hid (∀ h0:0 < k,W5.drew.cell? ⟨ob,off+(k - 1) * 5,none⟩=some (.string (b.ps[k - 1]'(by omega)).dr)/\W5.drew.cell? ⟨ob,off+(k - 1) * 5+1,none⟩=some (.string (b.ps[k - 1]'(by omega)).tm)/\W5.drew.cell? ⟨ob,off+(k - 1) * 5+2,none⟩=some (.string (b.ps[k - 1]'(by omega)).rs)/\W5.drew.cell? ⟨ob,off+(k - 1) * 5+3,none⟩=some (.int .i64 (b.ps[k - 1]'(by omega)).am)/\W5.drew.cell? ⟨ob,off+(k - 1) * 5+4,none⟩=some (.int .i64 (b.ps[k - 1]'(by omega)).un)):=fun h0=>by
    have hBq5:=(HBq.out.trans (hb5.mono HBq.out.size)).drew;obtain ⟨ob',off',e',hob'',e0,e1,e2,e3,e4⟩:=HK.out.ps.load hBq5 (k - 1) (by omega)
    cases e'
    exact ⟨e0,e1,e2,e3,e4⟩
   have HBe:Hid (Below W0.heap.size W0 W5.drew):=hB;have HKq:Hid (y7 W5.drew b a0 a1 a2 (some ⟨ob,off,none⟩)):=HK.out.mono (HBq.out.trans (hb5.mono HBq.out.size)).drew;have hwr:IntKind.i64.wrap (b.tick+10)=b.tick+10:=by rw [IntKind.wrap_i64];have:=HZ.out;omega
   clear hX1 hz1 hb5 hY0 hy0 HBo hX0 hz0 hob hob' HSn hL0 hL1 hB
   by_cases hk0:0 < k
   ·have hk1:(0:Int)<=(k:Int) - 1:=by omega
    have hk2:(k:Int) - 1 < (b.ps.length:Int):=by omega
    have hg:decide (0 < k)=true:=decide_eq_true hk0;have hkw:IntKind.i64.wrap ((k:Int) - 1)=(k:Int) - 1:=by rw [IntKind.wrap_i64];omega
    have hkN:((k:Int) - 1).toNat=k - 1:=by omega
    have hk3:(1:Int)<=(k:Int):=by omega
    obtain ⟨hP0,hP1,hP2,hP3,hP4⟩:=HP.out hk0;clear HP;refine wp_region_held_drew (S:=fun w'=>(∀ j,w'.cell? ⟨w.heap.size+1,j,none⟩=(#[.int .i64 b.now,.int .i64 b.tick,.int .i64 b.given,.slice a0 b.os.length c0,.slice a1 b.gs.length c1,.slice a2 b.ls.length c2,.slice (some ⟨ob,off,none⟩) b.ps.length c3]:Array Value)[j]?)/\(∀ j,w'.cell? ⟨wr.heap.size,j,none⟩=(#[.string b.ps[k].dr,.string b.ps[k].tm,.string b.ps[k].rs,.int .i64 b.ps[k].am,.int .i64 b.ps[k].un]:Array Value)[j]?)/\w'.cell? ⟨ob,off+(k - 1) * 5,none⟩=some (.string (b.ps[k - 1]'(by omega)).dr)/\w'.cell? ⟨ob,off+(k - 1) * 5+1,none⟩=some (.string (b.ps[k - 1]'(by omega)).tm)/\w'.cell? ⟨ob,off+(k - 1) * 5+2,none⟩=some (.string (b.ps[k - 1]'(by omega)).rs)/\w'.cell? ⟨ob,off+(k - 1) * 5+3,none⟩=some (.int .i64 (b.ps[k - 1]'(by omega)).am)/\w'.cell? ⟨ob,off+(k - 1) * 5+4,none⟩=some (.int .i64 (b.ps[k - 1]'(by omega)).un)) (by kernel_rfl) ⟨hX,hY,hP0,hP1,hP2,hP3,hP4⟩ (fun H_=>?_);refine tH 0 rfl H_ ?_;refine tH 1 rfl H_ ?_
    by_cases t1:Gate.zy b.ps[k].dr=true
    ·refine cH 2 rfl fun K hK=>?_
     go_simp
     refine (zf t1 (zh _ _ HSm.out.dr)).mono ?_;rintro e w6 ⟨rfl,rfl⟩
     (try go_wp2_with fail)
     refine hK.out _ _ ?_ (fun H_=>?_)
     ·exact H_
     clear hK K
     (try simp only [Act.put,sA,s0,sS])
     refine tH 3 rfl H_ ?_;refine tH 4 rfl H_ ?_;refine tH 5 rfl H_ ?_;refine tH 6 rfl H_ ?_;refine tH 7 rfl H_ ?_;refine tH 8 rfl H_ ?_;refine tH 9 rfl H_ ?_;refine cH 10 rfl fun K hK=>?_
     go_simp
     refine (zfJ b a0 a1 a2 (some ⟨ob,off,none⟩) c0 c1 c2 c3 _ _ _ HKq.out (by have:=HLN.out;omega)).mono ?_;rintro e w7 ⟨rfl,hb7⟩;have hX7:=za hX hz hb7;have hY7:=za hY hy hb7;have hz7:=nLt hz hb7.size;have hy7:=nLt hy hb7.size;have hobz7:=nLt hobz hb7.size;have HBe7:Hid (Below W0.heap.size W0 w7):=HBe.out.trans (hb7.mono HBe.out.size);have hP07:=(hb7.cell (p:=⟨ob,off+(k - 1) * 5,none⟩) hobz).trans hP0;have hP17:=(hb7.cell (p:=⟨ob,off+(k - 1) * 5+1,none⟩) hobz).trans hP1;have hP27:=(hb7.cell (p:=⟨ob,off+(k - 1) * 5+2,none⟩) hobz).trans hP2;have hP37:=(hb7.cell (p:=⟨ob,off+(k - 1) * 5+3,none⟩) hobz).trans hP3;have hP47:=(hb7.cell (p:=⟨ob,off+(k - 1) * 5+4,none⟩) hobz).trans hP4;clear hb7
     (try go_wp2_with fail)
     refine hK.out _ _ ?_ (fun H_=>?_)
     ·exact ⟨hX7,hY7,hP07,hP17,hP27,hP37,hP47⟩
     clear hK K
     (try simp only [Act.put,sA,s0,sS])
     by_cases t2:Gate.zct (Gate.zeo b.ps[k].tm b.ps[k].rs) b.ls < 0
     ·have hd2:decide (Gate.zct (Gate.zeo b.ps[k].tm b.ps[k].rs) b.ls < 0)=true:=decide_eq_true t2
      have HLe:Hid (Gate.jq b.ls b.ps[k].tm b.ps[k].rs=false):=(Gate.zcb _ _).1 t2;clear t2;refine tH 11 rfl H_ ?_;refine tH 12 rfl H_ ?_;refine tH 13 rfl H_ ?_;refine kH 14 rfl H_ ?_;refine kH 15 rfl H_ ?_;refine kH 16 rfl H_ ?_;refine kH 17 rfl H_ ?_;refine tH 18 rfl H_ ?_;refine tH 19 rfl H_ ?_;refine kH 20 rfl H_ ?_;refine kH 21 rfl H_ ?_;refine kH 22 rfl H_ ?_;refine kH 23 rfl H_ ?_;refine kH 24 rfl H_ ?_;refine kH 25 rfl H_ ?_;refine kH 26 rfl H_ ?_;refine kH 27 rfl H_ ?_;refine kH 28 rfl H_ ?_;refine tH 29 rfl H_ ?_;refine tH 30 rfl H_ ?_;refine kH 31 rfl H_ ?_;refine kH 32 rfl H_ ?_;refine kH 33 rfl H_ ?_;refine kH 34 rfl H_ ?_;refine kH 35 rfl H_ ?_;refine kH 36 rfl H_ ?_;refine kH 37 rfl H_ ?_;refine kH 38 rfl H_ ?_;refine kH 39 rfl H_ ?_;refine kH 40 rfl H_ ?_;refine kH 41 rfl H_ ?_;refine kH 42 rfl H_ ?_;refine kH 43 rfl H_ ?_;refine tH 44 rfl H_ ?_;refine wpAnyH_done (by kernel_rfl) ?_ _;have HF:Hid (Gate.qy l b=false):=HNo.out (by unfold Gate.yE Gate.within;rw [HLe.out];simp);go_wp2_with fail
      go_ret;exact ⟨ze HF.out.symm,HBw.out _ HBe7.out⟩
     ·have hd2:decide (Gate.zct (Gate.zeo b.ps[k].tm b.ps[k].rs) b.ls < 0)=false:=decide_eq_false t2
      have HLe:Hid (Gate.jq b.ls b.ps[k].tm b.ps[k].rs=true):=by
       unfold Hid;rw [<- Gate.zmp]
       cases hq:b.ls.any (Gate.zeo b.ps[k].tm b.ps[k].rs) with
       | true=>rfl
       | false=>exact absurd ((Gate.zcb _ _).2 hq) t2
      clear t2;refine tH 11 rfl H_ ?_;refine tH 12 rfl H_ ?_;refine tH 13 rfl H_ ?_;refine tH 14 rfl H_ ?_;refine tH 15 rfl H_ ?_
      by_cases t3:(decide (1<=b.ps[k].am) && decide (b.ps[k].am<=1000000))=true
      ·refine cH 16 rfl fun K hK=>?_
       go_simp
       refine (zf t3 (yD _ _ _ _)).mono ?_;rintro e w6 ⟨rfl,rfl⟩
       (try go_wp2_with fail)
       refine hK.out _ _ ?_ (fun H_=>?_)
       ·exact H_
       clear hK K
       (try simp only [Act.put,sA,s0,sS])
       refine tH 17 rfl H_ ?_;refine tH 18 rfl H_ ?_;refine tH 19 rfl H_ ?_;refine tH 20 rfl H_ ?_;refine tH 21 rfl H_ ?_;refine tH 22 rfl H_ ?_;refine tH 23 rfl H_ ?_;refine tH 24 rfl H_ ?_;refine tH 25 rfl H_ ?_;refine tH 26 rfl H_ ?_
       by_cases t4:(decide (b.tick<=b.ps[k].un) && decide (b.ps[k].un<=b.tick+10))=true
       ·refine cH 27 rfl fun K hK=>?_
        go_simp
        refine (zf t4 (yD _ _ _ _)).mono ?_;rintro e w6 ⟨rfl,rfl⟩
        (try go_wp2_with fail)
        refine hK.out _ _ ?_ (fun H_=>?_)
        ·exact H_
        clear hK K
        (try simp only [Act.put,sA,s0,sS])
        refine tH 28 rfl H_ ?_;refine tH 29 rfl H_ ?_;refine tH 30 rfl H_ ?_;refine tH 31 rfl H_ ?_;refine tH 32 rfl H_ ?_;refine tH 33 rfl H_ ?_;refine tH 34 rfl H_ ?_;refine tH 35 rfl H_ ?_;refine tH 36 rfl H_ ?_;refine tH 37 rfl H_ ?_;refine tH 38 rfl H_ ?_;refine tH 39 rfl H_ ?_;refine tH 40 rfl H_ ?_;refine cH 41 rfl fun K hK=>?_
        go_simp
        refine (ziy (b.ps[k - 1]'(by omega)) b.ps[k] _).mono ?_;rintro e w8 ⟨rfl,hb8⟩;have hX8:=za hX7 hz7 hb8;have hY8:=za hY7 hy7 hb8;have hz8:=nLt hz7 hb8.size;have hy8:=nLt hy7 hb8.size;have hobz8:=nLt hobz7 hb8.size;have HBe8:Hid (Below W0.heap.size W0 w8):=HBe7.out.trans (hb8.mono HBe7.out.size);have hP08:=(hb8.cell (p:=⟨ob,off+(k - 1) * 5,none⟩) hobz7).trans hP07;have hP18:=(hb8.cell (p:=⟨ob,off+(k - 1) * 5+1,none⟩) hobz7).trans hP17;have hP28:=(hb8.cell (p:=⟨ob,off+(k - 1) * 5+2,none⟩) hobz7).trans hP27;have hP38:=(hb8.cell (p:=⟨ob,off+(k - 1) * 5+3,none⟩) hobz7).trans hP37;have hP48:=(hb8.cell (p:=⟨ob,off+(k - 1) * 5+4,none⟩) hobz7).trans hP47;clear hb8
        (try go_wp2_with fail)
        refine hK.out _ _ ?_ (fun H_=>?_)
        ·exact ⟨hX8,hY8,hP08,hP18,hP28,hP38,hP48⟩
        clear hK K
        (try simp only [Act.put,sA,s0,sS])
        by_cases t5:Gate.zae (b.ps[k - 1]'(by omega)) b.ps[k] < 0
        ·have hd5:decide (0<=Gate.zae (b.ps[k - 1]'(by omega)) b.ps[k])=false:=decide_eq_false (by omega)
         refine tH 42 rfl H_ ?_;refine tH 43 rfl H_ ?_;refine tH 44 rfl H_ ?_;refine wpAnyH_done (by kernel_rfl) ?_ _;have HG1:Hid (Gate.yE b.ls b.tick b.ps[k]=true):=by unfold Hid Gate.yE Gate.within;rw [HLe.out,t1,t3,t4];rfl
         have HD:Hid ((b.ps.take (k+1)).all (Gate.yE b.ls b.tick)=true/\Gate.jI Gate.zae b.ps (k+1)):=HYes.out HG1.out (Gate.zfK hlt (fun _=>t5));go_wp2_with fail
         exact ⟨⟨k+1,by omega,by go_num,HD.out.1,HD.out.2,HBe8.out⟩,by simp [intOf];omega⟩
        ·have hd5:decide (0<=Gate.zae (b.ps[k - 1]'(by omega)) b.ps[k])=true:=decide_eq_true (by omega)
         refine tH 42 rfl H_ ?_;refine tH 43 rfl H_ ?_;refine tH 44 rfl H_ ?_;refine wpAnyH_done (by kernel_rfl) ?_ _;have HF:Hid (Gate.qy l b=false):=HNa.out (by omega) (Int.not_lt.1 t5);go_wp2_with fail
         go_ret;exact ⟨ze HF.out.symm,HBw.out _ HBe8.out⟩
       ·refine cH 27 rfl fun K hK=>?_
        go_simp
        refine (zf (bFi t4) (yD _ _ _ _)).mono ?_;rintro e w6 ⟨rfl,rfl⟩
        (try go_wp2_with fail)
        refine hK.out _ _ ?_ (fun H_=>?_)
        ·exact H_
        clear hK K
        (try simp only [Act.put,sA,s0,sS])
        refine tH 28 rfl H_ ?_;refine tH 29 rfl H_ ?_;refine tH 30 rfl H_ ?_;refine kH 31 rfl H_ ?_;refine kH 32 rfl H_ ?_;refine kH 33 rfl H_ ?_;refine kH 34 rfl H_ ?_;refine kH 35 rfl H_ ?_;refine kH 36 rfl H_ ?_;refine kH 37 rfl H_ ?_;refine kH 38 rfl H_ ?_;refine kH 39 rfl H_ ?_;refine kH 40 rfl H_ ?_;refine kH 41 rfl H_ ?_;refine kH 42 rfl H_ ?_;refine kH 43 rfl H_ ?_;refine tH 44 rfl H_ ?_;refine wpAnyH_done (by kernel_rfl) ?_ _;have HF:Hid (Gate.qy l b=false):=HNo.out (by unfold Gate.yE Gate.within;rw [bFi t4];simp);go_wp2_with fail
        go_ret;exact ⟨ze HF.out.symm,HBw.out _ HBe7.out⟩
      ·refine cH 16 rfl fun K hK=>?_
       go_simp
       refine (zf (bFi t3) (yD _ _ _ _)).mono ?_;rintro e w6 ⟨rfl,rfl⟩
       (try go_wp2_with fail)
       refine hK.out _ _ ?_ (fun H_=>?_)
       ·exact H_
       clear hK K
       (try simp only [Act.put,sA,s0,sS])
       refine tH 17 rfl H_ ?_;refine tH 18 rfl H_ ?_;refine tH 19 rfl H_ ?_;refine kH 20 rfl H_ ?_;refine kH 21 rfl H_ ?_;refine kH 22 rfl H_ ?_;refine kH 23 rfl H_ ?_;refine kH 24 rfl H_ ?_;refine kH 25 rfl H_ ?_;refine kH 26 rfl H_ ?_;refine kH 27 rfl H_ ?_;refine kH 28 rfl H_ ?_;refine tH 29 rfl H_ ?_;refine tH 30 rfl H_ ?_;refine kH 31 rfl H_ ?_;refine kH 32 rfl H_ ?_;refine kH 33 rfl H_ ?_;refine kH 34 rfl H_ ?_;refine kH 35 rfl H_ ?_;refine kH 36 rfl H_ ?_;refine kH 37 rfl H_ ?_;refine kH 38 rfl H_ ?_;refine kH 39 rfl H_ ?_;refine kH 40 rfl H_ ?_;refine kH 41 rfl H_ ?_;refine kH 42 rfl H_ ?_;refine kH 43 rfl H_ ?_;refine tH 44 rfl H_ ?_;refine wpAnyH_done (by kernel_rfl) ?_ _;have HF:Hid (Gate.qy l b=false):=HNo.out (by unfold Gate.yE Gate.within;rw [bFi t3];simp);go_wp2_with fail
       go_ret;exact ⟨ze HF.out.symm,HBw.out _ HBe7.out⟩
    ·refine cH 2 rfl fun K hK=>?_
     go_simp
     refine (zf (bFi t1) (zh _ _ HSm.out.dr)).mono ?_;rintro e w6 ⟨rfl,rfl⟩
     (try go_wp2_with fail)
     refine hK.out _ _ ?_ (fun H_=>?_)
     ·exact H_
     clear hK K
     (try simp only [Act.put,sA,s0,sS])
     refine tH 3 rfl H_ ?_;refine tH 4 rfl H_ ?_;refine kH 5 rfl H_ ?_;refine kH 6 rfl H_ ?_;refine kH 7 rfl H_ ?_;refine kH 8 rfl H_ ?_;refine kH 9 rfl H_ ?_;refine kH 10 rfl H_ ?_;refine kH 11 rfl H_ ?_;refine tH 12 rfl H_ ?_;refine tH 13 rfl H_ ?_;refine kH 14 rfl H_ ?_;refine kH 15 rfl H_ ?_;refine kH 16 rfl H_ ?_;refine kH 17 rfl H_ ?_;refine tH 18 rfl H_ ?_;refine tH 19 rfl H_ ?_;refine kH 20 rfl H_ ?_;refine kH 21 rfl H_ ?_;refine kH 22 rfl H_ ?_;refine kH 23 rfl H_ ?_;refine kH 24 rfl H_ ?_;refine kH 25 rfl H_ ?_;refine kH 26 rfl H_ ?_;refine kH 27 rfl H_ ?_;refine kH 28 rfl H_ ?_;refine tH 29 rfl H_ ?_;refine tH 30 rfl H_ ?_;refine kH 31 rfl H_ ?_;refine kH 32 rfl H_ ?_;refine kH 33 rfl H_ ?_;refine kH 34 rfl H_ ?_;refine kH 35 rfl H_ ?_;refine kH 36 rfl H_ ?_;refine kH 37 rfl H_ ?_;refine kH 38 rfl H_ ?_;refine kH 39 rfl H_ ?_;refine kH 40 rfl H_ ?_;refine kH 41 rfl H_ ?_;refine kH 42 rfl H_ ?_;refine kH 43 rfl H_ ?_;refine tH 44 rfl H_ ?_;refine wpAnyH_done (by kernel_rfl) ?_ _;have HF:Hid (Gate.qy l b=false):=HNo.out (by unfold Gate.yE Gate.within;rw [bFi t1];simp);go_wp2_with fail
     go_ret;exact ⟨ze HF.out.symm,HBw.out _ HBe.out⟩
   ·have hg:decide (0 < k)=false:=decide_eq_false hk0
    clear HP;refine wp_region_held_drew (S:=fun w'=>(∀ j,w'.cell? ⟨w.heap.size+1,j,none⟩=(#[.int .i64 b.now,.int .i64 b.tick,.int .i64 b.given,.slice a0 b.os.length c0,.slice a1 b.gs.length c1,.slice a2 b.ls.length c2,.slice (some ⟨ob,off,none⟩) b.ps.length c3]:Array Value)[j]?)/\(∀ j,w'.cell? ⟨wr.heap.size,j,none⟩=(#[.string b.ps[k].dr,.string b.ps[k].tm,.string b.ps[k].rs,.int .i64 b.ps[k].am,.int .i64 b.ps[k].un]:Array Value)[j]?) ) (by kernel_rfl) ⟨hX,hY⟩ (fun H_=>?_);refine tH 0 rfl H_ ?_;refine tH 1 rfl H_ ?_
    by_cases t1:Gate.zy b.ps[k].dr=true
    ·refine cH 2 rfl fun K hK=>?_
     go_simp
     refine (zf t1 (zh _ _ HSm.out.dr)).mono ?_;rintro e w6 ⟨rfl,rfl⟩
     (try go_wp2_with fail)
     refine hK.out _ _ ?_ (fun H_=>?_)
     ·exact H_
     clear hK K
     (try simp only [Act.put,sA,s0,sS])
     refine tH 3 rfl H_ ?_;refine tH 4 rfl H_ ?_;refine tH 5 rfl H_ ?_;refine tH 6 rfl H_ ?_;refine tH 7 rfl H_ ?_;refine tH 8 rfl H_ ?_;refine tH 9 rfl H_ ?_;refine cH 10 rfl fun K hK=>?_
     go_simp
     refine (zfJ b a0 a1 a2 (some ⟨ob,off,none⟩) c0 c1 c2 c3 _ _ _ HKq.out (by have:=HLN.out;omega)).mono ?_;rintro e w7 ⟨rfl,hb7⟩;have hX7:=za hX hz hb7;have hY7:=za hY hy hb7;have hz7:=nLt hz hb7.size;have hy7:=nLt hy hb7.size;have hobz7:=nLt hobz hb7.size;have HBe7:Hid (Below W0.heap.size W0 w7):=HBe.out.trans (hb7.mono HBe.out.size);clear hb7
     (try go_wp2_with fail)
     refine hK.out _ _ ?_ (fun H_=>?_)
     ·exact ⟨hX7,hY7⟩
     clear hK K
     (try simp only [Act.put,sA,s0,sS])
     by_cases t2:Gate.zct (Gate.zeo b.ps[k].tm b.ps[k].rs) b.ls < 0
     ·have hd2:decide (Gate.zct (Gate.zeo b.ps[k].tm b.ps[k].rs) b.ls < 0)=true:=decide_eq_true t2
      have HLe:Hid (Gate.jq b.ls b.ps[k].tm b.ps[k].rs=false):=(Gate.zcb _ _).1 t2;clear t2;refine tH 11 rfl H_ ?_;refine tH 12 rfl H_ ?_;refine tH 13 rfl H_ ?_;refine kH 14 rfl H_ ?_;refine kH 15 rfl H_ ?_;refine kH 16 rfl H_ ?_;refine kH 17 rfl H_ ?_;refine tH 18 rfl H_ ?_;refine tH 19 rfl H_ ?_;refine kH 20 rfl H_ ?_;refine kH 21 rfl H_ ?_;refine kH 22 rfl H_ ?_;refine kH 23 rfl H_ ?_;refine kH 24 rfl H_ ?_;refine kH 25 rfl H_ ?_;refine kH 26 rfl H_ ?_;refine kH 27 rfl H_ ?_;refine kH 28 rfl H_ ?_;refine tH 29 rfl H_ ?_;refine tH 30 rfl H_ ?_;refine kH 31 rfl H_ ?_;refine kH 32 rfl H_ ?_;refine kH 33 rfl H_ ?_;refine kH 34 rfl H_ ?_;refine kH 35 rfl H_ ?_;refine kH 36 rfl H_ ?_;refine kH 37 rfl H_ ?_;refine kH 38 rfl H_ ?_;refine kH 39 rfl H_ ?_;refine kH 40 rfl H_ ?_;refine kH 41 rfl H_ ?_;refine kH 42 rfl H_ ?_;refine kH 43 rfl H_ ?_;refine tH 44 rfl H_ ?_;refine wpAnyH_done (by kernel_rfl) ?_ _;have HF:Hid (Gate.qy l b=false):=HNo.out (by unfold Gate.yE Gate.within;rw [HLe.out];simp);go_wp2_with fail
      go_ret;exact ⟨ze HF.out.symm,HBw.out _ HBe7.out⟩
     ·have hd2:decide (Gate.zct (Gate.zeo b.ps[k].tm b.ps[k].rs) b.ls < 0)=false:=decide_eq_false t2
      have HLe:Hid (Gate.jq b.ls b.ps[k].tm b.ps[k].rs=true):=by
       unfold Hid;rw [<- Gate.zmp]
       cases hq:b.ls.any (Gate.zeo b.ps[k].tm b.ps[k].rs) with
       | true=>rfl
       | false=>exact absurd ((Gate.zcb _ _).2 hq) t2
      clear t2;refine tH 11 rfl H_ ?_;refine tH 12 rfl H_ ?_;refine tH 13 rfl H_ ?_;refine tH 14 rfl H_ ?_;refine tH 15 rfl H_ ?_
      by_cases t3:(decide (1<=b.ps[k].am) && decide (b.ps[k].am<=1000000))=true
      ·refine cH 16 rfl fun K hK=>?_
       go_simp
       refine (zf t3 (yD _ _ _ _)).mono ?_;rintro e w6 ⟨rfl,rfl⟩
       (try go_wp2_with fail)
       refine hK.out _ _ ?_ (fun H_=>?_)
       ·exact H_
       clear hK K
       (try simp only [Act.put,sA,s0,sS])
       refine tH 17 rfl H_ ?_;refine tH 18 rfl H_ ?_;refine tH 19 rfl H_ ?_;refine tH 20 rfl H_ ?_;refine tH 21 rfl H_ ?_;refine tH 22 rfl H_ ?_;refine tH 23 rfl H_ ?_;refine tH 24 rfl H_ ?_;refine tH 25 rfl H_ ?_;refine tH 26 rfl H_ ?_
       by_cases t4:(decide (b.tick<=b.ps[k].un) && decide (b.ps[k].un<=b.tick+10))=true
       ·refine cH 27 rfl fun K hK=>?_
        go_simp
        refine (zf t4 (yD _ _ _ _)).mono ?_;rintro e w6 ⟨rfl,rfl⟩
        (try go_wp2_with fail)
        refine hK.out _ _ ?_ (fun H_=>?_)
        ·exact H_
        clear hK K
        (try simp only [Act.put,sA,s0,sS])
        refine tH 28 rfl H_ ?_;refine tH 29 rfl H_ ?_;refine tH 30 rfl H_ ?_;refine tH 31 rfl H_ ?_;refine tH 32 rfl H_ ?_;refine tH 33 rfl H_ ?_;refine kH 34 rfl H_ ?_;refine kH 35 rfl H_ ?_;refine kH 36 rfl H_ ?_;refine kH 37 rfl H_ ?_;refine kH 38 rfl H_ ?_;refine kH 39 rfl H_ ?_;refine kH 40 rfl H_ ?_;refine kH 41 rfl H_ ?_;refine kH 42 rfl H_ ?_;refine tH 43 rfl H_ ?_;refine tH 44 rfl H_ ?_;refine wpAnyH_done (by kernel_rfl) ?_ _;have HG1:Hid (Gate.yE b.ls b.tick b.ps[k]=true):=by unfold Hid Gate.yE Gate.within;rw [HLe.out,t1,t3,t4];rfl
        have HD:Hid ((b.ps.take (k+1)).all (Gate.yE b.ls b.tick)=true/\Gate.jI Gate.zae b.ps (k+1)):=HYes.out HG1.out (fun m e=>by omega);go_wp2_with fail
        exact ⟨⟨k+1,by omega,by go_num,HD.out.1,HD.out.2,HBe7.out⟩,by simp [intOf];omega⟩
       ·refine cH 27 rfl fun K hK=>?_
        go_simp
        refine (zf (bFi t4) (yD _ _ _ _)).mono ?_;rintro e w6 ⟨rfl,rfl⟩
        (try go_wp2_with fail)
        refine hK.out _ _ ?_ (fun H_=>?_)
        ·exact H_
        clear hK K
        (try simp only [Act.put,sA,s0,sS])
        refine tH 28 rfl H_ ?_;refine tH 29 rfl H_ ?_;refine tH 30 rfl H_ ?_;refine kH 31 rfl H_ ?_;refine kH 32 rfl H_ ?_;refine kH 33 rfl H_ ?_;refine kH 34 rfl H_ ?_;refine kH 35 rfl H_ ?_;refine kH 36 rfl H_ ?_;refine kH 37 rfl H_ ?_;refine kH 38 rfl H_ ?_;refine kH 39 rfl H_ ?_;refine kH 40 rfl H_ ?_;refine kH 41 rfl H_ ?_;refine kH 42 rfl H_ ?_;refine kH 43 rfl H_ ?_;refine tH 44 rfl H_ ?_;refine wpAnyH_done (by kernel_rfl) ?_ _;have HF:Hid (Gate.qy l b=false):=HNo.out (by unfold Gate.yE Gate.within;rw [bFi t4];simp);go_wp2_with fail
        go_ret;exact ⟨ze HF.out.symm,HBw.out _ HBe7.out⟩
      ·refine cH 16 rfl fun K hK=>?_
       go_simp
       refine (zf (bFi t3) (yD _ _ _ _)).mono ?_;rintro e w6 ⟨rfl,rfl⟩
       (try go_wp2_with fail)
       refine hK.out _ _ ?_ (fun H_=>?_)
       ·exact H_
       clear hK K
       (try simp only [Act.put,sA,s0,sS])
       refine tH 17 rfl H_ ?_;refine tH 18 rfl H_ ?_;refine tH 19 rfl H_ ?_;refine kH 20 rfl H_ ?_;refine kH 21 rfl H_ ?_;refine kH 22 rfl H_ ?_;refine kH 23 rfl H_ ?_;refine kH 24 rfl H_ ?_;refine kH 25 rfl H_ ?_;refine kH 26 rfl H_ ?_;refine kH 27 rfl H_ ?_;refine kH 28 rfl H_ ?_;refine tH 29 rfl H_ ?_;refine tH 30 rfl H_ ?_;refine kH 31 rfl H_ ?_;refine kH 32 rfl H_ ?_;refine kH 33 rfl H_ ?_;refine kH 34 rfl H_ ?_;refine kH 35 rfl H_ ?_;refine kH 36 rfl H_ ?_;refine kH 37 rfl H_ ?_;refine kH 38 rfl H_ ?_;refine kH 39 rfl H_ ?_;refine kH 40 rfl H_ ?_;refine kH 41 rfl H_ ?_;refine kH 42 rfl H_ ?_;refine kH 43 rfl H_ ?_;refine tH 44 rfl H_ ?_;refine wpAnyH_done (by kernel_rfl) ?_ _;have HF:Hid (Gate.qy l b=false):=HNo.out (by unfold Gate.yE Gate.within;rw [bFi t3];simp);go_wp2_with fail
       go_ret;exact ⟨ze HF.out.symm,HBw.out _ HBe7.out⟩
    ·refine cH 2 rfl fun K hK=>?_
     go_simp
     refine (zf (bFi t1) (zh _ _ HSm.out.dr)).mono ?_;rintro e w6 ⟨rfl,rfl⟩
     (try go_wp2_with fail)
     refine hK.out _ _ ?_ (fun H_=>?_)
     ·exact H_
     clear hK K
     (try simp only [Act.put,sA,s0,sS])
     refine tH 3 rfl H_ ?_;refine tH 4 rfl H_ ?_;refine kH 5 rfl H_ ?_;refine kH 6 rfl H_ ?_;refine kH 7 rfl H_ ?_;refine kH 8 rfl H_ ?_;refine kH 9 rfl H_ ?_;refine kH 10 rfl H_ ?_;refine kH 11 rfl H_ ?_;refine tH 12 rfl H_ ?_;refine tH 13 rfl H_ ?_;refine kH 14 rfl H_ ?_;refine kH 15 rfl H_ ?_;refine kH 16 rfl H_ ?_;refine kH 17 rfl H_ ?_;refine tH 18 rfl H_ ?_;refine tH 19 rfl H_ ?_;refine kH 20 rfl H_ ?_;refine kH 21 rfl H_ ?_;refine kH 22 rfl H_ ?_;refine kH 23 rfl H_ ?_;refine kH 24 rfl H_ ?_;refine kH 25 rfl H_ ?_;refine kH 26 rfl H_ ?_;refine kH 27 rfl H_ ?_;refine kH 28 rfl H_ ?_;refine tH 29 rfl H_ ?_;refine tH 30 rfl H_ ?_;refine kH 31 rfl H_ ?_;refine kH 32 rfl H_ ?_;refine kH 33 rfl H_ ?_;refine kH 34 rfl H_ ?_;refine kH 35 rfl H_ ?_;refine kH 36 rfl H_ ?_;refine kH 37 rfl H_ ?_;refine kH 38 rfl H_ ?_;refine kH 39 rfl H_ ?_;refine kH 40 rfl H_ ?_;refine kH 41 rfl H_ ?_;refine kH 42 rfl H_ ?_;refine kH 43 rfl H_ ?_;refine tH 44 rfl H_ ?_;refine wpAnyH_done (by kernel_rfl) ?_ _;have HF:Hid (Gate.qy l b=false):=HNo.out (by unfold Gate.yE Gate.within;rw [bFi t1];simp);go_wp2_with fail
     go_ret;exact ⟨ze HF.out.symm,HBw.out _ HBe.out⟩
  ·have e:k=b.ps.length:=by omega
   subst e
   have HAm:Hid (b.ps.all (Gate.yE b.ls b.tick)=true):=by
    have:=HQ.out.1
    rwa [tOl (Nat.le_refl _)] at this
   have HPu:Hid (Gate.yX b=true):=by
    unfold Hid Gate.yX;rw [Gate.zgd HQ.out.2.1 (Nat.le_refl _),decide_eq_true HPN.out,HAm.out];rfl
   obtain ⟨W1,hW1⟩:∃ W1,W1=wr:=⟨_,rfl⟩
   rw [<- hW1] at hX1 hL1 hz1 HBq ⊢;clear HQ hlt hk hX0 hz0 hL0 hW1 HB0;go_wp2_with fail
   go_loopw [7] (fun iv wr=>∃ k:Nat,k<=b.ls.length/\iv = .int .i64 k/\Hid ((b.ls.take k).all (Gate.yN l.ts)=true/\Gate.jI Gate.qC b.ls k/\(b.ls.take k).all (Gate.za0 l b)=true/\Below W1.heap.size W1 wr)) (fun iv _=>b.ls.length - (intOf iv).toNat)
   case atStart=>exact ⟨0,Nat.zero_le _,rfl,by simp,fun i _ h=>by omega,by simp,bRf _ _⟩
   case round =>
    obtain ⟨k,hk,rfl,HQ⟩:=hrel;have hkn:k<=10:=by have:=HLN.out;omega
    have hX2:=za hX1 hz1 HQ.out.2.2.2;have hL2:=za hL1 (nSl hz1) HQ.out.2.2.2;have hz2:=nLt hz1 HQ.out.2.2.2.size;have hq2:=nSl hz2;have HBr:Hid (Below w.heap.size w wr):=HBq.out.trans (HQ.out.2.2.2.mono HBq.out.size)
    by_cases hlt:k < b.ls.length
    ·have hsm:=HK.out.ls.small k hlt
     obtain ⟨ob,off,rfl,hob,d0,d1,d2,d3⟩:=HK.out.ls.load HBr.out k hlt;have hob':ob < wr.heap.size:=nLt hob HBr.out.size;have hltI:(k:Int) < (b.ls.length:Int):=by omega
     have HBo:Hid (∀ ob,Below W1.heap.size W1 (wr.alloc ob)):=fun ob=>HQ.out.2.2.2.alloc HQ.out.2.2.2.size _
     have HBw:Hid (∀ W,Below W1.heap.size W1 W->Below w.heap.size w W):=fun W hW=>HBq.out.trans (hW.mono HBq.out.size)
     have HNo:Hid ((Gate.yN l.ts) b.ls[k]=false->Gate.qy l b=false):=fun h=>Gate.zet (by unfold Gate.yP;rw [Gate.zaC _ _ _ hlt h];simp)
     have HNs:Hid ((Gate.za0 l b) b.ls[k]=false->Gate.qy l b=false):=fun h=>Gate.zmL (by unfold Gate.zcJ;rw [Gate.zaC _ _ _ hlt h])
     have HNa:Hid (0 < k->0<=Gate.qC (b.ls[k - 1]'(by omega)) b.ls[k]->Gate.qy l b=false):=fun h0 h=>Gate.zet (by unfold Gate.yP;rw [Gate.zdG hlt h0 (Int.not_lt.2 h)];simp)
     have HYes:Hid ((Gate.yN l.ts) b.ls[k]=true->(∀ m (e:k=m+1),Gate.qC (b.ls[m]'(by omega)) b.ls[k] < 0)->Gate.za0 l b b.ls[k]=true->(b.ls.take (k+1)).all (Gate.yN l.ts)=true/\Gate.jI Gate.qC b.ls (k+1)/\(b.ls.take (k+1)).all (Gate.za0 l b)=true):=fun h h' h''=>⟨by rw [Gate.qU _ _ _ hlt,HQ.out.1,h];rfl,Gate.ze1 HQ.out.2.1 hlt h',by rw [Gate.qU _ _ _ hlt,HQ.out.2.2.1,h''];rfl⟩
     have HSm:Hid (b.ls[k].Small):=hsm;clear hsm;go_wp2_with fail
     have hY0:=zm wr #[.string b.ls[k].tm,.string b.ls[k].rs,.int .i64 b.ls[k].mo,.int .i64 b.ls[k].fr] 134;have hb5:Below wr.heap.size wr (wr.alloc (.cells #[.string b.ls[k].tm,.string b.ls[k].rs,.int .i64 b.ls[k].mo,.int .i64 b.ls[k].fr] 134)):=bAl _ _;have HBe:=HBo.out (.cells #[.string b.ls[k].tm,.string b.ls[k].rs,.int .i64 b.ls[k].mo,.int .i64 b.ls[k].fr] 134);obtain ⟨W5,hW5⟩:∃ W5,W5=wr.alloc (.cells #[.string b.ls[k].tm,.string b.ls[k].rs,.int .i64 b.ls[k].mo,.int .i64 b.ls[k].fr] 134):=⟨_,rfl⟩
     have hy:wr.heap.size < W5.heap.size:=by rw [hW5];simp
     rw [<- hW5] at hb5 hY0 HBe ⊢;clear hW5 d0 d1 d2 d3;have hX:=za hX2 hz2 hb5;have hLw:=za hL2 (nSl hz2) hb5;have hY:=hY0;have hz:w.heap.size+1 < W5.heap.size:=nLt hz2 hb5.size;have hz':=nSl hz;have HBe:Hid (Below W1.heap.size W1 W5):=HBe;have hobz:ob < W5.heap.size:=nLt hob' hb5.size;have HBf:Hid (Below w.heap.size w W5):=HBr.out.trans (hb5.mono HBr.out.size)
     have HP:Hid (∀ h0:0 < k,W5.cell? ⟨ob,off+(k - 1) * 4,none⟩=some (.string (b.ls[k - 1]'(by omega)).tm)/\W5.cell? ⟨ob,off+(k - 1) * 4+1,none⟩=some (.string (b.ls[k - 1]'(by omega)).rs)):=fun h0=>by
      obtain ⟨ob',off',e',hob'',e0,e1,e2,e3⟩:=HK.out.ls.load HBf.out (k - 1) (by omega)
      cases e'
      exact ⟨e0,e1⟩
     clear hX1 hz1 hb5 hY0 HBo hX2 hz2 hL1 hL2 hob hob' HQ;refine (zbR _ _ l.ts b.ls[k].tm _ (HL.out.ts.mono HBf.out)).mono ?_;rintro e w6 ⟨rfl,hww⟩;rw [hww];clear hww w6
     by_cases t1:Gate.yA l.ts b.ls[k].tm=true
     rotate_left
     ·have HF:Hid (Gate.qy l b=false):=HNo.out (by unfold Gate.yN;rw [bFi t1];rfl)
      rw [bFi t1];clear t1;go_wp2_with fail
      go_ret;exact ⟨ze HF.out.symm,HBf.out⟩
     have HT1:Hid (Gate.yA l.ts b.ls[k].tm=true):=t1;rw [t1];clear t1;go_wp2_with fail
     refine (zh b.ls[k].rs _ HSm.out.rs).mono ?_;rintro e w6 ⟨rfl,hww⟩;rw [hww];clear hww w6
     by_cases t2:Gate.zy b.ls[k].rs=true
     rotate_left
     ·have HF:Hid (Gate.qy l b=false):=HNo.out (by unfold Gate.yN;rw [bFi t2];simp)
      rw [bFi t2];clear t2;go_wp2_with fail
      go_ret;exact ⟨ze HF.out.symm,HBf.out⟩
     have HT2:Hid (Gate.zy b.ls[k].rs=true):=t2;rw [t2];clear t2
     by_cases t3:b.ls[k].fr < 0
     ·have HF:Hid (Gate.qy l b=false):=HNo.out (by unfold Gate.yN Gate.jF;rw [decide_eq_false (p:=0<=b.ls[k].fr) (by omega)];simp)
      have hd:decide (b.ls[k].fr < 0)=true:=decide_eq_true t3;go_wp2_with fail
      go_ret;exact ⟨ze HF.out.symm,HBf.out⟩
     have hd3:decide (b.ls[k].fr < 0)=false:=decide_eq_false t3
     by_cases t4:b.ls[k].mo < b.ls[k].fr
     ·have HF:Hid (Gate.qy l b=false):=HNo.out (by unfold Gate.yN Gate.jF;rw [decide_eq_false (p:=b.ls[k].fr<=b.ls[k].mo) (by omega)];simp)
      have hd:decide (b.ls[k].mo < b.ls[k].fr)=true:=decide_eq_true t4;go_wp2_with fail
      go_ret;exact ⟨ze HF.out.symm,HBf.out⟩
     have hd4:decide (b.ls[k].mo < b.ls[k].fr)=false:=decide_eq_false t4
     by_cases t5:1000000 < b.ls[k].mo
     ·have HF:Hid (Gate.qy l b=false):=HNo.out (by unfold Gate.yN Gate.jF;rw [decide_eq_false (p:=b.ls[k].mo<=1000000) (by omega)];simp)
      have hd:decide (1000000 < b.ls[k].mo)=true:=decide_eq_true t5;go_wp2_with fail
      go_ret;exact ⟨ze HF.out.symm,HBf.out⟩
     have hd5:decide (1000000 < b.ls[k].mo)=false:=decide_eq_false t5
     have HLa:Hid (Gate.yN l.ts b.ls[k]=true):=by
      unfold Hid Gate.yN Gate.jF;rw [HT1.out,HT2.out,decide_eq_true (p:=0<=b.ls[k].fr) (by omega),decide_eq_true (p:=b.ls[k].fr<=b.ls[k].mo) (by omega),decide_eq_true (p:=b.ls[k].mo<=1000000) (by omega)];rfl
     have HFr:Hid (0<=b.ls[k].fr/\b.ls[k].fr<=1000000):=by unfold Hid;omega
     clear t3 t4 t5;go_wp2_with fail
     clear hd3 hd4 hd5
     by_cases hk0:0 < k
     ·have hk1:(0:Int)<=(k:Int) - 1:=by omega
      have hk2:(k:Int) - 1 < (b.ls.length:Int):=by omega
      have hg:decide (0 < k)=true:=decide_eq_true hk0;have hkw:IntKind.i64.wrap ((k:Int) - 1)=(k:Int) - 1:=by rw [IntKind.wrap_i64];omega
      have hkN:((k:Int) - 1).toNat=k - 1:=by omega
      have hk3:(1:Int)<=(k:Int):=by omega
      obtain ⟨hP0,hP1⟩:=HP.out hk0;refine wp_region_held_drew (S:=fun w'=>(∀ j,w'.cell? ⟨w.heap.size+1,j,none⟩=(#[.int .i64 b.now,.int .i64 b.tick,.int .i64 b.given,.slice a0 b.os.length c0,.slice a1 b.gs.length c1,.slice (some ⟨ob,off,none⟩) b.ls.length c2,.slice a3 b.ps.length c3]:Array Value)[j]?)/\(∀ j,w'.cell? ⟨wr.heap.size,j,none⟩=(#[.string b.ls[k].tm,.string b.ls[k].rs,.int .i64 b.ls[k].mo,.int .i64 b.ls[k].fr]:Array Value)[j]?)/\w'.cell? ⟨ob,off+(k - 1) * 4,none⟩=some (.string (b.ls[k - 1]'(by omega)).tm)/\w'.cell? ⟨ob,off+(k - 1) * 4+1,none⟩=some (.string (b.ls[k - 1]'(by omega)).rs)) (by kernel_rfl) ⟨za hX hz (bRf W5.heap.size W5).drew,za hY hy (bRf W5.heap.size W5).drew,hP0,hP1⟩ (fun H_=>?_);refine tH 0 rfl H_ ?_;refine tH 1 rfl H_ ?_;refine tH 2 rfl H_ ?_;refine tH 3 rfl H_ ?_;refine tH 4 rfl H_ ?_;refine tH 5 rfl H_ ?_;refine tH 6 rfl H_ ?_;refine tH 7 rfl H_ ?_;refine tH 8 rfl H_ ?_;refine tH 9 rfl H_ ?_;refine tH 10 rfl H_ ?_;refine tH 11 rfl H_ ?_;refine tH 12 rfl H_ ?_;refine tH 13 rfl H_ ?_;refine tH 14 rfl H_ ?_;refine tH 15 rfl H_ ?_;refine tH 16 rfl H_ ?_;refine tH 17 rfl H_ ?_;refine tH 18 rfl H_ ?_;refine tH 19 rfl H_ ?_;refine tH 20 rfl H_ ?_;refine cH 21 rfl fun K hK=>?_
      go_simp
      refine (zhe _ _ _ _ _).mono ?_;rintro e w6 ⟨rfl,rfl⟩
      (try go_wp2_with fail)
      refine hK.out _ _ ?_ (fun H_=>?_)
      ·exact H_
      clear hK K
      (try simp only [Act.put,sA,s0,sS])
      by_cases t6:Gate.key2 (b.ls[k - 1]'(by omega)).tm (b.ls[k - 1]'(by omega)).rs b.ls[k].tm b.ls[k].rs < 0
      ·have hd6:decide (0<=Gate.key2 (b.ls[k - 1]'(by omega)).tm (b.ls[k - 1]'(by omega)).rs b.ls[k].tm b.ls[k].rs)=false:=decide_eq_false (by omega)
       refine tH 22 rfl H_ ?_;refine tH 23 rfl H_ ?_;refine wpAnyH_done (by kernel_rfl) ?_ _;have HT6:Hid (Gate.key2 (b.ls[k - 1]'(by omega)).tm (b.ls[k - 1]'(by omega)).rs b.ls[k].tm b.ls[k].rs < 0):=t6;clear t6 hd6;go_wp2_with fail
       have hLD:=za hLw hz' (bRf W5.heap.size W5).drew.drew;have hXD:=za hX hz (bRf W5.heap.size W5).drew.drew;have hYD:=za hY hy (bRf W5.heap.size W5).drew.drew;have hzD:w.heap.size+1 < W5.drew.drew.heap.size:=hz;have hyD:wr.heap.size < W5.drew.drew.heap.size:=hy;have HBeD:Hid (Below W1.heap.size W1 W5.drew.drew):=HBe.out.drew.drew;have HUs:=zd9 l b b.ls[k].tm b.ls[k].rs HZ.out.1;have HOs:=Gate.zbE b.ps b.ls[k].tm b.ls[k].rs (Gate.zf5 HAm.out) b.ps.length (Nat.le_refl _);have hw1:IntKind.i64.wrap (Gate.used l b.os b.ls[k].tm b.ls[k].rs+Gate.out b.ps b.ls[k].tm b.ls[k].rs)=Gate.used l b.os b.ls[k].tm b.ls[k].rs+Gate.out b.ps b.ls[k].tm b.ls[k].rs:=by rw [IntKind.wrap_i64];have:=HPN.out;unfold Gate.out;omega
       have hw2:IntKind.i64.wrap (Gate.used l b.os b.ls[k].tm b.ls[k].rs+Gate.out b.ps b.ls[k].tm b.ls[k].rs+b.ls[k].fr)=Gate.used l b.os b.ls[k].tm b.ls[k].rs+Gate.out b.ps b.ls[k].tm b.ls[k].rs+b.ls[k].fr:=by rw [IntKind.wrap_i64];have:=HPN.out;have:=HFr.out;unfold Gate.out;omega
       clear HUs HOs;refine wp_region_held_drew (S:=fun w'=>(∀ j,w'.cell? ⟨w.heap.size,j,none⟩=(#[.slice la l.ss.length lca,.slice lb l.ms.length lcb,.slice lc l.ts.length lcc]:Array Value)[j]?)/\(∀ j,w'.cell? ⟨w.heap.size+1,j,none⟩=(#[.int .i64 b.now,.int .i64 b.tick,.int .i64 b.given,.slice a0 b.os.length c0,.slice a1 b.gs.length c1,.slice (some ⟨ob,off,none⟩) b.ls.length c2,.slice a3 b.ps.length c3]:Array Value)[j]?)/\(∀ j,w'.cell? ⟨wr.heap.size,j,none⟩=(#[.string b.ls[k].tm,.string b.ls[k].rs,.int .i64 b.ls[k].mo,.int .i64 b.ls[k].fr]:Array Value)[j]?)) (by kernel_rfl) ⟨hLD,hXD,hYD⟩ (fun H_=>?_);refine tH 0 rfl H_ ?_;refine tH 1 rfl H_ ?_;refine tH 2 rfl H_ ?_;refine tH 3 rfl H_ ?_;refine tH 4 rfl H_ ?_;refine tH 5 rfl H_ ?_;refine tH 7 rfl H_ ?_;refine tH 8 rfl H_ ?_;refine tH 9 rfl H_ ?_;refine tH 10 rfl H_ ?_;refine tH 11 rfl H_ ?_;refine tH 14 rfl H_ ?_;refine tH 15 rfl H_ ?_;refine tH 17 rfl H_ ?_;refine tH 18 rfl H_ ?_;refine cH 6 rfl fun K hK=>?_
       go_simp
       refine (zgy l la lb lc lca lcb lcc b a0 a1 _ a3 c0 c1 c2 c3 _ _ _ (HL.out.mono (HBw.out _ HBeD.out)) (HK.out.mono (HBw.out _ HBeD.out)) HZ.out.1).mono ?_;rintro e w7 ⟨rfl,hb7⟩;have hX7:=za hXD hzD hb7;have hL7:=za hLD (nSl hzD) hb7;have hY7:=za hYD hyD hb7;have hz7:=nLt hzD hb7.size;have hy7:=nLt hyD hb7.size;have HBe7:Hid (Below W1.heap.size W1 w7):=HBeD.out.trans (hb7.mono HBeD.out.size);clear hb7
       (try go_wp2_with fail)
       refine hK.out _ _ ?_ (fun H_=>?_)
       ·exact ⟨hL7,hX7,hY7⟩
       clear hK K
       (try simp only [Act.put,sA,s0,sS])
       refine cH 12 rfl fun K hK=>?_
       go_simp
       refine (zkq b a0 a1 _ a3 c0 c1 c2 c3 _ _ _ (HK.out.mono (HBw.out _ HBe7.out)) (by have:=HPN.out;omega) (Gate.zf5 HAm.out)).mono ?_;rintro e w8 ⟨rfl,hb8⟩;have hX8:=za hX7 hz7 hb8;have hL8:=za hL7 (nSl hz7) hb8;have hY8:=za hY7 hy7 hb8;have hz8:=nLt hz7 hb8.size;have hy8:=nLt hy7 hb8.size;have HBe8:Hid (Below W1.heap.size W1 w8):=HBe7.out.trans (hb8.mono HBe7.out.size);clear hb8
       (try go_wp2_with fail)
       refine hK.out _ _ ?_ (fun H_=>?_)
       ·exact ⟨hL8,hX8,hY8⟩
       clear hK K
       (try simp only [Act.put,sA,s0,sS])
       refine tH 13 rfl H_ ?_;refine tH 16 rfl H_ ?_
       by_cases t7:Gate.used l b.os b.ls[k].tm b.ls[k].rs+Gate.out b.ps b.ls[k].tm b.ls[k].rs+b.ls[k].fr=b.ls[k].mo
       ·have hd7:(Gate.used l b.os b.ls[k].tm b.ls[k].rs+Gate.out b.ps b.ls[k].tm b.ls[k].rs+b.ls[k].fr != b.ls[k].mo)=false:=bne_eq_false_iff_eq.2 t7
        have HT7:Hid (Gate.used l b.os b.ls[k].tm b.ls[k].rs+Gate.out b.ps b.ls[k].tm b.ls[k].rs+b.ls[k].fr=b.ls[k].mo):=t7;clear t7;refine tH 19 rfl H_ ?_;refine wpAnyH_done (by kernel_rfl) ?_ _;have HD:Hid ((b.ls.take (k+1)).all (Gate.yN l.ts)=true/\Gate.jI Gate.qC b.ls (k+1)/\(b.ls.take (k+1)).all (Gate.za0 l b)=true):=HYes.out HLa.out (Gate.zfK hlt (fun _=>HT6.out)) (by unfold Gate.za0 Gate.sumTo;rw [decide_eq_true_eq];have:=HT7.out;unfold Gate.out at this;omega);go_wp2_with fail
        exact ⟨⟨k+1,by omega,by go_num,HD.out.1,HD.out.2.1,HD.out.2.2,HBe8.out⟩,by simp [intOf];omega⟩
       ·have hd7:(Gate.used l b.os b.ls[k].tm b.ls[k].rs+Gate.out b.ps b.ls[k].tm b.ls[k].rs+b.ls[k].fr != b.ls[k].mo)=true:=bne_iff_ne.2 t7
        have HT7:Hid (¬ (Gate.used l b.os b.ls[k].tm b.ls[k].rs+Gate.out b.ps b.ls[k].tm b.ls[k].rs+b.ls[k].fr=b.ls[k].mo)):=t7;clear t7;refine tH 19 rfl H_ ?_;refine wpAnyH_done (by kernel_rfl) ?_ _;have HF:Hid (Gate.qy l b=false):=HNs.out (by unfold Gate.za0 Gate.sumTo;rw [decide_eq_false_iff_not];have:=HT7.out;unfold Gate.out at this;omega);go_wp2_with fail
        go_ret;exact ⟨ze HF.out.symm,HBw.out _ HBe8.out⟩
      ·have hd6:decide (0<=Gate.key2 (b.ls[k - 1]'(by omega)).tm (b.ls[k - 1]'(by omega)).rs b.ls[k].tm b.ls[k].rs)=true:=decide_eq_true (by omega)
       refine tH 22 rfl H_ ?_;refine tH 23 rfl H_ ?_;refine wpAnyH_done (by kernel_rfl) ?_ _;have HF:Hid (Gate.qy l b=false):=HNa.out (by omega) (Int.not_lt.1 t6);go_wp2_with fail
       go_ret;exact ⟨ze HF.out.symm,HBw.out _ HBe.out.drew⟩
     ·have hg:decide (0 < k)=false:=decide_eq_false hk0
      refine wp_region_held_drew (S:=fun w'=>(∀ j,w'.cell? ⟨w.heap.size+1,j,none⟩=(#[.int .i64 b.now,.int .i64 b.tick,.int .i64 b.given,.slice a0 b.os.length c0,.slice a1 b.gs.length c1,.slice (some ⟨ob,off,none⟩) b.ls.length c2,.slice a3 b.ps.length c3]:Array Value)[j]?)/\(∀ j,w'.cell? ⟨wr.heap.size,j,none⟩=(#[.string b.ls[k].tm,.string b.ls[k].rs,.int .i64 b.ls[k].mo,.int .i64 b.ls[k].fr]:Array Value)[j]?) ) (by kernel_rfl) ⟨za hX hz (bRf W5.heap.size W5).drew,za hY hy (bRf W5.heap.size W5).drew⟩ (fun H_=>?_);refine tH 0 rfl H_ ?_;refine tH 1 rfl H_ ?_;refine tH 2 rfl H_ ?_;refine kH 3 rfl H_ ?_;refine kH 4 rfl H_ ?_;refine kH 5 rfl H_ ?_;refine kH 6 rfl H_ ?_;refine kH 7 rfl H_ ?_;refine kH 8 rfl H_ ?_;refine kH 9 rfl H_ ?_;refine kH 10 rfl H_ ?_;refine kH 11 rfl H_ ?_;refine kH 12 rfl H_ ?_;refine kH 13 rfl H_ ?_;refine kH 14 rfl H_ ?_;refine kH 15 rfl H_ ?_;refine kH 16 rfl H_ ?_;refine kH 17 rfl H_ ?_;refine kH 18 rfl H_ ?_;refine kH 19 rfl H_ ?_;refine kH 20 rfl H_ ?_;refine kH 21 rfl H_ ?_;refine kH 22 rfl H_ ?_;refine tH 23 rfl H_ ?_;refine wpAnyH_done (by kernel_rfl) ?_ _;go_wp2_with fail
      have hLD:=za hLw hz' (bRf W5.heap.size W5).drew.drew;have hXD:=za hX hz (bRf W5.heap.size W5).drew.drew;have hYD:=za hY hy (bRf W5.heap.size W5).drew.drew;have hzD:w.heap.size+1 < W5.drew.drew.heap.size:=hz;have hyD:wr.heap.size < W5.drew.drew.heap.size:=hy;have HBeD:Hid (Below W1.heap.size W1 W5.drew.drew):=HBe.out.drew.drew;have HUs:=zd9 l b b.ls[k].tm b.ls[k].rs HZ.out.1;have HOs:=Gate.zbE b.ps b.ls[k].tm b.ls[k].rs (Gate.zf5 HAm.out) b.ps.length (Nat.le_refl _);have hw1:IntKind.i64.wrap (Gate.used l b.os b.ls[k].tm b.ls[k].rs+Gate.out b.ps b.ls[k].tm b.ls[k].rs)=Gate.used l b.os b.ls[k].tm b.ls[k].rs+Gate.out b.ps b.ls[k].tm b.ls[k].rs:=by rw [IntKind.wrap_i64];have:=HPN.out;unfold Gate.out;omega
      have hw2:IntKind.i64.wrap (Gate.used l b.os b.ls[k].tm b.ls[k].rs+Gate.out b.ps b.ls[k].tm b.ls[k].rs+b.ls[k].fr)=Gate.used l b.os b.ls[k].tm b.ls[k].rs+Gate.out b.ps b.ls[k].tm b.ls[k].rs+b.ls[k].fr:=by rw [IntKind.wrap_i64];have:=HPN.out;have:=HFr.out;unfold Gate.out;omega
      clear HUs HOs;refine wp_region_held_drew (S:=fun w'=>(∀ j,w'.cell? ⟨w.heap.size,j,none⟩=(#[.slice la l.ss.length lca,.slice lb l.ms.length lcb,.slice lc l.ts.length lcc]:Array Value)[j]?)/\(∀ j,w'.cell? ⟨w.heap.size+1,j,none⟩=(#[.int .i64 b.now,.int .i64 b.tick,.int .i64 b.given,.slice a0 b.os.length c0,.slice a1 b.gs.length c1,.slice (some ⟨ob,off,none⟩) b.ls.length c2,.slice a3 b.ps.length c3]:Array Value)[j]?)/\(∀ j,w'.cell? ⟨wr.heap.size,j,none⟩=(#[.string b.ls[k].tm,.string b.ls[k].rs,.int .i64 b.ls[k].mo,.int .i64 b.ls[k].fr]:Array Value)[j]?)) (by kernel_rfl) ⟨hLD,hXD,hYD⟩ (fun H_=>?_);refine tH 0 rfl H_ ?_;refine tH 1 rfl H_ ?_;refine tH 2 rfl H_ ?_;refine tH 3 rfl H_ ?_;refine tH 4 rfl H_ ?_;refine tH 5 rfl H_ ?_;refine tH 7 rfl H_ ?_;refine tH 8 rfl H_ ?_;refine tH 9 rfl H_ ?_;refine tH 10 rfl H_ ?_;refine tH 11 rfl H_ ?_;refine tH 14 rfl H_ ?_;refine tH 15 rfl H_ ?_;refine tH 17 rfl H_ ?_;refine tH 18 rfl H_ ?_;refine cH 6 rfl fun K hK=>?_
      go_simp
      refine (zgy l la lb lc lca lcb lcc b a0 a1 _ a3 c0 c1 c2 c3 _ _ _ (HL.out.mono (HBw.out _ HBeD.out)) (HK.out.mono (HBw.out _ HBeD.out)) HZ.out.1).mono ?_;rintro e w7 ⟨rfl,hb7⟩;have hX7:=za hXD hzD hb7;have hL7:=za hLD (nSl hzD) hb7;have hY7:=za hYD hyD hb7;have hz7:=nLt hzD hb7.size;have hy7:=nLt hyD hb7.size;have HBe7:Hid (Below W1.heap.size W1 w7):=HBeD.out.trans (hb7.mono HBeD.out.size);clear hb7
      (try go_wp2_with fail)
      refine hK.out _ _ ?_ (fun H_=>?_)
      ·exact ⟨hL7,hX7,hY7⟩
      clear hK K
      (try simp only [Act.put,sA,s0,sS])
      refine cH 12 rfl fun K hK=>?_
      go_simp
      refine (zkq b a0 a1 _ a3 c0 c1 c2 c3 _ _ _ (HK.out.mono (HBw.out _ HBe7.out)) (by have:=HPN.out;omega) (Gate.zf5 HAm.out)).mono ?_;rintro e w8 ⟨rfl,hb8⟩;have hX8:=za hX7 hz7 hb8;have hL8:=za hL7 (nSl hz7) hb8;have hY8:=za hY7 hy7 hb8;have hz8:=nLt hz7 hb8.size;have hy8:=nLt hy7 hb8.size;have HBe8:Hid (Below W1.heap.size W1 w8):=HBe7.out.trans (hb8.mono HBe7.out.size);clear hb8
      (try go_wp2_with fail)
      refine hK.out _ _ ?_ (fun H_=>?_)
      ·exact ⟨hL8,hX8,hY8⟩
      clear hK K
      (try simp only [Act.put,sA,s0,sS])
      refine tH 13 rfl H_ ?_;refine tH 16 rfl H_ ?_
      by_cases t7:Gate.used l b.os b.ls[k].tm b.ls[k].rs+Gate.out b.ps b.ls[k].tm b.ls[k].rs+b.ls[k].fr=b.ls[k].mo
      ·have hd7:(Gate.used l b.os b.ls[k].tm b.ls[k].rs+Gate.out b.ps b.ls[k].tm b.ls[k].rs+b.ls[k].fr != b.ls[k].mo)=false:=bne_eq_false_iff_eq.2 t7
       have HT7:Hid (Gate.used l b.os b.ls[k].tm b.ls[k].rs+Gate.out b.ps b.ls[k].tm b.ls[k].rs+b.ls[k].fr=b.ls[k].mo):=t7;clear t7;refine tH 19 rfl H_ ?_;refine wpAnyH_done (by kernel_rfl) ?_ _;have HD:Hid ((b.ls.take (k+1)).all (Gate.yN l.ts)=true/\Gate.jI Gate.qC b.ls (k+1)/\(b.ls.take (k+1)).all (Gate.za0 l b)=true):=HYes.out HLa.out (fun m e=>by omega) (by unfold Gate.za0 Gate.sumTo;rw [decide_eq_true_eq];have:=HT7.out;unfold Gate.out at this;omega);go_wp2_with fail
       exact ⟨⟨k+1,by omega,by go_num,HD.out.1,HD.out.2.1,HD.out.2.2,HBe8.out⟩,by simp [intOf];omega⟩
      ·have hd7:(Gate.used l b.os b.ls[k].tm b.ls[k].rs+Gate.out b.ps b.ls[k].tm b.ls[k].rs+b.ls[k].fr != b.ls[k].mo)=true:=bne_iff_ne.2 t7
       have HT7:Hid (¬ (Gate.used l b.os b.ls[k].tm b.ls[k].rs+Gate.out b.ps b.ls[k].tm b.ls[k].rs+b.ls[k].fr=b.ls[k].mo)):=t7;clear t7;refine tH 19 rfl H_ ?_;refine wpAnyH_done (by kernel_rfl) ?_ _;have HF:Hid (Gate.qy l b=false):=HNs.out (by unfold Gate.za0 Gate.sumTo;rw [decide_eq_false_iff_not];have:=HT7.out;unfold Gate.out at this;omega);go_wp2_with fail
       go_ret;exact ⟨ze HF.out.symm,HBw.out _ HBe8.out⟩
    ·have e:k=b.ls.length:=by omega
     subst e
     have HE:Hid (Gate.qy l b=true):=by
      unfold Hid Gate.qy Gate.yP Gate.zcJ;have h1:=HQ.out.1;have h2:=HQ.out.2.2.1;rw [tOl (Nat.le_refl _)] at h1 h2;rw [Gate.zgd HQ.out.2.1 (Nat.le_refl _),decide_eq_true HLN.out,HPu.out,h1,h2];rfl
     clear HQ hlt hk hX1 hL1;go_wp2_with fail
     go_ret;exact ⟨ze HE.out.symm,HBr.out⟩
theorem zcN (b:Bk) (a0 a1 a2 a3:Option Addr) (c0 c1 c2 c3:Nat) (w:World) (hl:y7 w b a0 a1 a2 a3) (hf:b.Few) :
 Calls Tryz.prog 8 #[.agg (b.cells a0 a1 a2 a3 c0 c1 c2 c3)] w fun e w'=>∃ lo g0 g1 g2 g3,e = .returned (.agg (b.cells (some ⟨g0,0,none⟩) (some ⟨g1,0,none⟩) (some ⟨g2,0,none⟩) (some ⟨g3,0,none⟩) b.os.length b.gs.length b.ls.length b.ps.length))/\w.heap.size<=lo/\zmH lo w' b g0 g1 g2 g3/\Below w.heap.size w w':=by
 have HL:Hid (y7 w b a0 a1 a2 a3):=hl;have HF:Hid b.Few:=hf;clear hl hf;unfold Bk.cells;go_enter Tryz.func8,Tryz.ntmps8;go_wp2_with fail
 have k0:=zo9 w (.cells #[.int .i64 b.now,.int .i64 b.tick,.int .i64 b.given,.slice a0 b.os.length c0,.slice a1 b.gs.length c1,.slice a2 b.ls.length c2,.slice a3 b.ps.length c3] 32) (.cells #[.int .i64 0,.int .i64 0,.int .i64 0,.slice none 0 0,.slice none 0 0,.slice none 0 0,.slice none 0 0] 48) (.cells #[.int .i64 b.now,.int .i64 b.tick,.int .i64 b.given,.slice none 0 0,.slice none 0 0,.slice none 0 0,.slice none 0 0] 48);have hB0:=below3' w (.cells #[.int .i64 b.now,.int .i64 b.tick,.int .i64 b.given,.slice a0 b.os.length c0,.slice a1 b.gs.length c1,.slice a2 b.ls.length c2,.slice a3 b.ps.length c3] 32) (.cells #[.int .i64 0,.int .i64 0,.int .i64 0,.slice none 0 0,.slice none 0 0,.slice none 0 0,.slice none 0 0] 48) (.cells #[.int .i64 b.now,.int .i64 b.tick,.int .i64 b.given,.slice none 0 0,.slice none 0 0,.slice none 0 0,.slice none 0 0] 48);obtain ⟨W0,hW0⟩:∃ W0,W0=((w.alloc (.cells #[.int .i64 b.now,.int .i64 b.tick,.int .i64 b.given,.slice a0 b.os.length c0,.slice a1 b.gs.length c1,.slice a2 b.ls.length c2,.slice a3 b.ps.length c3] 32)).alloc (.cells #[.int .i64 0,.int .i64 0,.int .i64 0,.slice none 0 0,.slice none 0 0,.slice none 0 0,.slice none 0 0] 48)).alloc (.cells #[.int .i64 b.now,.int .i64 b.tick,.int .i64 b.given,.slice none 0 0,.slice none 0 0,.slice none 0 0,.slice none 0 0] 48):=⟨_,rfl⟩
 have hz0:w.heap.size+1+1 < W0.heap.size:=by rw [hW0];simp
 rw [<- hW0] at k0 hB0 ⊢;clear hW0;have HLO:Hid (w.heap.size+1+1 < W0.heap.size):=hz0;refine (zgq _ _ b.os _ (HL.out.os.mono hB0) HF.out.os.1 HF.out.os.2).mono ?_;rintro e w1 ⟨rfl,hown,hb⟩;obtain ⟨g0,hp'⟩:∃ g0,g0=W0.heap.size:=⟨_,rfl⟩
 have HN1:Hid (j6 W0.heap.size w1 g0 b.os b.os.length):=by rw [hp'];exact hown
 have hX1:=(hb.block _ (by omega)).trans k0.1;have hR1:=(hb.block _ (by omega)).trans k0.2.1;have hO1:=(hb.block _ hz0).trans k0.2.2;have HZ1:Hid (W0.heap.size<=w1.heap.size):=hb.size;have HB1:Hid (Below w.heap.size w w1):=hB0.trans (hb.mono hB0.size);rw [<- hp'];clear hown hb k0 hB0 hz0 hp';have cO1:=fun j=>cell_of_block (o:=j) hO1
 have fO1:=fun j=>zi (o:=j) hO1
 have HX1':Hid ((w1.setCell ⟨w.heap.size+1+1,3,none⟩ (.slice (some ⟨g0,0,none⟩) b.os.length b.os.length)).heap[w.heap.size]?=some (.cells #[.int .i64 b.now,.int .i64 b.tick,.int .i64 b.given,.slice a0 b.os.length c0,.slice a1 b.gs.length c1,.slice a2 b.ls.length c2,.slice a3 b.ps.length c3] 32)):=(zM (by omega)).trans hX1;have HR1':Hid ((w1.setCell ⟨w.heap.size+1+1,3,none⟩ (.slice (some ⟨g0,0,none⟩) b.os.length b.os.length)).heap[w.heap.size+1]?=some (.cells #[.int .i64 0,.int .i64 0,.int .i64 0,.slice none 0 0,.slice none 0 0,.slice none 0 0,.slice none 0 0] 48)):=(zM (by omega)).trans hR1;have HO1':Hid ((w1.setCell ⟨w.heap.size+1+1,3,none⟩ (.slice (some ⟨g0,0,none⟩) b.os.length b.os.length)).heap[w.heap.size+1+1]?=some (.cells #[.int .i64 b.now,.int .i64 b.tick,.int .i64 b.given,.slice (some ⟨g0,0,none⟩) b.os.length b.os.length,.slice none 0 0,.slice none 0 0,.slice none 0 0] 48)):=zk hO1 _;have HAB1:Hid (yQ W0.heap.size w1 (w1.setCell ⟨w.heap.size+1+1,3,none⟩ (.slice (some ⟨g0,0,none⟩) b.os.length b.os.length))):=yQ.setCell HLO.out _;have HBB1:Hid (Below w.heap.size w (w1.setCell ⟨w.heap.size+1+1,3,none⟩ (.slice (some ⟨g0,0,none⟩) b.os.length b.os.length))):=HB1.out.setCell (by show w.heap.size<=w.heap.size+1+1;omega) _;have HZZ1:Hid (W0.heap.size<=(w1.setCell ⟨w.heap.size+1+1,3,none⟩ (.slice (some ⟨g0,0,none⟩) b.os.length b.os.length)).heap.size):=by unfold Hid;rw [World.size_setCell];exact HZ1.out
 clear hX1 hR1 hO1;have cX1:=fun j=>cell_of_block (o:=j) HX1'.out
 have cR1:=fun j=>cell_of_block (o:=j) HR1'.out
 have fR1:=fun j=>zi (o:=j) HR1'.out
 have cOO1:=fun j=>cell_of_block (o:=j) HO1'.out
 go_wp2_with fail
 refine (zgS _ _ b.gs _ (HL.out.gs.mono HBB1.out) HF.out.gs.1 HF.out.gs.2).mono ?_;rintro e w2 ⟨rfl,hown,hb⟩;obtain ⟨g1,hp'⟩:∃ g1,g1=(w1.setCell ⟨w.heap.size+1+1,3,none⟩ (.slice (some ⟨g0,0,none⟩) b.os.length b.os.length)).heap.size:=⟨_,rfl⟩
 have HN2:Hid (jX W0.heap.size w2 g1 b.gs b.gs.length):=by rw [hp'];exact hown.weaken HZZ1.out
 have HAA2:Hid (yQ W0.heap.size w1 w2):=HAB1.out.trans (yQ.below hb);have hX2:=(hb.block _ (lt_of_some HX1'.out)).trans HX1'.out;have hR2:=(hb.block _ (lt_of_some HR1'.out)).trans HR1'.out;have hO2:=(hb.block _ (lt_of_some HO1'.out)).trans HO1'.out;have HZ2:Hid (W0.heap.size<=w2.heap.size):=Nat.le_trans HZZ1.out hb.size;have HB2:Hid (Below w.heap.size w w2):=HBB1.out.trans (hb.mono HBB1.out.size);rw [<- hp'];clear hown hb hp' cX1 cR1 fR1 cOO1;have cO2:=fun j=>cell_of_block (o:=j) hO2
 have fO2:=fun j=>zi (o:=j) hO2
 have HX2':Hid ((w2.setCell ⟨w.heap.size+1+1,4,none⟩ (.slice (some ⟨g1,0,none⟩) b.gs.length b.gs.length)).heap[w.heap.size]?=some (.cells #[.int .i64 b.now,.int .i64 b.tick,.int .i64 b.given,.slice a0 b.os.length c0,.slice a1 b.gs.length c1,.slice a2 b.ls.length c2,.slice a3 b.ps.length c3] 32)):=(zM (by omega)).trans hX2;have HR2':Hid ((w2.setCell ⟨w.heap.size+1+1,4,none⟩ (.slice (some ⟨g1,0,none⟩) b.gs.length b.gs.length)).heap[w.heap.size+1]?=some (.cells #[.int .i64 0,.int .i64 0,.int .i64 0,.slice none 0 0,.slice none 0 0,.slice none 0 0,.slice none 0 0] 48)):=(zM (by omega)).trans hR2;have HO2':Hid ((w2.setCell ⟨w.heap.size+1+1,4,none⟩ (.slice (some ⟨g1,0,none⟩) b.gs.length b.gs.length)).heap[w.heap.size+1+1]?=some (.cells #[.int .i64 b.now,.int .i64 b.tick,.int .i64 b.given,.slice (some ⟨g0,0,none⟩) b.os.length b.os.length,.slice (some ⟨g1,0,none⟩) b.gs.length b.gs.length,.slice none 0 0,.slice none 0 0] 48)):=zk hO2 _;have HAB2:Hid (yQ W0.heap.size w2 (w2.setCell ⟨w.heap.size+1+1,4,none⟩ (.slice (some ⟨g1,0,none⟩) b.gs.length b.gs.length))):=yQ.setCell HLO.out _;have HBB2:Hid (Below w.heap.size w (w2.setCell ⟨w.heap.size+1+1,4,none⟩ (.slice (some ⟨g1,0,none⟩) b.gs.length b.gs.length))):=HB2.out.setCell (by show w.heap.size<=w.heap.size+1+1;omega) _;have HZZ2:Hid (W0.heap.size<=(w2.setCell ⟨w.heap.size+1+1,4,none⟩ (.slice (some ⟨g1,0,none⟩) b.gs.length b.gs.length)).heap.size):=by unfold Hid;rw [World.size_setCell];exact HZ2.out
 clear hX2 hR2 hO2;have cX2:=fun j=>cell_of_block (o:=j) HX2'.out
 have cR2:=fun j=>cell_of_block (o:=j) HR2'.out
 have fR2:=fun j=>zi (o:=j) HR2'.out
 have cOO2:=fun j=>cell_of_block (o:=j) HO2'.out
 go_wp2_with fail
 refine (zfQ _ _ b.ls _ (HL.out.ls.mono HBB2.out) HF.out.ls).mono ?_;rintro e w3 ⟨rfl,hown,hb⟩;obtain ⟨g2,hp'⟩:∃ g2,g2=(w2.setCell ⟨w.heap.size+1+1,4,none⟩ (.slice (some ⟨g1,0,none⟩) b.gs.length b.gs.length)).heap.size:=⟨_,rfl⟩
 have HN3:Hid (jW W0.heap.size w3 g2 b.ls b.ls.length):=by rw [hp'];exact hown.weaken HZZ2.out
 have HAA3:Hid (yQ W0.heap.size w2 w3):=HAB2.out.trans (yQ.below hb);have hX3:=(hb.block _ (lt_of_some HX2'.out)).trans HX2'.out;have hR3:=(hb.block _ (lt_of_some HR2'.out)).trans HR2'.out;have hO3:=(hb.block _ (lt_of_some HO2'.out)).trans HO2'.out;have HZ3:Hid (W0.heap.size<=w3.heap.size):=Nat.le_trans HZZ2.out hb.size;have HB3:Hid (Below w.heap.size w w3):=HBB2.out.trans (hb.mono HBB2.out.size);rw [<- hp'];clear hown hb hp' cX2 cR2 fR2 cOO2;have cO3:=fun j=>cell_of_block (o:=j) hO3
 have fO3:=fun j=>zi (o:=j) hO3
 have HX3':Hid ((w3.setCell ⟨w.heap.size+1+1,5,none⟩ (.slice (some ⟨g2,0,none⟩) b.ls.length b.ls.length)).heap[w.heap.size]?=some (.cells #[.int .i64 b.now,.int .i64 b.tick,.int .i64 b.given,.slice a0 b.os.length c0,.slice a1 b.gs.length c1,.slice a2 b.ls.length c2,.slice a3 b.ps.length c3] 32)):=(zM (by omega)).trans hX3;have HR3':Hid ((w3.setCell ⟨w.heap.size+1+1,5,none⟩ (.slice (some ⟨g2,0,none⟩) b.ls.length b.ls.length)).heap[w.heap.size+1]?=some (.cells #[.int .i64 0,.int .i64 0,.int .i64 0,.slice none 0 0,.slice none 0 0,.slice none 0 0,.slice none 0 0] 48)):=(zM (by omega)).trans hR3;have HO3':Hid ((w3.setCell ⟨w.heap.size+1+1,5,none⟩ (.slice (some ⟨g2,0,none⟩) b.ls.length b.ls.length)).heap[w.heap.size+1+1]?=some (.cells #[.int .i64 b.now,.int .i64 b.tick,.int .i64 b.given,.slice (some ⟨g0,0,none⟩) b.os.length b.os.length,.slice (some ⟨g1,0,none⟩) b.gs.length b.gs.length,.slice (some ⟨g2,0,none⟩) b.ls.length b.ls.length,.slice none 0 0] 48)):=zk hO3 _;have HAB3:Hid (yQ W0.heap.size w3 (w3.setCell ⟨w.heap.size+1+1,5,none⟩ (.slice (some ⟨g2,0,none⟩) b.ls.length b.ls.length))):=yQ.setCell HLO.out _;have HBB3:Hid (Below w.heap.size w (w3.setCell ⟨w.heap.size+1+1,5,none⟩ (.slice (some ⟨g2,0,none⟩) b.ls.length b.ls.length))):=HB3.out.setCell (by show w.heap.size<=w.heap.size+1+1;omega) _;have HZZ3:Hid (W0.heap.size<=(w3.setCell ⟨w.heap.size+1+1,5,none⟩ (.slice (some ⟨g2,0,none⟩) b.ls.length b.ls.length)).heap.size):=by unfold Hid;rw [World.size_setCell];exact HZ3.out
 clear hX3 hR3 hO3;have cX3:=fun j=>cell_of_block (o:=j) HX3'.out
 have cR3:=fun j=>cell_of_block (o:=j) HR3'.out
 have fR3:=fun j=>zi (o:=j) HR3'.out
 have cOO3:=fun j=>cell_of_block (o:=j) HO3'.out
 go_wp2_with fail
 refine (zhb _ _ b.ps _ (HL.out.ps.mono HBB3.out) HF.out.ps).mono ?_;rintro e w4 ⟨rfl,hown,hb⟩;obtain ⟨g3,hp'⟩:∃ g3,g3=(w3.setCell ⟨w.heap.size+1+1,5,none⟩ (.slice (some ⟨g2,0,none⟩) b.ls.length b.ls.length)).heap.size:=⟨_,rfl⟩
 have HN4:Hid (jV W0.heap.size w4 g3 b.ps b.ps.length):=by rw [hp'];exact hown.weaken HZZ3.out
 have HAA4:Hid (yQ W0.heap.size w3 w4):=HAB3.out.trans (yQ.below hb);have hX4:=(hb.block _ (lt_of_some HX3'.out)).trans HX3'.out;have hR4:=(hb.block _ (lt_of_some HR3'.out)).trans HR3'.out;have hO4:=(hb.block _ (lt_of_some HO3'.out)).trans HO3'.out;have HZ4:Hid (W0.heap.size<=w4.heap.size):=Nat.le_trans HZZ3.out hb.size;have HB4:Hid (Below w.heap.size w w4):=HBB3.out.trans (hb.mono HBB3.out.size);rw [<- hp'];clear hown hb hp' cX3 cR3 fR3 cOO3;have cO4:=fun j=>cell_of_block (o:=j) hO4
 have fO4:=fun j=>zi (o:=j) hO4
 have HX4':Hid ((w4.setCell ⟨w.heap.size+1+1,6,none⟩ (.slice (some ⟨g3,0,none⟩) b.ps.length b.ps.length)).heap[w.heap.size]?=some (.cells #[.int .i64 b.now,.int .i64 b.tick,.int .i64 b.given,.slice a0 b.os.length c0,.slice a1 b.gs.length c1,.slice a2 b.ls.length c2,.slice a3 b.ps.length c3] 32)):=(zM (by omega)).trans hX4;have HR4':Hid ((w4.setCell ⟨w.heap.size+1+1,6,none⟩ (.slice (some ⟨g3,0,none⟩) b.ps.length b.ps.length)).heap[w.heap.size+1]?=some (.cells #[.int .i64 0,.int .i64 0,.int .i64 0,.slice none 0 0,.slice none 0 0,.slice none 0 0,.slice none 0 0] 48)):=(zM (by omega)).trans hR4;have HO4':Hid ((w4.setCell ⟨w.heap.size+1+1,6,none⟩ (.slice (some ⟨g3,0,none⟩) b.ps.length b.ps.length)).heap[w.heap.size+1+1]?=some (.cells #[.int .i64 b.now,.int .i64 b.tick,.int .i64 b.given,.slice (some ⟨g0,0,none⟩) b.os.length b.os.length,.slice (some ⟨g1,0,none⟩) b.gs.length b.gs.length,.slice (some ⟨g2,0,none⟩) b.ls.length b.ls.length,.slice (some ⟨g3,0,none⟩) b.ps.length b.ps.length] 48)):=zk hO4 _;have HAB4:Hid (yQ W0.heap.size w4 (w4.setCell ⟨w.heap.size+1+1,6,none⟩ (.slice (some ⟨g3,0,none⟩) b.ps.length b.ps.length))):=yQ.setCell HLO.out _;have HBB4:Hid (Below w.heap.size w (w4.setCell ⟨w.heap.size+1+1,6,none⟩ (.slice (some ⟨g3,0,none⟩) b.ps.length b.ps.length))):=HB4.out.setCell (by show w.heap.size<=w.heap.size+1+1;omega) _;have HZZ4:Hid (W0.heap.size<=(w4.setCell ⟨w.heap.size+1+1,6,none⟩ (.slice (some ⟨g3,0,none⟩) b.ps.length b.ps.length)).heap.size):=by unfold Hid;rw [World.size_setCell];exact HZ4.out
 clear hX4 hR4 hO4;have cX4:=fun j=>cell_of_block (o:=j) HX4'.out
 have cR4:=fun j=>cell_of_block (o:=j) HR4'.out
 have fR4:=fun j=>zi (o:=j) HR4'.out
 have cOO4:=fun j=>cell_of_block (o:=j) HO4'.out
 go_wp2_with fail
 refine bodyPost_ret (v:=.agg #[.int .i64 b.now,.int .i64 b.tick,.int .i64 b.given,.slice (some ⟨g0,0,none⟩) b.os.length b.os.length,.slice (some ⟨g1,0,none⟩) b.gs.length b.gs.length,.slice (some ⟨g2,0,none⟩) b.ls.length b.ls.length,.slice (some ⟨g3,0,none⟩) b.ps.length b.ps.length]) (by simp [results,Tryz.results8,go_sem,cR4]) rfl ⟨W0.heap.size,g0,g1,g2,g3,rfl,by have:=HLO.out;omega,?_,?_⟩
 ·have hlt1:w.heap.size+1 < W0.heap.size:=by have:=HLO.out;omega
  have hA4:∀ v0 v1 v2 v3 v4 v5 v6,yQ W0.heap.size w4 ((((((((w4.setCell ⟨w.heap.size+1+1,6,none⟩ (.slice (some ⟨g3,0,none⟩) b.ps.length b.ps.length)).setCell ⟨w.heap.size+1,0,none⟩ v0).setCell ⟨w.heap.size+1,1,none⟩ v1).setCell ⟨w.heap.size+1,2,none⟩ v2).setCell ⟨w.heap.size+1,3,none⟩ v3).setCell ⟨w.heap.size+1,4,none⟩ v4).setCell ⟨w.heap.size+1,5,none⟩ v5).setCell ⟨w.heap.size+1,6,none⟩ v6):=fun v0 v1 v2 v3 v4 v5 v6=>(((((((HAB4.out.trans (yQ.setCell (p:=⟨w.heap.size+1,0,none⟩) hlt1 v0)).trans (yQ.setCell (p:=⟨w.heap.size+1,1,none⟩) hlt1 v1)).trans (yQ.setCell (p:=⟨w.heap.size+1,2,none⟩) hlt1 v2)).trans (yQ.setCell (p:=⟨w.heap.size+1,3,none⟩) hlt1 v3)).trans (yQ.setCell (p:=⟨w.heap.size+1,4,none⟩) hlt1 v4)).trans (yQ.setCell (p:=⟨w.heap.size+1,5,none⟩) hlt1 v5)).trans (yQ.setCell (p:=⟨w.heap.size+1,6,none⟩) hlt1 v6))
  exact ⟨HN1.out.above (((HAA2.out.trans HAA3.out).trans HAA4.out).trans (hA4 _ _ _ _ _ _ _)),HN2.out.above ((HAA3.out.trans HAA4.out).trans (hA4 _ _ _ _ _ _ _)),HN3.out.above (HAA4.out.trans (hA4 _ _ _ _ _ _ _)),HN4.out.above (hA4 _ _ _ _ _ _ _)⟩
 ·exact ((((((HBB4.out.setCell (Nat.le_succ _) _).setCell (Nat.le_succ _) _).setCell (Nat.le_succ _) _).setCell (Nat.le_succ _) _).setCell (Nat.le_succ _) _).setCell (Nat.le_succ _) _).setCell (Nat.le_succ _) _
theorem zeP (b:Bk) (a0 a1 a2 a3:Option Addr) (c0 c1 c2 c3:Nat) (w:World) (hl:y7 w b a0 a1 a2 a3) (hf:b.Few) :
 Calls Tryz.prog 8 #[.agg (b.cells a0 a1 a2 a3 c0 c1 c2 c3)] w fun e w'=>∃ a0' a1' a2' a3',e = .returned (.agg (b.cells a0' a1' a2' a3' b.os.length b.gs.length b.ls.length b.ps.length))/\y7 w' b a0' a1' a2' a3'/\Below w.heap.size w w':=by
 refine (zcN b a0 a1 a2 a3 c0 c1 c2 c3 w hl hf).mono ?_;rintro e w' ⟨lo,g0,g1,g2,g3,he,_,ho,hb⟩;exact ⟨_,_,_,_,he,ho.at hl.small,hb⟩
structure zbT (w:World) (a:Option Addr) (ms:List Ob):Prop where
 len:ms.length<=maxLen
 rows:ms ≠ []->∃ b off,a=some ⟨b,off,none⟩/\b < w.heap.size/\∀ i (h:i < ms.length),∃ g0 g1 c0 c1,zoH w b (off+i * 7) ms[i] (some ⟨g0,0,none⟩) (some ⟨g1,0,none⟩) c0 c1
theorem zbT.mono {w w':World} {a:Option Addr} {ms:List Ob} (h:zbT w a ms) (hl:Below w.heap.size w w'):zbT w' a ms :=
 ⟨h.len,fun hne=>by
  obtain ⟨b,off,ha,hb,hr⟩:=h.rows hne;refine ⟨b,off,ha,nLt hb hl.size,fun i hi=>?_⟩;obtain ⟨g0,g1,c0,c1,hf⟩:=hr i hi;exact ⟨g0,g1,c0,c1,hf.mono hb hl⟩⟩
theorem zbT.load {w w':World} {a:Option Addr} {ms:List Ob} (h:zbT w a ms) (hl:Below w.heap.size w w') (i:Nat) (hi:i < ms.length):∃ b off g0 g1 c0 c1,a=some ⟨b,off,none⟩/\b < w.heap.size/\ms[i].Small/\zD w' (some ⟨g0,0,none⟩) ms[i].vs/\zD w' (some ⟨g1,0,none⟩) ms[i].hs /\
 w'.cell? ⟨b,off+i * 7,none⟩=some (.string ms[i].kd)/\w'.cell? ⟨b,off+i * 7+1,none⟩=some (.string ms[i].nm)/\w'.cell? ⟨b,off+i * 7+2,none⟩=some (.string ms[i].tm)/\w'.cell? ⟨b,off+i * 7+3,none⟩=some (.slice (some ⟨g0,0,none⟩) ms[i].vs.length c0)/\w'.cell? ⟨b,off+i * 7+4,none⟩=some (.bool ms[i].en)/\w'.cell? ⟨b,off+i * 7+5,none⟩=some (.slice (some ⟨g1,0,none⟩) ms[i].hs.length c1)/\w'.cell? ⟨b,off+i * 7+6,none⟩=some (.int .i64 ms[i].vr):=by
 obtain ⟨b,off,ha,hb,hr⟩:=h.rows (by rintro rfl;simp at hi);obtain ⟨g0,g1,c0,c1,hf0⟩:=hr i hi;have hf:=hf0.mono hb hl;exact ⟨b,off,g0,g1,c0,c1,ha,hb,hf.small,hf.l0,hf.l1,hf.cell 0 (by omega),hf.cell 1 (by omega),hf.cell 2 (by omega),hf.cell 3 (by omega),hf.cell 4 (by omega),hf.cell 5 (by omega),hf.cell 6 (by omega)⟩
theorem j6.has {lo:Nat} {w:World} {bo:Nat} {ms:List Ob} (h:j6 lo w bo ms ms.length) (hs:zfL ms) (hl:ms.length<=maxLen):zbT w (some ⟨bo,0,none⟩) ms:=by
 obtain ⟨C,hC,hsz,hr⟩:=h.rows;refine ⟨hl,fun _=>⟨bo,0,rfl,(gES hC).1,fun i hi=>?_⟩⟩;obtain ⟨g0,g1,_,_,hk0,_,_,hk1,hc⟩:=hr i hi hi;obtain ⟨s0,s1,s2⟩:=hs.small i hi;refine ⟨g0,g1,ms[i].vs.length,ms[i].hs.length,s0,zdn hk0 s1.1 s1.2,zdn hk1 s2.1 s2.2,fun j hj=>?_⟩;rw [cell_of_block hC,Nat.zero_add];exact hc j hj
theorem zjj (b:Bk) (a0 a1 a2 a3:Option Addr) (c0 c1 c2 c3:Nat) (w:World) (hl:y7 w b a0 a1 a2 a3) (hf:b.Few) :
 Calls Tryz.prog 8 #[.agg (b.cells a0 a1 a2 a3 c0 c1 c2 c3)] w fun e w'=>∃ a0' a1' a2' a3',e = .returned (.agg (b.cells a0' a1' a2' a3' b.os.length b.gs.length b.ls.length b.ps.length))/\y7 w' b a0' a1' a2' a3'/\zbT w' a0' b.os/\Below w.heap.size w w':=by
 refine (zcN b a0 a1 a2 a3 c0 c1 c2 c3 w hl hf).mono ?_;rintro e w' ⟨lo,g0,g1,g2,g3,he,_,ho,hb⟩;exact ⟨_,_,_,_,he,ho.at hl.small,ho.os.has hl.os.smalls hl.os.len,hb⟩
end Go.Proofs.YtghnakljnhnenaaGreat
