import Derived.Test.YtcgpjfcocmcodaaGreatM23
set_option maxHeartbeats 4000000
namespace Go.Proofs.YtcgpjfcocmcodaaGreat
open Go.RowKit
theorem zer (l:Lw)(la lb lc:OA)(lca lcb lcc:Nat)(b:Bk)(a0 a1 a2 a3:OA)(c0 c1 c2 c3:Nat)(team res:BA)(w:World)(hl:jA w l la lb lc)(hb:ji w b a0 a1 a2 a3)(hz:qH b.os<=1048576) :
 Calls Tryz.prog 28 #[.agg (l.cells la lb lc lca lcb lcc),.agg (b.cells a0 a1 a2 a3 c0 c1 c2 c3),.s team,.s res] w fun e w'=>e=.returned (.i (used l b.os team res))/\Bw w w':=by
 have HL:Hid (jA w l la lb lc):=hl;have HK:Hid (ji w b a0 a1 a2 a3):=hb;have HZ:Hid (qH b.os<=1048576/\b.os.length<=1048576):=⟨hz,by unfold qH at hz;omega⟩
 clear hl hb hz;unfold Lw.cells Bk.cells;go_enter Tryz.func28,Tryz.ntmps28;go_wp2_with fail
 obtain⟨hX0,hY0⟩:=qX w #[.l la l.ss.length lca,.l lb l.ms.length lcb,.l lc l.ts.length lcc] (bC b a0 a1 a2 a3 c0 c1 c2 c3) 47 40;have HB0:Hid (Bw w ((w.alloc (.cells #[.l la l.ss.length lca,.l lb l.ms.length lcb,.l lc l.ts.length lcc] 47)).alloc (.cells (bC b a0 a1 a2 a3 c0 c1 c2 c3) 40))):=zw w _ _;obtain⟨W0,hW0⟩:=xN ((w.alloc (.cells #[.l la l.ss.length lca,.l lb l.ms.length lcb,.l lc l.ts.length lcc] 47)).alloc (.cells (bC b a0 a1 a2 a3 c0 c1 c2 c3) 40));have hz0:w.heap.size+1<W0.heap.size:=by rw[hW0];simp
 rw[<- hW0]at HB0 hX0 hY0 ⊢;clear hW0
 go_loopw [9,10] (fun nv iv wr=>∃(k:Nat) (s:Int),k<=b.os.length/\iv=.i k/\nv=.i s/\Hid (s=zaH l b.os team res k/\Bw W0 wr)) (fun _ iv _=>b.os.length-(intOf iv).toNat)
 case atStart=>exact⟨0,0,Nat.zero_le _,rfl,rfl,by simp[zaH],bRf _ _⟩
 case round=>
  obtain⟨k,s,hk,rfl,rfl,HQ⟩:=hrel
  have hsb:0<=s/\s<=20000000000000:=by
   have h1:=HQ.o.1;have h2:=zav l b.os team res k hk;have h3:=HZ.o;have h4:za4 (b.os.take k)<=za4 b.os:=zcX Ob.sz b.os k;unfold qH at h3;omega
  have hX:=za hX0 (nSl hz0) HQ.o.2;have hY:=za hY0 hz0 HQ.o.2;have hz:=nLt hz0 HQ.o.2.size;have hzX:=nSl hz;have hkn:k<=1048576:=by have:=HZ.o.2;omega
  by_cases hlt:k<b.os.length
  ·obtain⟨ob,off,v0,v1,q0,q1,rfl,hob,hsm,hl0,hl1,d0,d1,d2,d3,d4,d5,d6⟩:=HK.o.os.load (HB0.o.trans (HQ.o.2.mono HB0.o.size)) k hlt
   have hob':=nLt hob (HB0.o.trans (HQ.o.2.mono HB0.o.size)).size;have hltI:(k:Int)<(b.os.length:Int):=by omega
   have HSt:Hid (zaH l b.os team res (k+1)=zaH l b.os team res k+zbC l team res b.os[k]):=zfZ l b.os team res k hlt;have HOo:Hid (jU wr b.os[k] v0 v1):=⟨hsm,hl0,hl1⟩
   have HOl:Hid (b.os[k].vs.length<=1048576):=by
    have h3:=HZ.o.1
    have:=(zmi (left:=1048576) (ms:=b.os) (by omega) (by omega)).2 k hlt
    exact this.1
   have hwb:=zg3 l.ss b.os[k] res HOl.o;have HBr:Hid (Bw w wr):=HB0.o.trans (HQ.o.2.mono HB0.o.size);clear hsm hl0 hl1;go_wp2_with fail
   have HS:Hid ((∀j,wr.cell? (aD w.heap.size j)=(#[.l la l.ss.length lca,.l lb l.ms.length lcb,.l lc l.ts.length lcc]:AV)[j]?)/\(∀j,wr.cell? (aD (w.heap.size+1) j)=((bC b (some (aD ob off)) a1 a2 a3 c0 c1 c2 c3):AV)[j]?)/\wr.cell? (aD ob (off+k*7))=some (.s b.os[k].kd)/\wr.cell? (aD ob (off+k*7+1))=some (.s b.os[k].nm)/\wr.cell? (aD ob (off+k*7+2))=some (.s b.os[k].tm)/\wr.cell? (aD ob (off+k*7+3))=some (.l v0 b.os[k].vs.length q0)/\wr.cell? (aD ob (off+k*7+4))=some (.bool b.os[k].en)/\wr.cell? (aD ob (off+k*7+5))=some (.l v1 b.os[k].hs.length q1)/\wr.cell? (aD ob (off+k*7+6))=some (.i b.os[k].vr)):=⟨hX,hY,d0,d1,d2,d3,d4,d5,d6⟩
   have hS:(∀j,wr.drew.cell? (aD w.heap.size j)=(#[.l la l.ss.length lca,.l lb l.ms.length lcb,.l lc l.ts.length lcc]:AV)[j]?)/\(∀j,wr.drew.cell? (aD (w.heap.size+1) j)=((bC b (some (aD ob off)) a1 a2 a3 c0 c1 c2 c3):AV)[j]?)/\wr.drew.cell? (aD ob (off+k*7))=some (.s b.os[k].kd)/\wr.drew.cell? (aD ob (off+k*7+1))=some (.s b.os[k].nm)/\wr.drew.cell? (aD ob (off+k*7+2))=some (.s b.os[k].tm)/\wr.drew.cell? (aD ob (off+k*7+3))=some (.l v0 b.os[k].vs.length q0)/\wr.drew.cell? (aD ob (off+k*7+4))=some (.bool b.os[k].en)/\wr.drew.cell? (aD ob (off+k*7+5))=some (.l v1 b.os[k].hs.length q1)/\wr.drew.cell? (aD ob (off+k*7+6))=some (.i b.os[k].vr):=HS.o;clear hX hY d0 d1 d2 d3 d4 d5 d6
   go_region_held3 (fun w'=>(∀j,w'.cell? (aD w.heap.size j)=(#[.l la l.ss.length lca,.l lb l.ms.length lcb,.l lc l.ts.length lcc]:AV)[j]?)/\(∀j,w'.cell? (aD (w.heap.size+1) j)=(#[.i b.now,.i b.tick,.i b.given,.l (some (aD ob off)) b.os.length c0,.l a1 b.gs.length c1,.l a2 b.ls.length c2,.l a3 b.ps.length c3]:AV)[j]?)/\w'.cell? (aD ob (off+k*7))=some (.s b.os[k].kd)/\w'.cell? (aD ob (off+k*7+1))=some (.s b.os[k].nm)/\w'.cell? (aD ob (off+k*7+2))=some (.s b.os[k].tm)/\w'.cell? (aD ob (off+k*7+3))=some (.l v0 b.os[k].vs.length q0)/\w'.cell? (aD ob (off+k*7+4))=some (.bool b.os[k].en)/\w'.cell? (aD ob (off+k*7+5))=some (.l v1 b.os[k].hs.length q1)/\w'.cell? (aD ob (off+k*7+6))=some (.i b.os[k].vr)) (exact hS) (first|(go_at_call 76;refine(zli _ _ l.ts b.os[k].tm team _ (by exact HL.o.ts.mono HBr.o.drew)).mono ?_;rintro e w1⟨rfl,rfl⟩))
   obtain⟨w2,hw2⟩:=xN (wr.drew);have hB2:Bw W0 w2:=by rw[hw2];exact HQ.o.2.drew
   have HBr2:Hid (Bw w w2):=by unfold Hid;rw[hw2];exact HBr.o.drew
   have HO2:Hid (jU w2 b.os[k] v0 v1):=by unfold Hid;rw[hw2];exact HOo.o.mono (bRf _ _).drew
   have hS2:(∀j,w2.cell? (aD w.heap.size j)=(#[.l la l.ss.length lca,.l lb l.ms.length lcb,.l lc l.ts.length lcc]:AV)[j]?)/\(∀j,w2.cell? (aD (w.heap.size+1) j)=((bC b (some (aD ob off)) a1 a2 a3 c0 c1 c2 c3):AV)[j]?)/\w2.cell? (aD ob (off+k*7))=some (.s b.os[k].kd)/\w2.cell? (aD ob (off+k*7+1))=some (.s b.os[k].nm)/\w2.cell? (aD ob (off+k*7+2))=some (.s b.os[k].tm)/\w2.cell? (aD ob (off+k*7+3))=some (.l v0 b.os[k].vs.length q0)/\w2.cell? (aD ob (off+k*7+4))=some (.bool b.os[k].en)/\w2.cell? (aD ob (off+k*7+5))=some (.l v1 b.os[k].hs.length q1)/\w2.cell? (aD ob (off+k*7+6))=some (.i b.os[k].vr):=by rw[hw2];exact hS
   have hz2:w.heap.size+1<w2.heap.size:=by rw[hw2];exact hz
   have hzX2:=nSl hz2;have hob2:ob<w2.heap.size:=by rw[hw2];exact hob'
   have HB2:Hid (Bw W0 w2):=hB2;rw[<- hw2];clear hw2 hS HS hB2 hz hzX hob'
   by_cases hu:under l.ts 4 b.os[k].tm team=true
   ·have HU:Hid (zbC l team res b.os[k]=qW l.ss b.os[k] res):=by unfold Hid zbC;rw[if_pos hu]
    rw[hu];clear hu;have hS:(∀j,w2.drew.cell? (aD w.heap.size j)=(#[.l la l.ss.length lca,.l lb l.ms.length lcb,.l lc l.ts.length lcc]:AV)[j]?)/\(∀j,w2.drew.cell? (aD (w.heap.size+1) j)=((bC b (some (aD ob off)) a1 a2 a3 c0 c1 c2 c3):AV)[j]?)/\w2.drew.cell? (aD ob (off+k*7))=some (.s b.os[k].kd)/\w2.drew.cell? (aD ob (off+k*7+1))=some (.s b.os[k].nm)/\w2.drew.cell? (aD ob (off+k*7+2))=some (.s b.os[k].tm)/\w2.drew.cell? (aD ob (off+k*7+3))=some (.l v0 b.os[k].vs.length q0)/\w2.drew.cell? (aD ob (off+k*7+4))=some (.bool b.os[k].en)/\w2.drew.cell? (aD ob (off+k*7+5))=some (.l v1 b.os[k].hs.length q1)/\w2.drew.cell? (aD ob (off+k*7+6))=some (.i b.os[k].vr):=hS2;clear hS2;go_wp2_with fail
    go_region_held3 (fun w'=>(∀j,w'.cell? (aD w.heap.size j)=(#[.l la l.ss.length lca,.l lb l.ms.length lcb,.l lc l.ts.length lcc]:AV)[j]?)/\(∀j,w'.cell? (aD (w.heap.size+1) j)=(#[.i b.now,.i b.tick,.i b.given,.l (some (aD ob off)) b.os.length c0,.l a1 b.gs.length c1,.l a2 b.ls.length c2,.l a3 b.ps.length c3]:AV)[j]?)/\w'.cell? (aD ob (off+k*7))=some (.s b.os[k].kd)/\w'.cell? (aD ob (off+k*7+1))=some (.s b.os[k].nm)/\w'.cell? (aD ob (off+k*7+2))=some (.s b.os[k].tm)/\w'.cell? (aD ob (off+k*7+3))=some (.l v0 b.os[k].vs.length q0)/\w'.cell? (aD ob (off+k*7+4))=some (.bool b.os[k].en)/\w'.cell? (aD ob (off+k*7+5))=some (.l v1 b.os[k].hs.length q1)/\w'.cell? (aD ob (off+k*7+6))=some (.i b.os[k].vr)) (exact hS) (first|(go_at_call 77;refine(zjo l _ _ _ _ _ _ b.os[k] _ _ _ _ res _ (by exact HL.o.mono HBr2.o.drew) (by exact HO2.o.mono (bRf _ _).drew) HOl.o).mono ?_;rintro e w3⟨rfl,hb3⟩;have hS:=(⟨za hS.1 hzX2 hb3,za hS.2.1 hz2 hb3,(hb3.cell (p:=(aD ob _)) hob2).trans hS.2.2.1,(hb3.cell (p:=(aD ob _)) hob2).trans hS.2.2.2.1,(hb3.cell (p:=(aD ob _)) hob2).trans hS.2.2.2.2.1,(hb3.cell (p:=(aD ob _)) hob2).trans hS.2.2.2.2.2.1,(hb3.cell (p:=(aD ob _)) hob2).trans hS.2.2.2.2.2.2.1,(hb3.cell (p:=(aD ob _)) hob2).trans hS.2.2.2.2.2.2.2.1,(hb3.cell (p:=(aD ob _)) hob2).trans hS.2.2.2.2.2.2.2.2⟩:_/\_/\_/\_/\_/\_/\_/\_/\_);have hB3:=HB2.o.drew.trans (hb3.mono HB2.o.drew.size);clear hb3))
    go_wp2_with fail
    refine⟨⟨k+1,s+qW l.ss b.os[k] res,by omega,by go_num,?_,by rw[HSt.o,HU.o,HQ.o.1],hB3⟩,zq hlt⟩
    have hw:IntKind.i64.wrap (s+qW l.ss b.os[k] res)=s+qW l.ss b.os[k] res:=by
     rw[IntKind.wrap_i64];omega
    rw[hw]
   ·have hu':under l.ts 4 b.os[k].tm team=false:=by simpa using hu
    have HU:Hid (zbC l team res b.os[k]=0):=by unfold Hid zbC;rw[if_neg hu]
    rw[hu'];clear hu hu';go_wp2_with fail
    exact⟨⟨k+1,s,by omega,by go_num,rfl,by rw[HSt.o,HU.o,HQ.o.1];omega,HB2.o⟩,zq hlt⟩
  ·have e:k=b.os.length:=by omega
   subst e;have HE:Hid (used l b.os team res=s):=by unfold Hid used;rw[HQ.o.1]
   clear hlt hk;go_wp2_with fail
   go_ret;exact⟨zo HE.o.symm,HB0.o.trans (HQ.o.2.mono HB0.o.size)⟩
end Go.Proofs.YtcgpjfcocmcodaaGreat
