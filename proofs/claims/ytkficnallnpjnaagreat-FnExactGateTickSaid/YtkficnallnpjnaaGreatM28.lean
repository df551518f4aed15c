import Derived.Test.YtkficnallnpjnaaGreatM26
set_option maxHeartbeats 4000000
namespace Go.Proofs.YtkficnallnpjnaaGreat
open Go.RowKit
theorem zgk (l:Lw)(la lb lc:Option Addr)(lca lcb lcc:Nat)(b:Bk)(a0 a1 a2 a3:Option Addr)(c0 c1 c2 c3:Nat)(team res:ByteArray)(w:World)(hl:jr w l la lb lc)(hb:q8 w b a0 a1 a2 a3)(hz:qL b.os<=1048576) :
 Calls Tryz.prog 112 #[.agg (l.cells la lb lc lca lcb lcc),.agg (b.cells a0 a1 a2 a3 c0 c1 c2 c3),.string team,.string res] w fun e w'=>e=.returned (.int .i64 (used l b.os team res))/\Below w.heap.size w w':=by
 have HL:Hid (jr w l la lb lc):=hl;have HK:Hid (q8 w b a0 a1 a2 a3):=hb;have HZ:Hid (qL b.os<=1048576/\b.os.length<=1048576):=⟨hz,by unfold qL at hz;omega⟩
 clear hl hb hz;unfold Lw.cells Bk.cells;go_enter Tryz.func112,Tryz.ntmps112;go_wp2_with fail
 obtain⟨hX0,hY0⟩:=qX w #[.slice la l.ss.length lca,.slice lb l.ms.length lcb,.slice lc l.ts.length lcc] (bC b a0 a1 a2 a3 c0 c1 c2 c3) 47 40;have HB0:Hid (Below w.heap.size w ((w.alloc (.cells #[.slice la l.ss.length lca,.slice lb l.ms.length lcb,.slice lc l.ts.length lcc] 47)).alloc (.cells (bC b a0 a1 a2 a3 c0 c1 c2 c3) 40))):=zw w _ _;obtain⟨W0,hW0⟩:∃W0,W0=(w.alloc (.cells #[.slice la l.ss.length lca,.slice lb l.ms.length lcb,.slice lc l.ts.length lcc] 47)).alloc (.cells (bC b a0 a1 a2 a3 c0 c1 c2 c3) 40):=⟨_,rfl⟩
 have hz0:w.heap.size+1<W0.heap.size:=by rw[hW0];simp
 rw[<- hW0]at HB0 hX0 hY0 ⊢;clear hW0
 go_loopw [9,10] (fun nv iv wr=>∃(k:Nat) (s:Int),k<=b.os.length/\iv=.int .i64 k/\nv=.int .i64 s/\Hid (s=zaD l b.os team res k/\Below W0.heap.size W0 wr)) (fun _ iv _=>b.os.length-(intOf iv).toNat)
 case atStart=>exact⟨0,0,Nat.zero_le _,rfl,rfl,by simp[zaD],bRf _ _⟩
 case round=>
  obtain⟨k,s,hk,rfl,rfl,HQ⟩:=hrel
  have hsb:0<=s/\s<=20000000000000:=by
   have h1:=HQ.out.1;have h2:=zb1 l b.os team res k hk;have h3:=HZ.out;have h4:za7 (b.os.take k)<=za7 b.os:=zcW Ob.sz b.os k;unfold qL at h3;omega
  have hX:=za hX0 (nSl hz0) HQ.out.2;have hY:=za hY0 hz0 HQ.out.2;have hz:=nLt hz0 HQ.out.2.size;have hzX:=nSl hz;have hkn:k<=1048576:=by have:=HZ.out.2;omega
  by_cases hlt:k<b.os.length
  ·obtain⟨ob,off,v0,v1,q0,q1,rfl,hob,hsm,hl0,hl1,d0,d1,d2,d3,d4,d5,d6⟩:=HK.out.os.load (HB0.out.trans (HQ.out.2.mono HB0.out.size)) k hlt
   have hob':=nLt hob (HB0.out.trans (HQ.out.2.mono HB0.out.size)).size;have hltI:(k:Int)<(b.os.length:Int):=by omega
   have HSt:Hid (zaD l b.os team res (k+1)=zaD l b.os team res k+zbK l team res b.os[k]):=zfK l b.os team res k hlt;have HOo:Hid (jP wr b.os[k] v0 v1):=⟨hsm,hl0,hl1⟩
   have HOl:Hid (b.os[k].vs.length<=1048576):=by
    have h3:=HZ.out.1
    have:=(zlY (left:=1048576) (ms:=b.os) (by omega) (by omega)).2 k hlt
    exact this.1
   have hwb:=zgv l.ss b.os[k] res HOl.out;have HBr:Hid (Below w.heap.size w wr):=HB0.out.trans (HQ.out.2.mono HB0.out.size);clear hsm hl0 hl1;go_wp2_with fail
   have HS:Hid ((∀j,wr.cell? ⟨w.heap.size,j,none⟩=(#[.slice la l.ss.length lca,.slice lb l.ms.length lcb,.slice lc l.ts.length lcc]:Array Value)[j]?)/\(∀j,wr.cell? ⟨w.heap.size+1,j,none⟩=((bC b (some ⟨ob,off,none⟩) a1 a2 a3 c0 c1 c2 c3):Array Value)[j]?)/\wr.cell? ⟨ob,off+k*7,none⟩=some (.string b.os[k].kd)/\wr.cell? ⟨ob,off+k*7+1,none⟩=some (.string b.os[k].nm)/\wr.cell? ⟨ob,off+k*7+2,none⟩=some (.string b.os[k].tm)/\wr.cell? ⟨ob,off+k*7+3,none⟩=some (.slice v0 b.os[k].vs.length q0)/\wr.cell? ⟨ob,off+k*7+4,none⟩=some (.bool b.os[k].en)/\wr.cell? ⟨ob,off+k*7+5,none⟩=some (.slice v1 b.os[k].hs.length q1)/\wr.cell? ⟨ob,off+k*7+6,none⟩=some (.int .i64 b.os[k].vr)):=⟨hX,hY,d0,d1,d2,d3,d4,d5,d6⟩
   have hS:(∀j,wr.drew.cell? ⟨w.heap.size,j,none⟩=(#[.slice la l.ss.length lca,.slice lb l.ms.length lcb,.slice lc l.ts.length lcc]:Array Value)[j]?)/\(∀j,wr.drew.cell? ⟨w.heap.size+1,j,none⟩=((bC b (some ⟨ob,off,none⟩) a1 a2 a3 c0 c1 c2 c3):Array Value)[j]?)/\wr.drew.cell? ⟨ob,off+k*7,none⟩=some (.string b.os[k].kd)/\wr.drew.cell? ⟨ob,off+k*7+1,none⟩=some (.string b.os[k].nm)/\wr.drew.cell? ⟨ob,off+k*7+2,none⟩=some (.string b.os[k].tm)/\wr.drew.cell? ⟨ob,off+k*7+3,none⟩=some (.slice v0 b.os[k].vs.length q0)/\wr.drew.cell? ⟨ob,off+k*7+4,none⟩=some (.bool b.os[k].en)/\wr.drew.cell? ⟨ob,off+k*7+5,none⟩=some (.slice v1 b.os[k].hs.length q1)/\wr.drew.cell? ⟨ob,off+k*7+6,none⟩=some (.int .i64 b.os[k].vr):=HS.out;clear hX hY d0 d1 d2 d3 d4 d5 d6
   go_region_held3 (fun w'=>(∀j,w'.cell? ⟨w.heap.size,j,none⟩=(#[.slice la l.ss.length lca,.slice lb l.ms.length lcb,.slice lc l.ts.length lcc]:Array Value)[j]?)/\(∀j,w'.cell? ⟨w.heap.size+1,j,none⟩=(#[.int .i64 b.now,.int .i64 b.tick,.int .i64 b.given,.slice (some ⟨ob,off,none⟩) b.os.length c0,.slice a1 b.gs.length c1,.slice a2 b.ls.length c2,.slice a3 b.ps.length c3]:Array Value)[j]?)/\w'.cell? ⟨ob,off+k*7,none⟩=some (.string b.os[k].kd)/\w'.cell? ⟨ob,off+k*7+1,none⟩=some (.string b.os[k].nm)/\w'.cell? ⟨ob,off+k*7+2,none⟩=some (.string b.os[k].tm)/\w'.cell? ⟨ob,off+k*7+3,none⟩=some (.slice v0 b.os[k].vs.length q0)/\w'.cell? ⟨ob,off+k*7+4,none⟩=some (.bool b.os[k].en)/\w'.cell? ⟨ob,off+k*7+5,none⟩=some (.slice v1 b.os[k].hs.length q1)/\w'.cell? ⟨ob,off+k*7+6,none⟩=some (.int .i64 b.os[k].vr)) (exact hS) (first|(go_at_call 145;refine(zk1 _ _ l.ts b.os[k].tm team _ (by exact HL.out.ts.mono HBr.out.drew)).mono ?_;rintro e w1⟨rfl,rfl⟩))
   obtain⟨w2,hw2⟩:∃w2,w2=wr.drew:=⟨_,rfl⟩
   have hB2:Below W0.heap.size W0 w2:=by rw[hw2];exact HQ.out.2.drew
   have HBr2:Hid (Below w.heap.size w w2):=by unfold Hid;rw[hw2];exact HBr.out.drew
   have HO2:Hid (jP w2 b.os[k] v0 v1):=by unfold Hid;rw[hw2];exact HOo.out.mono (bRf _ _).drew
   have hS2:(∀j,w2.cell? ⟨w.heap.size,j,none⟩=(#[.slice la l.ss.length lca,.slice lb l.ms.length lcb,.slice lc l.ts.length lcc]:Array Value)[j]?)/\(∀j,w2.cell? ⟨w.heap.size+1,j,none⟩=((bC b (some ⟨ob,off,none⟩) a1 a2 a3 c0 c1 c2 c3):Array Value)[j]?)/\w2.cell? ⟨ob,off+k*7,none⟩=some (.string b.os[k].kd)/\w2.cell? ⟨ob,off+k*7+1,none⟩=some (.string b.os[k].nm)/\w2.cell? ⟨ob,off+k*7+2,none⟩=some (.string b.os[k].tm)/\w2.cell? ⟨ob,off+k*7+3,none⟩=some (.slice v0 b.os[k].vs.length q0)/\w2.cell? ⟨ob,off+k*7+4,none⟩=some (.bool b.os[k].en)/\w2.cell? ⟨ob,off+k*7+5,none⟩=some (.slice v1 b.os[k].hs.length q1)/\w2.cell? ⟨ob,off+k*7+6,none⟩=some (.int .i64 b.os[k].vr):=by rw[hw2];exact hS
   have hz2:w.heap.size+1<w2.heap.size:=by rw[hw2];exact hz
   have hzX2:=nSl hz2;have hob2:ob<w2.heap.size:=by rw[hw2];exact hob'
   have HB2:Hid (Below W0.heap.size W0 w2):=hB2;rw[<- hw2];clear hw2 hS HS hB2 hz hzX hob'
   by_cases hu:under l.ts 4 b.os[k].tm team=true
   ·have HU:Hid (zbK l team res b.os[k]=qQ l.ss b.os[k] res):=by unfold Hid zbK;rw[if_pos hu]
    rw[hu];clear hu;have hS:(∀j,w2.drew.cell? ⟨w.heap.size,j,none⟩=(#[.slice la l.ss.length lca,.slice lb l.ms.length lcb,.slice lc l.ts.length lcc]:Array Value)[j]?)/\(∀j,w2.drew.cell? ⟨w.heap.size+1,j,none⟩=((bC b (some ⟨ob,off,none⟩) a1 a2 a3 c0 c1 c2 c3):Array Value)[j]?)/\w2.drew.cell? ⟨ob,off+k*7,none⟩=some (.string b.os[k].kd)/\w2.drew.cell? ⟨ob,off+k*7+1,none⟩=some (.string b.os[k].nm)/\w2.drew.cell? ⟨ob,off+k*7+2,none⟩=some (.string b.os[k].tm)/\w2.drew.cell? ⟨ob,off+k*7+3,none⟩=some (.slice v0 b.os[k].vs.length q0)/\w2.drew.cell? ⟨ob,off+k*7+4,none⟩=some (.bool b.os[k].en)/\w2.drew.cell? ⟨ob,off+k*7+5,none⟩=some (.slice v1 b.os[k].hs.length q1)/\w2.drew.cell? ⟨ob,off+k*7+6,none⟩=some (.int .i64 b.os[k].vr):=hS2;clear hS2;go_wp2_with fail
    go_region_held3 (fun w'=>(∀j,w'.cell? ⟨w.heap.size,j,none⟩=(#[.slice la l.ss.length lca,.slice lb l.ms.length lcb,.slice lc l.ts.length lcc]:Array Value)[j]?)/\(∀j,w'.cell? ⟨w.heap.size+1,j,none⟩=(#[.int .i64 b.now,.int .i64 b.tick,.int .i64 b.given,.slice (some ⟨ob,off,none⟩) b.os.length c0,.slice a1 b.gs.length c1,.slice a2 b.ls.length c2,.slice a3 b.ps.length c3]:Array Value)[j]?)/\w'.cell? ⟨ob,off+k*7,none⟩=some (.string b.os[k].kd)/\w'.cell? ⟨ob,off+k*7+1,none⟩=some (.string b.os[k].nm)/\w'.cell? ⟨ob,off+k*7+2,none⟩=some (.string b.os[k].tm)/\w'.cell? ⟨ob,off+k*7+3,none⟩=some (.slice v0 b.os[k].vs.length q0)/\w'.cell? ⟨ob,off+k*7+4,none⟩=some (.bool b.os[k].en)/\w'.cell? ⟨ob,off+k*7+5,none⟩=some (.slice v1 b.os[k].hs.length q1)/\w'.cell? ⟨ob,off+k*7+6,none⟩=some (.int .i64 b.os[k].vr)) (exact hS) (first|(go_at_call 146;refine(zjC l _ _ _ _ _ _ b.os[k] _ _ _ _ res _ (by exact HL.out.mono HBr2.out.drew) (by exact HO2.out.mono (bRf _ _).drew) HOl.out).mono ?_;rintro e w3⟨rfl,hb3⟩;have hS:=(⟨za hS.1 hzX2 hb3,za hS.2.1 hz2 hb3,(hb3.cell (p:=⟨ob,_,none⟩) hob2).trans hS.2.2.1,(hb3.cell (p:=⟨ob,_,none⟩) hob2).trans hS.2.2.2.1,(hb3.cell (p:=⟨ob,_,none⟩) hob2).trans hS.2.2.2.2.1,(hb3.cell (p:=⟨ob,_,none⟩) hob2).trans hS.2.2.2.2.2.1,(hb3.cell (p:=⟨ob,_,none⟩) hob2).trans hS.2.2.2.2.2.2.1,(hb3.cell (p:=⟨ob,_,none⟩) hob2).trans hS.2.2.2.2.2.2.2.1,(hb3.cell (p:=⟨ob,_,none⟩) hob2).trans hS.2.2.2.2.2.2.2.2⟩:_/\_/\_/\_/\_/\_/\_/\_/\_);have hB3:=HB2.out.drew.trans (hb3.mono HB2.out.drew.size);clear hb3))
    go_wp2_with fail
    refine⟨⟨k+1,s+qQ l.ss b.os[k] res,by omega,by go_num,?_,by rw[HSt.out,HU.out,HQ.out.1],hB3⟩,zq hlt⟩
    have hw:IntKind.i64.wrap (s+qQ l.ss b.os[k] res)=s+qQ l.ss b.os[k] res:=by
     rw[IntKind.wrap_i64];omega
    rw[hw]
   ·have hu':under l.ts 4 b.os[k].tm team=false:=by simpa using hu
    have HU:Hid (zbK l team res b.os[k]=0):=by unfold Hid zbK;rw[if_neg hu]
    rw[hu'];clear hu hu';go_wp2_with fail
    exact⟨⟨k+1,s,by omega,by go_num,rfl,by rw[HSt.out,HU.out,HQ.out.1];omega,HB2.out⟩,zq hlt⟩
  ·have e:k=b.os.length:=by omega
   subst e;have HE:Hid (used l b.os team res=s):=by unfold Hid used;rw[HQ.out.1]
   clear hlt hk;go_wp2_with fail
   go_ret;exact⟨zo HE.out.symm,HB0.out.trans (HQ.out.2.mono HB0.out.size)⟩
end Go.Proofs.YtkficnallnpjnaaGreat
