import Derived.Test.YtjnpjkigofldlaaGreatM27
import Derived.Test.YtjnpjkigofldlaaGreatM28
import Derived.Test.YtjnpjkigofldlaaGreatM26
set_option maxRecDepth 20000
set_option maxHeartbeats 4000000
namespace Go.Proofs.YtjnpjkigofldlaaGreat
open Go.RowKit
variable {S:Nat->Prop}{hi lo lo' n n0 n1 n2 n3:Nat}{w w' w1:World}{a a0 a1 a2 a3:OA}{e:TypeId}{v:Value}{xs:List Value}
theorem znX (l:Lw)(la lb lc:OA)(lca lcb lcc:Nat)(b:Bk)(a0 a1 a2 a3:OA)(c0 c1 c2 c3:Nat)(team res:BA)(w:World)(hl:qp w l la lb lc)(hb:qj w b a0 a1 a2 a3)(hz:qK b.os<=1048576) :
 Calls Tryz.prog 126 #[.agg (l.cells la lb lc lca lcb lcc),.agg (b.cells a0 a1 a2 a3 c0 c1 c2 c3),.s team,.s res] w fun e w'=>e=.returned (.i (used l b.os team res))/\Bw w w':=by
 have HL:Hid (qp w l la lb lc):=hl;have HK:Hid (qj w b a0 a1 a2 a3):=hb;have HZ:Hid (qK b.os<=1048576/\b.os.length<=1048576):=⟨hz,by unfold qK at hz;omega⟩
 clear hl hb hz;unfold Lw.cells Bk.cells;go_in;go_wp2_with fail
 obtain⟨hX0,hY0⟩:=qB w (lC l la lb lc lca lcb lcc) (bC b a0 a1 a2 a3 c0 c1 c2 c3) 47 40;have HB0:Hid (Bw w ((w.alloc (.cells (lC l la lb lc lca lcb lcc) 47)).alloc (.cells (bC b a0 a1 a2 a3 c0 c1 c2 c3) 40))):=zo w _ _;obtain⟨W0,hW0⟩:=xN ((w.alloc (.cells (lC l la lb lc lca lcb lcc) 47)).alloc (.cells (bC b a0 a1 a2 a3 c0 c1 c2 c3) 40));have hz0:w.heap.size+1<W0.heap.size:=by rw[hW0];simp
 rw[<- hW0]at HB0 hX0 hY0 ⊢;clear hW0
 go_loopw [9,10] (fun nv iv wr=>∃(k:Nat) (s:Int),k<=b.os.length/\iv=.i k/\nv=.i s/\Hid (s=zaP l b.os team res k/\Bw W0 wr)) (fun _ iv _=>b.os.length-(intOf iv).toNat)
 case atStart=>exact⟨0,0,Nat.zero_le _,rfl,rfl,by simp[zaP],bRf _ _⟩
 case round=>
  obtain⟨k,s,hk,rfl,rfl,HQ⟩:=hrel
  have hsb:0<=s/\s<=20000000000000:=by
   have h1:=HQ.o.1;have h2:=zcg l b.os team res k hk;have h3:=HZ.o;have h4:za8 (b.os.take k)<=za8 b.os:=zc5 Ob.sz b.os k;unfold qK at h3;omega
  have hX:=za hX0 (nSl hz0) HQ.o.2;have hY:=za hY0 hz0 HQ.o.2;have hz:=nLt hz0 HQ.o.2.size;have hzX:=nSl hz;have hkn:k<=1048576:=by have:=HZ.o.2;omega
  by_cases hlt:k<b.os.length
  ·obtain⟨ob,off,v0,v1,q0,q1,rfl,hob,hsm,hl0,hl1,d0,d1,d2,d3,d4,d5,d6⟩:=HK.o.os.load (HB0.o.trans (HQ.o.2.mono HB0.o.size)) k hlt
   have hob':=nLt hob (HB0.o.trans (HQ.o.2.mono HB0.o.size)).size;have hltI:(k:Int)<(b.os.length:Int):=by omega
   have HSt:Hid (zaP l b.os team res (k+1)=zaP l b.os team res k+zbY l team res b.os[k]):=zgJ l b.os team res k hlt;have HOo:Hid (qY wr b.os[k] v0 v1):=⟨hsm,hl0,hl1⟩
   have HOl:Hid (b.os[k].vs.length<=1048576):=by
    have h3:=HZ.o.1
    have:=(znJ (left:=1048576) (ms:=b.os) (by omega) (by omega)).2 k hlt
    exact this.1
   have hwb:=zhH l.ss b.os[k] res HOl.o;have HBr:Hid (Bw w wr):=HB0.o.trans (HQ.o.2.mono HB0.o.size);clear hsm hl0 hl1;go_wp2_with fail
   have HS:Hid ((∀j,wr.cell? (aD w.heap.size j)=(lC l la lb lc lca lcb lcc)[j]?)/\(∀j,wr.cell? (aD (w.heap.size+1) j)=(bC b (some (aD ob off)) a1 a2 a3 c0 c1 c2 c3)[j]?)/\wr.cell? (aD ob (off+k*7))=some (.s b.os[k].kd)/\wr.cell? (aD ob (off+k*7+1))=some (.s b.os[k].nm)/\wr.cell? (aD ob (off+k*7+2))=some (.s b.os[k].tm)/\wr.cell? (aD ob (off+k*7+3))=some (.l v0 b.os[k].vs.length q0)/\wr.cell? (aD ob (off+k*7+4))=some (.bool b.os[k].en)/\wr.cell? (aD ob (off+k*7+5))=some (.l v1 b.os[k].hs.length q1)/\wr.cell? (aD ob (off+k*7+6))=some (.i b.os[k].vr)):=⟨hX,hY,d0,d1,d2,d3,d4,d5,d6⟩
   have hS:(∀j,wr.drew.cell? (aD w.heap.size j)=(lC l la lb lc lca lcb lcc)[j]?)/\(∀j,wr.drew.cell? (aD (w.heap.size+1) j)=(bC b (some (aD ob off)) a1 a2 a3 c0 c1 c2 c3)[j]?)/\wr.drew.cell? (aD ob (off+k*7))=some (.s b.os[k].kd)/\wr.drew.cell? (aD ob (off+k*7+1))=some (.s b.os[k].nm)/\wr.drew.cell? (aD ob (off+k*7+2))=some (.s b.os[k].tm)/\wr.drew.cell? (aD ob (off+k*7+3))=some (.l v0 b.os[k].vs.length q0)/\wr.drew.cell? (aD ob (off+k*7+4))=some (.bool b.os[k].en)/\wr.drew.cell? (aD ob (off+k*7+5))=some (.l v1 b.os[k].hs.length q1)/\wr.drew.cell? (aD ob (off+k*7+6))=some (.i b.os[k].vr):=HS.o;clear hX hY d0 d1 d2 d3 d4 d5 d6
   go_region_held3 (fun w'=>(∀j,w'.cell? (aD w.heap.size j)=(lC l la lb lc lca lcb lcc)[j]?)/\(∀j,w'.cell? (aD (w.heap.size+1) j)=(bC b (some (aD ob off)) a1 a2 a3 c0 c1 c2 c3)[j]?)/\w'.cell? (aD ob (off+k*7))=some (.s b.os[k].kd)/\w'.cell? (aD ob (off+k*7+1))=some (.s b.os[k].nm)/\w'.cell? (aD ob (off+k*7+2))=some (.s b.os[k].tm)/\w'.cell? (aD ob (off+k*7+3))=some (.l v0 b.os[k].vs.length q0)/\w'.cell? (aD ob (off+k*7+4))=some (.bool b.os[k].en)/\w'.cell? (aD ob (off+k*7+5))=some (.l v1 b.os[k].hs.length q1)/\w'.cell? (aD ob (off+k*7+6))=some (.i b.os[k].vr)) (exact hS) (first|(go_at_call 130;refine(zgb _ _ l.ts b.os[k].tm team _ (by exact HL.o.ts.mono HBr.o.drew)).mono ?_;rintro e w1⟨rfl,rfl⟩))
   obtain⟨w2,hw2⟩:=xN (wr.drew);have hB2:Bw W0 w2:=by rw[hw2];exact HQ.o.2.drew
   have HBr2:Hid (Bw w w2):=by unfold Hid;rw[hw2];exact HBr.o.drew
   have HO2:Hid (qY w2 b.os[k] v0 v1):=by unfold Hid;rw[hw2];exact HOo.o.mono (bRf _ _).drew
   have hS2:(∀j,w2.cell? (aD w.heap.size j)=(lC l la lb lc lca lcb lcc)[j]?)/\(∀j,w2.cell? (aD (w.heap.size+1) j)=(bC b (some (aD ob off)) a1 a2 a3 c0 c1 c2 c3)[j]?)/\w2.cell? (aD ob (off+k*7))=some (.s b.os[k].kd)/\w2.cell? (aD ob (off+k*7+1))=some (.s b.os[k].nm)/\w2.cell? (aD ob (off+k*7+2))=some (.s b.os[k].tm)/\w2.cell? (aD ob (off+k*7+3))=some (.l v0 b.os[k].vs.length q0)/\w2.cell? (aD ob (off+k*7+4))=some (.bool b.os[k].en)/\w2.cell? (aD ob (off+k*7+5))=some (.l v1 b.os[k].hs.length q1)/\w2.cell? (aD ob (off+k*7+6))=some (.i b.os[k].vr):=by rw[hw2];exact hS
   have hz2:w.heap.size+1<w2.heap.size:=by rw[hw2];exact hz
   have hzX2:=nSl hz2;have hob2:ob<w2.heap.size:=by rw[hw2];exact hob'
   have HB2:Hid (Bw W0 w2):=hB2;rw[<- hw2];clear hw2 hS HS hB2 hz hzX hob'
   by_cases hu:under l.ts 4 b.os[k].tm team=true
   ·have HU:Hid (zbY l team res b.os[k]=qm l.ss b.os[k] res):=by unfold Hid zbY;rw[if_pos hu]
    rw[hu];clear hu;have hS:(∀j,w2.drew.cell? (aD w.heap.size j)=(lC l la lb lc lca lcb lcc)[j]?)/\(∀j,w2.drew.cell? (aD (w.heap.size+1) j)=(bC b (some (aD ob off)) a1 a2 a3 c0 c1 c2 c3)[j]?)/\w2.drew.cell? (aD ob (off+k*7))=some (.s b.os[k].kd)/\w2.drew.cell? (aD ob (off+k*7+1))=some (.s b.os[k].nm)/\w2.drew.cell? (aD ob (off+k*7+2))=some (.s b.os[k].tm)/\w2.drew.cell? (aD ob (off+k*7+3))=some (.l v0 b.os[k].vs.length q0)/\w2.drew.cell? (aD ob (off+k*7+4))=some (.bool b.os[k].en)/\w2.drew.cell? (aD ob (off+k*7+5))=some (.l v1 b.os[k].hs.length q1)/\w2.drew.cell? (aD ob (off+k*7+6))=some (.i b.os[k].vr):=hS2;clear hS2;go_wp2_with fail
    go_region_held3 (fun w'=>(∀j,w'.cell? (aD w.heap.size j)=(lC l la lb lc lca lcb lcc)[j]?)/\(∀j,w'.cell? (aD (w.heap.size+1) j)=(bC b (some (aD ob off)) a1 a2 a3 c0 c1 c2 c3)[j]?)/\w'.cell? (aD ob (off+k*7))=some (.s b.os[k].kd)/\w'.cell? (aD ob (off+k*7+1))=some (.s b.os[k].nm)/\w'.cell? (aD ob (off+k*7+2))=some (.s b.os[k].tm)/\w'.cell? (aD ob (off+k*7+3))=some (.l v0 b.os[k].vs.length q0)/\w'.cell? (aD ob (off+k*7+4))=some (.bool b.os[k].en)/\w'.cell? (aD ob (off+k*7+5))=some (.l v1 b.os[k].hs.length q1)/\w'.cell? (aD ob (off+k*7+6))=some (.i b.os[k].vr)) (exact hS) (first|(go_at_call 131;refine(zfO l _ _ _ _ _ _ b.os[k] _ _ _ _ res _ (by exact HL.o.mono HBr2.o.drew) (by exact HO2.o.mono (bRf _ _).drew) HOl.o).mono ?_;rintro e w3⟨rfl,hb3⟩;have hS:=(⟨za hS.1 hzX2 hb3,za hS.2.1 hz2 hb3,(hb3.cell (p:=(aD ob _)) hob2).trans hS.2.2.1,(hb3.cell (p:=(aD ob _)) hob2).trans hS.2.2.2.1,(hb3.cell (p:=(aD ob _)) hob2).trans hS.2.2.2.2.1,(hb3.cell (p:=(aD ob _)) hob2).trans hS.2.2.2.2.2.1,(hb3.cell (p:=(aD ob _)) hob2).trans hS.2.2.2.2.2.2.1,(hb3.cell (p:=(aD ob _)) hob2).trans hS.2.2.2.2.2.2.2.1,(hb3.cell (p:=(aD ob _)) hob2).trans hS.2.2.2.2.2.2.2.2⟩:_/\_/\_/\_/\_/\_/\_/\_/\_);have hB3:=HB2.o.drew.trans (hb3.mono HB2.o.drew.size);clear hb3))
    go_wp2_with fail
    refine⟨⟨k+1,s+qm l.ss b.os[k] res,by omega,by go_num,?_,by rw[HSt.o,HU.o,HQ.o.1],hB3⟩,zi hlt⟩
    have hw:IntKind.i64.wrap (s+qm l.ss b.os[k] res)=s+qm l.ss b.os[k] res:=by
     rw[IntKind.wrap_i64];omega
    rw[hw]
   ·have hu':under l.ts 4 b.os[k].tm team=false:=by simpa using hu
    have HU:Hid (zbY l team res b.os[k]=0):=by unfold Hid zbY;rw[if_neg hu]
    rw[hu'];clear hu hu';go_wp2
    exact⟨⟨k+1,s,by omega,by go_num,rfl,by rw[HSt.o,HU.o,HQ.o.1];omega,HB2.o⟩,zi hlt⟩
  ·have e:k=b.os.length:=by omega
   subst e;have HE:Hid (used l b.os team res=s):=by unfold Hid used;rw[HQ.o.1]
   clear hlt hk;go_wp2
   go_ret;exact⟨zm HE.o.symm,HB0.o.trans (HQ.o.2.mono HB0.o.size)⟩
structure BkF (lo hi:Nat)(w:World)(own:Nat->Lb)(a0 a1 a2 a3:OA)(n0 n1 n2 n3:Nat)(f0:Nat->Ob)(f1:Nat->Gr)(f2:Nat->Lg)(f3:Nat->Pu):Prop where
 os:jD lo w own a0 n0 f0
 gs:zcl lo w own a1 n1 f1
 ls:zaR lo w own a2 n2 f2
 ps:zc0 lo w own a3 n3 f3
 out:∀k,(k<lo \/ hi<=k)->(own k).1=9
 le:lo<=hi
 hi:hi<=w.heap.size
def BkL (lo hi:Nat)(w:World)(own:Nat->Lb)(b:Bk)(a0 a1 a2 a3:OA):Prop:=BkF lo hi w own a0 a1 a2 a3 b.os.length b.gs.length b.ls.length b.ps.length (jo b.os) (zcm b.gs) (zdl b.ls) (zfM b.ps)
def kB0 (b:Bk):Int:=kOb 1 b.os b.os.length
def kB1 (b:Bk):Int:=kGr (kB0 b) b.gs b.gs.length
def kB2 (b:Bk):Int:=kLg (kB1 b) b.ls b.ls.length
def kB3 (b:Bk):Int:=kPu (kB2 b) b.ps b.ps.length
def BkM (lo hi:Nat)(w:World)(own:Nat->Lb)(b:Bk)(a0 a1 a2 a3:OA):Prop:=BkF lo hi w own a0 a1 a2 a3 b.os.length b.gs.length b.ls.length b.ps.length (zk4 1 b.os) (zk7 (kB0 b) b.gs) (zkP (kB1 b) b.ls) (zlp (kB2 b) b.ps)
theorem BkF.left {own:Nat->Lb}{f0:Nat->Ob}{f1:Nat->Gr}{f2:Nat->Lg}{f3:Nat->Pu}(h:BkF lo hi w own a0 a1 a2 a3 n0 n1 n2 n3 f0 f1 f2 f3)(hl:Left S w w')(hS:∀k,(own k).1<4->¬S k):BkF lo hi w' own a0 a1 a2 a3 n0 n1 n2 n3 f0 f1 f2 f3:=
 ⟨h.os.left hl (fun k hk=>hS k (by omega)),h.gs.left hl (fun k hk=>hS k (by omega)),h.ls.left hl (fun k hk=>hS k (by omega)),h.ps.left hl (fun k hk=>hS k (by omega)),h.out,h.le,Nat.le_trans h.hi hl.size⟩
theorem BkF.mono {own:Nat->Lb}{f0:Nat->Ob}{f1:Nat->Gr}{f2:Nat->Lg}{f3:Nat->Pu}(h:BkF lo hi w own a0 a1 a2 a3 n0 n1 n2 n3 f0 f1 f2 f3)(hb:Bw w w'):BkF lo hi w' own a0 a1 a2 a3 n0 n1 n2 n3 f0 f1 f2 f3:=h.left (Left.of_below (fun _=>False) hb) (fun _ _ h=>h)
theorem BkF.marked {hi':Nat}{own:Nat->Lb}{f0:Nat->Ob}{f1:Nat->Gr}{f2:Nat->Lg}{f3:Nat->Pu}(h:BkF lo hi w own a0 a1 a2 a3 n0 n1 n2 n3 f0 f1 f2 f3)(hm:Marked lo' hi' w w')(hh:hi'<=lo):BkF lo hi w' own a0 a1 a2 a3 n0 n1 n2 n3 f0 f1 f2 f3:=
 h.left (S:=fun k=>k<lo) ⟨hm.os,hm.tape,hm.output,hm.size,fun k hk hn=>hm.out k hk (Or.inr (by omega))⟩ (fun k hk hn=>by have:=h.out k (Or.inl hn);omega)
theorem BkL.at {own:Nat->Lb}{b:Bk}(h:BkL lo hi w own b a0 a1 a2 a3)(hs:b.Small):qj w b a0 a1 a2 a3:=⟨h.os.at hs.os hs.lo,h.gs.at hs.gs hs.lg,h.ls.at hs.ls hs.ll,h.ps.at hs.ps hs.lp⟩
theorem ztE (b:Bk)(hf:b.Few):1<=kB0 b/\kB0 b<=kB1 b/\kB1 b<=kB2 b/\kB2 b<=kB3 b/\kB3 b<=4000000000000:=by
 have h0:=zrg 1 b.os b.os.length (zkI hf.os.2);have h1:=zqE (kB0 b) b.gs b.gs.length (zlK hf.gs.2);have h2:=zrh (kB1 b) b.ls b.ls.length;have h3:=zqn (kB2 b) b.ps b.ps.length;have e0:kB0 b=kOb 1 b.os b.os.length:=rfl;have e1:kB1 b=kGr (kB0 b) b.gs b.gs.length:=rfl;have e2:kB2 b=kLg (kB1 b) b.ls b.ls.length:=rfl;have e3:kB3 b=kPu (kB2 b) b.ps b.ps.length:=rfl;have c0:=hf.os.1;have c1:=hf.gs.1;have c2:=hf.ls;have c3:=hf.ps;refine⟨?_,?_,?_,?_,?_⟩ <;> omega
theorem zir (lo hi:Nat)(own:Nat->Lb)(b:Bk)(a0 a1 a2 a3:OA)(c0 c1 c2 c3:Nat)(w:World)(h:BkL lo hi w own b a0 a1 a2 a3)(hf:b.Few) :
 Calls Tryz.prog 13 #[.agg (bC b a0 a1 a2 a3 c0 c1 c2 c3),.i 1] w fun e w'=>e=.returned (.i (kB3 b))/\BkM lo hi w' own b a0 a1 a2 a3/\Left (fun q=>(own q).1<4) w w':=by
 have HF:=hid h;have HL:=hid hf;have HK:=hid (ztE b hf);clear h hf;go_in;go_wp2_with fail
 have hX0:=zI w (bC b a0 a1 a2 a3 c0 c1 c2 c3) 40;have HM0:=hid (((bRf w.heap.size w).alloc (Nat.le_refl _) (.cells (bC b a0 a1 a2 a3 c0 c1 c2 c3) 40)));obtain⟨W0,hW0⟩:=xN (w.alloc (.cells (bC b a0 a1 a2 a3 c0 c1 c2 c3) 40));have hz0:w.heap.size<W0.heap.size:=by rw[hW0];simp
 rw[<- hW0]at hX0 HM0 ⊢;clear hW0;have HF0:=hid (BkF.mono HF.o HM0.o);have HL0:Hid (Left (fun q=>(own q).1<4) w W0):=Left.of_below _ HM0.o;have HBX:Hid (¬(own w.heap.size).1<4):=by have h1:=HF.o.out w.heap.size (Or.inr HF.o.hi);show ¬_;omega
 refine(zf0 lo own _ _ b.os _ _ HF0.o.os HL.o.os.1 (zkI HL.o.os.2) (by omega) (by omega)).mono ?_;rintro e w1⟨he,hn,hl⟩;obtain rfl:e=.returned (.i (kB0 b)):=he;have HF1:=hid (BkF.mk (lo:=lo) (hi:=hi) (w:=w1) (own:=own) (hn) (HF0.o.gs.left hl (fun k h1 h2=>by omega)) (HF0.o.ls.left hl (fun k h1 h2=>by omega)) (HF0.o.ps.left hl (fun k h1 h2=>by omega)) HF0.o.out HF0.o.le (Nat.le_trans HF0.o.hi hl.size));have hX1:∀o,w1.cell? (aD w.heap.size o)=(bC b a0 a1 a2 a3 c0 c1 c2 c3)[o]?:=fun o=>by rw[<- hX0 o];unfold World.cell?;rw[hl.out w.heap.size hz0 (fun h1=>HBX.o (by omega))]
 have hz1:=nLt hz0 hl.size;have HL1:=hid (HL0.o.trans (hl.wide (fun q hq=>by omega)));clear hn hl hX0 hz0 HF0 HL0;go_wp2_with fail
 refine(zgQ lo own _ _ b.gs _ _ HF1.o.gs HL.o.gs.1 (zlK HL.o.gs.2) (by have a0:=HK.o;omega) (by have a0:=HK.o;omega)).mono ?_;rintro e w2⟨he,hn,hl⟩;obtain rfl:e=.returned (.i (kB1 b)):=he;have HF2:=hid (BkF.mk (lo:=lo) (hi:=hi) (w:=w2) (own:=own) (HF1.o.os.left hl (fun k h1 h2=>by omega)) (hn) (HF1.o.ls.left hl (fun k h1 h2=>by omega)) (HF1.o.ps.left hl (fun k h1 h2=>by omega)) HF1.o.out HF1.o.le (Nat.le_trans HF1.o.hi hl.size));have hX2:∀o,w2.cell? (aD w.heap.size o)=(bC b a0 a1 a2 a3 c0 c1 c2 c3)[o]?:=fun o=>by rw[<- hX1 o];unfold World.cell?;rw[hl.out w.heap.size hz1 (fun h1=>HBX.o (by omega))]
 have hz2:=nLt hz1 hl.size;have HL2:=hid (HL1.o.trans (hl.wide (fun q hq=>by omega)));clear hn hl hX1 hz1 HF1 HL1;go_wp2_with fail
 refine(zf5 lo own _ _ b.ls _ _ HF2.o.ls HL.o.ls (by have a0:=HK.o;omega) (by have a0:=HK.o;omega)).mono ?_;rintro e w3⟨he,hn,hl⟩;obtain rfl:e=.returned (.i (kB2 b)):=he;have HF3:=hid (BkF.mk (lo:=lo) (hi:=hi) (w:=w3) (own:=own) (HF2.o.os.left hl (fun k h1 h2=>by omega)) (HF2.o.gs.left hl (fun k h1 h2=>by omega)) (hn) (HF2.o.ps.left hl (fun k h1 h2=>by omega)) HF2.o.out HF2.o.le (Nat.le_trans HF2.o.hi hl.size));have hX3:∀o,w3.cell? (aD w.heap.size o)=(bC b a0 a1 a2 a3 c0 c1 c2 c3)[o]?:=fun o=>by rw[<- hX2 o];unfold World.cell?;rw[hl.out w.heap.size hz2 (fun h1=>HBX.o (by omega))]
 have hz3:=nLt hz2 hl.size;have HL3:=hid (HL2.o.trans (hl.wide (fun q hq=>by omega)));clear hn hl hX2 hz2 HF2 HL2;go_wp2_with fail
 refine(zgD lo own _ _ b.ps _ _ HF3.o.ps HL.o.ps (by have a0:=HK.o;omega) (by have a0:=HK.o;omega)).mono ?_;rintro e w4⟨he,hn,hl⟩;obtain rfl:e=.returned (.i (kB3 b)):=he;have HF4:=hid (BkF.mk (lo:=lo) (hi:=hi) (w:=w4) (own:=own) (HF3.o.os.left hl (fun k h1 h2=>by omega)) (HF3.o.gs.left hl (fun k h1 h2=>by omega)) (HF3.o.ls.left hl (fun k h1 h2=>by omega)) (hn) HF3.o.out HF3.o.le (Nat.le_trans HF3.o.hi hl.size));have hX4:∀o,w4.cell? (aD w.heap.size o)=(bC b a0 a1 a2 a3 c0 c1 c2 c3)[o]?:=fun o=>by rw[<- hX3 o];unfold World.cell?;rw[hl.out w.heap.size hz3 (fun h1=>HBX.o (by omega))]
 have hz4:=nLt hz3 hl.size;have HL4:=hid (HL3.o.trans (hl.wide (fun q hq=>by omega)));clear hn hl hX3 hz3 HF3 HL3;go_wp2
 go_ret;exact⟨rfl,HF4.o,HL4.o⟩
theorem zdZ (lo hi:Nat)(own:Nat->Lb)(b:Bk)(a0 a1 a2 a3:OA)(c0 c1 c2 c3:Nat)(w:World)(h:BkM lo hi w own b a0 a1 a2 a3)(hf:b.Few) :
 Calls Tryz.prog 14 #[.agg (bC b a0 a1 a2 a3 c0 c1 c2 c3),.i 1] w fun e w'=>e=.returned (.i (kB3 b))/\Bw w w':=by
 have HF:=hid h;have HL:=hid hf;have HK:=hid (ztE b hf);clear h hf;go_in;go_wp2_with fail
 have hX0:=zI w (bC b a0 a1 a2 a3 c0 c1 c2 c3) 40;have HM0:=hid (((bRf w.heap.size w).alloc (Nat.le_refl _) (.cells (bC b a0 a1 a2 a3 c0 c1 c2 c3) 40)));obtain⟨W0,hW0⟩:=xN (w.alloc (.cells (bC b a0 a1 a2 a3 c0 c1 c2 c3) 40));have hz0:w.heap.size<W0.heap.size:=by rw[hW0];simp
 rw[<- hW0]at hX0 HM0 ⊢;clear hW0;refine(zf1 lo own _ _ b.os _ _ (HF.o.os.mono HM0.o) HL.o.os.1 (zkI HL.o.os.2) (by omega) (by omega)).mono ?_;rintro e w1⟨he,hb⟩;obtain rfl:e=.returned (.i (kB0 b)):=he;have hX1:=za hX0 hz0 hb;have hz1:=nLt hz0 hb.size;have HM1:=hid (HM0.o.trans (hb.mono HM0.o.size));have hng0:decide (kB0 b<0)=false:=by have a0:=HK.o;simp only[decide_eq_false_iff_not];omega
 clear hb hX0 hz0 HM0;go_wp2_with fail
 refine(zgy lo own _ _ b.gs _ _ (HF.o.gs.mono HM1.o) HL.o.gs.1 (zlK HL.o.gs.2) (by have a0:=HK.o;omega) (by have a0:=HK.o;omega)).mono ?_;rintro e w2⟨he,hb⟩;obtain rfl:e=.returned (.i (kB1 b)):=he;have hX2:=za hX1 hz1 hb;have hz2:=nLt hz1 hb.size;have HM2:=hid (HM1.o.trans (hb.mono HM1.o.size));have hng1:decide (kB1 b<0)=false:=by have a0:=HK.o;simp only[decide_eq_false_iff_not];omega
 clear hb hX1 hz1 HM1;go_wp2_with fail
 refine(zf2 lo own _ _ b.ls _ _ (HF.o.ls.mono HM2.o) HL.o.ls (by have a0:=HK.o;omega) (by have a0:=HK.o;omega)).mono ?_;rintro e w3⟨he,hb⟩;obtain rfl:e=.returned (.i (kB2 b)):=he;have hX3:=za hX2 hz2 hb;have hz3:=nLt hz2 hb.size;have HM3:=hid (HM2.o.trans (hb.mono HM2.o.size));have hng2:decide (kB2 b<0)=false:=by have a0:=HK.o;simp only[decide_eq_false_iff_not];omega
 clear hb hX2 hz2 HM2;go_wp2_with fail
 refine(zgP lo own _ _ b.ps _ _ (HF.o.ps.mono HM3.o) HL.o.ps (by have a0:=HK.o;omega) (by have a0:=HK.o;omega)).mono ?_;rintro e w4⟨he,hb⟩;obtain rfl:e=.returned (.i (kB3 b)):=he;have hX4:=za hX3 hz3 hb;have hz4:=nLt hz3 hb.size;have HM4:=hid (HM3.o.trans (hb.mono HM3.o.size));have hng3:decide (kB3 b<0)=false:=by have a0:=HK.o;simp only[decide_eq_false_iff_not];omega
 clear hb hX3 hz3 HM3;go_wp2
 go_ret;exact⟨rfl,HM4.o⟩
theorem zcX {α:Type}(row:α->List Value)(n:Nat)(hn:∀p,(row p).length=n):∀ps:List α,(ps.flatMap row).length=ps.length*n
 | []=>by simp
 | p :: ps=>by rw[List.flatMap_cons,List.length_append,hn,zcX row n hn ps,List.length_cons,Nat.succ_mul];omega
theorem zeq {α:Type}(row:α->List Value)(n:Nat)(hn:∀p,(row p).length=n):∀(ps:List α) (i:Nat) (h:i<ps.length) (j:Nat),j<n->(ps.flatMap row)[i*n+j]?=(row ps[i])[j]?
 | [],i,h,_,_=>by simp at h
 | p :: ps,0,_,j,hj=>by
  rw[List.flatMap_cons,List.getElem?_append_left (by rw[hn];omega),Nat.zero_mul,Nat.zero_add];rfl
 | p :: ps,i+1,h,j,hj=>by
  rw[List.flatMap_cons,List.getElem?_append_right (by rw[hn,Nat.succ_mul];omega),hn,show(i+1)*n+j-n=i*n+j by rw[Nat.succ_mul];omega,zeq row n hn ps i (by simpa using h) j hj];rfl
theorem Left.grown {w2:World}{row:Option Nat}(h:Left S w w1)(hg:w1.grownBy w2 row)(hS:∀k,row=some k->S k):Left S w w2:=
 ⟨hg.os.trans h.os,hg.tape.trans h.tape,hg.output.trans h.output,Nat.le_trans h.size hg.size,fun k hk hn=>(hg.block k (nLt hk h.size) (fun e=>hn (hS k e.symm))).trans (h.out k hk hn)⟩
theorem zfi (w:World)(xs:List Value)(t:TypeId):∀j u,xs[j]?=some u->(w.alloc (.cells xs.toArray t)).cell? (((aD w.heap.size 0):Addr).add j)=some u:=by
 intro j u hj;rw[Addr.add_mid,Nat.zero_add,World.cell?_alloc_at (hn:=rfl)]
 simpa using hj
theorem zam {sz:Nat}(h:w.ownsRow lo e sz v n xs):∃a cap,v=.l a n cap:=by
 obtain⟨_,⟨rfl,h0⟩|⟨b,cap,cur,rfl,_⟩⟩:=h
 ·exact⟨none,0,by rw[h0]⟩
 ·exact⟨_,cap,rfl⟩
theorem zrH {sz:Nat}(h:w.ownsRow lo e sz v n xs)(hl:lo'<=lo):w.ownsRow lo' e sz v n xs:=by
 obtain⟨h0,h1|⟨g,cap,cur,h2,h3,h4⟩⟩:=h
 ·exact⟨h0,Or.inl h1⟩
 ·exact⟨h0,Or.inr ⟨g,cap,cur,h2,Nat.le_trans hl h3,h4⟩⟩
theorem ztQ {sz:Nat}{cap:Nat}(h:w.ownsRow lo e sz (.l a n cap) n xs):n<=cap:=by
 obtain⟨_,⟨h0,h1⟩|⟨g,cap',cur,h2,h3,h4,h5,_⟩⟩:=h
 ·omega
 ·cases h2;exact h5
theorem zj2 {sz:Nat}{cap:Nat}(h:w.ownsRow lo e sz (.l a n cap) n xs)(hn:0<n):∃b C,a=some (aD b 0)/\lo<=b/\w.heap[b]?=some (.cells C e)/\n*sz<=C.size/\∀j,j<n*sz->C[j]?=xs[j]?:=by
 obtain⟨hl,⟨h0,hz⟩|⟨b,cp,cur,h0,hlo,hh,hnc,hm,hs,ht⟩⟩:=h
 ·omega
 ·cases h0
  have hle:n*sz<=cur.size:=by rw[hs];exact Nat.mul_le_mul_right _ hnc
  exact⟨b,cur,rfl,hlo,hh,hle,fun j hj=>by rw[<- ht,List.getElem?_take_of_lt hj,Array.getElem?_toList]⟩
theorem Tryz.zrj:(Tryz.prog.info? 116).map (fun i=>(i.zero,i.size,i.bytes))=some (some (.agg oZ),7,112):=by kernel_rfl
structure ObP where
 x:Ob
 a0:OA
 c0:Nat
 a1:OA
 c1:Nat
def ObP.row (p:ObP):List Value:=[.s p.x.kd,.s p.x.nm,.s p.x.tm,.l p.a0 p.x.vs.length p.c0,.bool p.x.en,.l p.a1 p.x.hs.length p.c1,.i p.x.vr]
def zd2 (lo:Nat)(w:World)(own:Nat->Lb)(v:Value)(xs:List Ob):Prop:=
 ∃ps:List ObP,ps.map ObP.x=xs/\w.ownsRow lo 116 7 v ps.length (ps.flatMap ObP.row)/\(∀k,v.ownBlock=some k->own k=(0,0,0))/\∀i (h:i<ps.length),zk lo w ps[i].a0 ps[i].x.vs/\(∀g,ps[i].a0=some g->own g.block=(0,i,1))/\zk lo w ps[i].a1 ps[i].x.hs/\(∀g,ps[i].a1=some g->own g.block=(0,i,2))
theorem zd2.lie {own:Nat->Lb}{xs:List Ob}(h:zd2 lo w own v xs):∃a cap,v=.l a xs.length cap/\jD lo w own a xs.length (jo xs):=by
 obtain⟨ps,h1,h2,h3,h4⟩:=h;have hn:ps.length=xs.length:=by rw[<- h1,List.length_map]
 obtain⟨a,cap,rfl⟩:=zam h2;refine⟨a,cap,by rw[hn],⟨fun hp=>?_⟩⟩;obtain⟨b,C,rfl,hlo,hC,hs,hc⟩:=zj2 h2 (by omega);refine⟨b,C,rfl,hlo,h3 b rfl,hC,by rw[<- hn];exact hs,fun i hi=>?_⟩;have hi':i<ps.length:=by omega
 have he:jo xs i=ps[i].x:=by rw[qW hi];simp[<- h1]
 obtain⟨l0,o0,l1,o1⟩:=h4 i hi';rw[he];refine⟨ps[i].a0,ps[i].a1,ps[i].c0,ps[i].c1,fun j hj=>?_,l0,o0,l1,o1⟩
 show C[i*7+j]?=_
 have hlt:i*7+j<ps.length*7:=by omega
 rw[hc _ hlt,zeq _ 7 (fun _=>rfl) ps i hi' j hj];unfold ObP.row
 simp
theorem zd2.cap {own:Nat->Lb}{cap:Nat}{xs:List Ob}(h:zd2 lo w own (.l a n cap) xs):n<=cap:=by
 obtain⟨ps,_,h2,_⟩:=h;obtain⟨a',c',h3⟩:=zam h2
 cases h3
 exact ztQ h2
theorem zd2.left {own:Nat->Lb}{xs:List Ob}(h:zd2 lo w own v xs)(hl:Left S w w')(hS:∀k,(own k).1=0->¬S k):zd2 lo w' own v xs:=by
 obtain⟨ps,h1,h2,h3,h4⟩:=h;refine⟨ps,h1,q9 h2 (fun g hg=>hl.out g (h2.lt g hg).2 (hS g (by rw[h3 g hg]))),h3,fun i hi=>?_⟩;obtain⟨l0,o0,l1,o1⟩:=h4 i hi;exact⟨l0.left hl (fun g hg=>hS _ (by rw[o0 g hg])),o0,l1.left hl (fun g hg=>hS _ (by rw[o1 g hg])),o1⟩
theorem zd2.snoc {m:Nat}{wr w4:World}{own:Nat->Lb}{v':Value}{xs:List Ob}{ps:List ObP}{x:Ob}{c0:Nat}{c1:Nat}{o:Obj}(h1:ps.map ObP.x=xs)(h2:wr.ownsRow lo 116 7 v ps.length (ps.flatMap ObP.row))(h3:∀k,v.ownBlock=some k->own k=(0,0,0))(h4:∀i (h:i<ps.length),zk lo wr ps[i].a0 ps[i].x.vs/\(∀g,ps[i].a0=some g->own g.block=(0,i,1))/\zk lo wr ps[i].a1 ps[i].x.hs/\(∀g,ps[i].a1=some g->own g.block=(0,i,2)))
 (hlo:lo<=wr.heap.size) (hB:Bw wr w1) (hl0:zk wr.heap.size w1 a0 x.vs) (hm:∀g,a0=some g->g.block<m) (hwm:wr.heap.size<=m) (hl1:zk m w1 a1 x.hs) (hg:(w1.alloc o).grownBy w4 v.ownBlock) (ho:w4.ownsRow lo 116 7 v' (ps.length+1) (ps.flatMap ObP.row++[.s x.kd,.s x.nm,.s x.tm,.l a0 x.vs.length c0,.bool x.en,.l a1 x.hs.length c1,.i x.vr])) (hat:v'.ownBlock=v.ownBlock \/ v'.ownBlock=some (w1.alloc o).heap.size) :
 ∃own',(∀k,k<wr.heap.size->own' k=own k)/\zd2 lo w4 own' v' (xs++[x]):=by
 have hn:ps.length=xs.length:=by rw[<- h1,List.length_map]
 have hz1:=hB.size;have hv:∀k,v.ownBlock=some k->k<wr.heap.size:=fun k hk=>(h2.lt k hk).2
 have hL1:Left (fun k=>v.ownBlock=some k) w1 w4:=(Left.of_below _ ((bRf _ _).alloc (Nat.le_refl _) o)).grown hg (fun _ h=>h);have hL:Left (fun k=>v.ownBlock=some k) wr w4:=(Left.of_below _ hB).trans hL1;obtain⟨own',he'⟩:∃own':Nat->Lb,own'=fun k=>if k<wr.heap.size then own k else if a0=some (aD k 0) then (0,xs.length,1) else if a1=some (aD k 0) then (0,xs.length,2) else (0,0,0):=⟨_,rfl⟩
 have hold:∀k,k<wr.heap.size->own' k=own k:=fun k hk=>by rw[he'];exact if_pos hk
 refine⟨own',hold,ps++[⟨x,a0,c0,a1,c1⟩],by rw[List.map_append,h1];rfl,?_,fun k hk=>?_,fun i hi=>?_⟩
 ·rw[List.flatMap_append,List.length_append];exact ho
 ·rcases hat with e|e
  ·rw[hold k (hv k (e ▸ hk))];exact h3 k (e ▸ hk)
  ·rw[hk]at e
   obtain rfl:k=w1.heap.size+1:=by simpa using e
   rw[he']
   show(if _ then _ else _)=_
   rw[if_neg (by omega)];rw[if_neg (by intro e2;have:=hl0.lt _ e2;simp at this;omega)];rw[if_neg (by intro e2;have:=hl1.lt _ e2;simp at this;omega)]
 ·by_cases hi':i<ps.length
  ·have e1:(ps++[⟨x,a0,c0,a1,c1⟩])[i]=ps[i]:=List.getElem_append_left hi'
   rw[e1];obtain⟨l0,o0,l1,o1⟩:=h4 i hi';exact⟨l0.left hL (fun g hg hh=>by have e3:=o0 g hg;rw[h3 _ hh]at e3;simp at e3),fun g hg=>by rw[hold _ (l0.lt g hg)];exact o0 g hg,l1.left hL (fun g hg hh=>by have e3:=o1 g hg;rw[h3 _ hh]at e3;simp at e3),fun g hg=>by rw[hold _ (l1.lt g hg)];exact o1 g hg⟩
  ·have ei:i=ps.length:=by rw[List.length_append]at hi;simp at hi;omega
   subst ei;have e1:(ps++[⟨x,a0,c0,a1,c1⟩])[ps.length]=⟨x,a0,c0,a1,c1⟩:=by simp
   rw[e1]
   have g0:∀g,a0=some g->wr.heap.size<=g.block/\g=(aD g.block 0):=by
    rintro g rfl
    rcases hl0 with⟨h9,_⟩|⟨g',C,h9,h8,_⟩
    ·cases h9
    ·cases h9;exact⟨h8,rfl⟩
   have g1:∀g,a1=some g->m<=g.block/\g=(aD g.block 0):=by
    rintro g rfl
    rcases hl1 with⟨h9,_⟩|⟨g',C,h9,h8,_⟩
    ·cases h9
    ·cases h9;exact⟨h8,rfl⟩
   refine⟨(hl0.low hlo).left hL1 (fun g hg hh=>by have:=(g0 g hg).1;have:=hv _ hh;omega),fun g hg=>?_,(hl1.low (by omega)).left hL1 (fun g hg hh=>by have:=(g1 g hg).1;have:=hv _ hh;omega),fun g hg=>?_⟩
   ·have h9:=g0 g hg
    rw[he']
    show(if _ then _ else _)=_
    rw[if_neg (by omega),if_pos (hg.trans (congrArg some h9.2)),hn]
   ·have h9:=g1 g hg
    rw[he']
    show(if _ then _ else _)=_
    rw[if_neg (by omega),if_neg (by intro e2;have:=hm _ e2;simp at this;omega),if_pos (hg.trans (congrArg some h9.2)),hn]
theorem Tryz.zsU:(Tryz.prog.info? 126).map (fun i=>(i.zero,i.size,i.bytes))=some (some (.agg #[.i 0,.s ByteArray.empty,.s ByteArray.empty,.l none 0 0,.s ByteArray.empty,.s ByteArray.empty,.s ByteArray.empty]),7,112):=by kernel_rfl
structure GrP where
 x:Gr
 a0:OA
 c0:Nat
def GrP.row (p:GrP):List Value:=[.i p.x.no,.s p.x.to,.s p.x.gb,.l p.a0 p.x.r.vs.length p.c0,.s p.x.r.kd,.s p.x.r.tm,.s p.x.r.px]
def ziA (lo:Nat)(w:World)(own:Nat->Lb)(v:Value)(xs:List Gr):Prop:=
 ∃ps:List GrP,ps.map GrP.x=xs/\w.ownsRow lo 126 7 v ps.length (ps.flatMap GrP.row)/\(∀k,v.ownBlock=some k->own k=(1,0,0))/\∀i (h:i<ps.length),z8 lo w ps[i].a0 ps[i].x.r.vs/\(∀g,ps[i].a0=some g->own g.block=(1,i,3))
theorem ziA.lie {own:Nat->Lb}{xs:List Gr}(h:ziA lo w own v xs):∃a cap,v=.l a xs.length cap/\zcl lo w own a xs.length (zcm xs):=by
 obtain⟨ps,h1,h2,h3,h4⟩:=h;have hn:ps.length=xs.length:=by rw[<- h1,List.length_map]
 obtain⟨a,cap,rfl⟩:=zam h2;refine⟨a,cap,by rw[hn],⟨fun hp=>?_⟩⟩;obtain⟨b,C,rfl,hlo,hC,hs,hc⟩:=zj2 h2 (by omega);refine⟨b,C,rfl,hlo,h3 b rfl,hC,by rw[<- hn];exact hs,fun i hi=>?_⟩;have hi':i<ps.length:=by omega
 have he:zcm xs i=ps[i].x:=by rw[znE hi];simp[<- h1]
 obtain⟨l0,o0⟩:=h4 i hi';rw[he];refine⟨ps[i].a0,ps[i].c0,fun j hj=>?_,l0,o0⟩
 show C[i*7+j]?=_
 have hlt:i*7+j<ps.length*7:=by omega
 rw[hc _ hlt,zeq _ 7 (fun _=>rfl) ps i hi' j hj];unfold GrP.row
 simp
theorem ziA.left {own:Nat->Lb}{xs:List Gr}(h:ziA lo w own v xs)(hl:Left S w w')(hS:∀k,(own k).1=1->¬S k):ziA lo w' own v xs:=by
 obtain⟨ps,h1,h2,h3,h4⟩:=h;refine⟨ps,h1,q9 h2 (fun g hg=>hl.out g (h2.lt g hg).2 (hS g (by rw[h3 g hg]))),h3,fun i hi=>?_⟩;obtain⟨l0,o0⟩:=h4 i hi;exact⟨l0.left hl (fun g hg=>hS _ (by rw[o0 g hg])),o0⟩
theorem ziA.snoc {wr w4:World}{own:Nat->Lb}{v':Value}{xs:List Gr}{ps:List GrP}{x:Gr}{c0:Nat}{o:Obj}(h1:ps.map GrP.x=xs)(h2:wr.ownsRow lo 126 7 v ps.length (ps.flatMap GrP.row))(h3:∀k,v.ownBlock=some k->own k=(1,0,0))(h4:∀i (h:i<ps.length),z8 lo wr ps[i].a0 ps[i].x.r.vs/\(∀g,ps[i].a0=some g->own g.block=(1,i,3)))
 (hlo:lo<=wr.heap.size) (hB:Bw wr w1) (hl0:z8 wr.heap.size w1 a0 x.r.vs) (hg:(w1.alloc o).grownBy w4 v.ownBlock) (ho:w4.ownsRow lo 126 7 v' (ps.length+1) (ps.flatMap GrP.row++[.i x.no,.s x.to,.s x.gb,.l a0 x.r.vs.length c0,.s x.r.kd,.s x.r.tm,.s x.r.px])) (hat:v'.ownBlock=v.ownBlock \/ v'.ownBlock=some (w1.alloc o).heap.size) :
 ∃own',(∀k,k<wr.heap.size->own' k=own k)/\ziA lo w4 own' v' (xs++[x]):=by
 have hn:ps.length=xs.length:=by rw[<- h1,List.length_map]
 have hz1:=hB.size;have hv:∀k,v.ownBlock=some k->k<wr.heap.size:=fun k hk=>(h2.lt k hk).2
 have hL1:Left (fun k=>v.ownBlock=some k) w1 w4:=(Left.of_below _ ((bRf _ _).alloc (Nat.le_refl _) o)).grown hg (fun _ h=>h);have hL:Left (fun k=>v.ownBlock=some k) wr w4:=(Left.of_below _ hB).trans hL1;obtain⟨own',he'⟩:∃own':Nat->Lb,own'=fun k=>if k<wr.heap.size then own k else if a0=some (aD k 0) then (1,xs.length,3) else (1,0,0):=⟨_,rfl⟩
 have hold:∀k,k<wr.heap.size->own' k=own k:=fun k hk=>by rw[he'];exact if_pos hk
 refine⟨own',hold,ps++[⟨x,a0,c0⟩],by rw[List.map_append,h1];rfl,?_,fun k hk=>?_,fun i hi=>?_⟩
 ·rw[List.flatMap_append,List.length_append];exact ho
 ·rcases hat with e|e
  ·rw[hold k (hv k (e ▸ hk))];exact h3 k (e ▸ hk)
  ·rw[hk]at e
   obtain rfl:k=w1.heap.size+1:=by simpa using e
   rw[he']
   show(if _ then _ else _)=_
   rw[if_neg (by omega)];rw[if_neg (by intro e2;have:=hl0.lt _ e2;simp at this;omega)]
 ·by_cases hi':i<ps.length
  ·have e1:(ps++[⟨x,a0,c0⟩])[i]=ps[i]:=List.getElem_append_left hi'
   rw[e1];obtain⟨l0,o0⟩:=h4 i hi';exact⟨l0.left hL (fun g hg hh=>by have e3:=o0 g hg;rw[h3 _ hh]at e3;simp at e3),fun g hg=>by rw[hold _ (l0.lt g hg)];exact o0 g hg⟩
  ·have ei:i=ps.length:=by rw[List.length_append]at hi;simp at hi;omega
   subst ei;have e1:(ps++[⟨x,a0,c0⟩])[ps.length]=⟨x,a0,c0⟩:=by simp
   rw[e1]
   have g0:∀g,a0=some g->wr.heap.size<=g.block/\g=(aD g.block 0):=by
    rintro g rfl
    rcases hl0 with⟨h9,_⟩|⟨g',C,h9,h8,_⟩
    ·cases h9
    ·cases h9;exact⟨h8,rfl⟩
   refine⟨(hl0.low hlo).left hL1 (fun g hg hh=>by have:=(g0 g hg).1;have:=hv _ hh;omega),fun g hg=>?_⟩;have h9:=g0 g hg;rw[he']
   show(if _ then _ else _)=_
   rw[if_neg (by omega),if_pos (hg.trans (congrArg some h9.2)),hn]
theorem Tryz.ztn:(Tryz.prog.info? 138).map (fun i=>(i.zero,i.size,i.bytes))=some (some (.agg #[.s ByteArray.empty,.s ByteArray.empty,.i 0,.i 0]),4,48):=by kernel_rfl
def Lg.row (p:Lg):List Value:=[.s p.tm,.s p.rs,.i p.mo,.i p.fr]
def zfb (lo:Nat)(w:World)(own:Nat->Lb)(v:Value)(xs:List Lg):Prop:=
 w.ownsRow lo 138 4 v xs.length (xs.flatMap Lg.row)/\∀k,v.ownBlock=some k->own k=(2,0,0)
theorem zfb.lie {own:Nat->Lb}{xs:List Lg}(h:zfb lo w own v xs):∃a cap,v=.l a xs.length cap/\zaR lo w own a xs.length (zdl xs):=by
 obtain⟨h2,h3⟩:=h;obtain⟨a,cap,rfl⟩:=zam h2;refine⟨a,cap,rfl,⟨fun hp=>?_⟩⟩;obtain⟨b,C,rfl,hlo,hC,hs,hc⟩:=zj2 h2 hp;refine⟨b,C,rfl,hlo,h3 b rfl,hC,hs,fun i hi=>?_⟩;rw[zdu hi];refine⟨fun j hj=>?_⟩
 show C[i*4+j]?=_
 have hlt:i*4+j<xs.length*4:=by omega
 rw[hc _ hlt,zeq _ 4 (fun _=>rfl) xs i hi j hj];unfold Lg.row
 simp
theorem zfb.left {own:Nat->Lb}{xs:List Lg}(h:zfb lo w own v xs)(hl:Left S w w')(hS:∀k,(own k).1=2->¬S k):zfb lo w' own v xs:=
 ⟨q9 h.1 (fun g hg=>hl.out g (h.1.lt g hg).2 (hS g (by rw[h.2 g hg]))),h.2⟩
theorem zfb.own {own own':Nat->Lb}{xs:List Lg}(h:zfb lo w own v xs)(he:∀k,k<w.heap.size->(own k).1=2->own' k=own k):zfb lo w own' v xs:=⟨h.1,fun k hk=>by rw[he k (h.1.lt k hk).2 (by rw[h.2 k hk])];exact h.2 k hk⟩
theorem zfb.low {own:Nat->Lb}{xs:List Lg}(h:zfb lo w own v xs)(hl:lo'<=lo):zfb lo' w own v xs:=⟨zrH h.1 hl,h.2⟩
theorem ztF {b off:Nat}{xs:List Lg}(h:zbU w (some (aD b off)) xs):∀j u,(xs.flatMap Lg.row)[j]?=some u->w.cell? (((aD b off):Addr).add j)=some u:=by
 intro j u hj;have hlt:=(List.getElem?_eq_some_iff.1 hj).1;rw[zcX _ 4 (fun _=>rfl)]at hlt;obtain⟨b',off',e,_,hc⟩:=h.rows (by rintro rfl;simp at hlt)
 cases e
 have hi:j / 4<xs.length:=by omega
 have e1:j=j / 4*4+j % 4:=by omega
 rw[Addr.add_mid,show off+j=off+j / 4*4+j % 4 by omega,hc (j / 4) hi (j % 4) (by omega),<- hj]
 conv=>rhs;rw[e1]
 rw[zeq _ 4 (fun _=>rfl) xs (j / 4) hi (j % 4) (by omega)];unfold Lg.row Lg.cells
 simp
theorem zrz {xs:List Lg}:∀u∈xs.flatMap Lg.row,u.oneCell'=true:=by
 intro u hu;obtain⟨p,_,hp⟩:=List.mem_flatMap.1 hu;unfold Lg.row at hp
 simp at hp
 rcases hp with rfl|rfl|rfl|rfl <;> rfl
theorem Tryz.zs6:(Tryz.prog.info? 140).map (fun i=>(i.zero,i.size,i.bytes))=some (some (.agg #[.s ByteArray.empty,.s ByteArray.empty,.s ByteArray.empty,.i 0,.i 0]),5,64):=by kernel_rfl
def Pu.row (p:Pu):List Value:=[.s p.dr,.s p.tm,.s p.rs,.i p.am,.i p.un]
def zgN (lo:Nat)(w:World)(own:Nat->Lb)(v:Value)(xs:List Pu):Prop:=
 w.ownsRow lo 140 5 v xs.length (xs.flatMap Pu.row)/\∀k,v.ownBlock=some k->own k=(3,0,0)
theorem zgN.lie {own:Nat->Lb}{xs:List Pu}(h:zgN lo w own v xs):∃a cap,v=.l a xs.length cap/\zc0 lo w own a xs.length (zfM xs):=by
 obtain⟨h2,h3⟩:=h;obtain⟨a,cap,rfl⟩:=zam h2;refine⟨a,cap,rfl,⟨fun hp=>?_⟩⟩;obtain⟨b,C,rfl,hlo,hC,hs,hc⟩:=zj2 h2 hp;refine⟨b,C,rfl,hlo,h3 b rfl,hC,hs,fun i hi=>?_⟩;rw[zrG hi];refine⟨fun j hj=>?_⟩
 show C[i*5+j]?=_
 have hlt:i*5+j<xs.length*5:=by omega
 rw[hc _ hlt,zeq _ 5 (fun _=>rfl) xs i hi j hj];unfold Pu.row
 simp
theorem zgN.left {own:Nat->Lb}{xs:List Pu}(h:zgN lo w own v xs)(hl:Left S w w')(hS:∀k,(own k).1=3->¬S k):zgN lo w' own v xs:=
 ⟨q9 h.1 (fun g hg=>hl.out g (h.1.lt g hg).2 (hS g (by rw[h.2 g hg]))),h.2⟩
theorem zgN.low {own:Nat->Lb}{xs:List Pu}(h:zgN lo w own v xs)(hl:lo'<=lo):zgN lo' w own v xs:=⟨zrH h.1 hl,h.2⟩
theorem ztd {b off:Nat}{xs:List Pu}(h:zcp w (some (aD b off)) xs):∀j u,(xs.flatMap Pu.row)[j]?=some u->w.cell? (((aD b off):Addr).add j)=some u:=by
 intro j u hj;have hlt:=(List.getElem?_eq_some_iff.1 hj).1;rw[zcX _ 5 (fun _=>rfl)]at hlt;obtain⟨b',off',e,_,hc⟩:=h.rows (by rintro rfl;simp at hlt)
 cases e
 have hi:j / 5<xs.length:=by omega
 have e1:j=j / 5*5+j % 5:=by omega
 rw[Addr.add_mid,show off+j=off+j / 5*5+j % 5 by omega,hc (j / 5) hi (j % 5) (by omega),<- hj]
 conv=>rhs;rw[e1]
 rw[zeq _ 5 (fun _=>rfl) xs (j / 5) hi (j % 5) (by omega)];unfold Pu.row Pu.cells
 simp
theorem zrs {xs:List Pu}:∀u∈xs.flatMap Pu.row,u.oneCell'=true:=by
 intro u hu;obtain⟨p,_,hp⟩:=List.mem_flatMap.1 hu;unfold Pu.row at hp
 simp at hp
 rcases hp with rfl|rfl|rfl|rfl|rfl <;> rfl
theorem zpI (own0:Nat->Lb)(a:OA)(cap:Nat)(xs:List Ob)(w:World)(hw:zby w a xs)(hl:xs.length<=1048576)(hls:∀i (h:i<xs.length),xs[i].vs.length<=1048576/\xs[i].hs.length<=1048576) :
 Calls Tryz.prog 86 #[.l a xs.length cap,.func (.func 87) #[] #[]] w fun e w'=>∃v own,e=.returned v/\(∀k,k<w.heap.size->own k=own0 k)/\zd2 w.heap.size w' own v xs/\Bw w w':=by
 obtain⟨i0,hi,hzi,hz1',hz2'⟩:=info_parts Tryz.zrj;have HI:Hid (Tryz.prog.info? 116=some i0/\i0.zero=some (.agg oZ)/\i0.size=7/\i0.bytes=112):=⟨hi,hzi,hz1',hz2'⟩
 have HK:=hid hw;have HL:=yB hl hls;clear hw hi hzi hz1' hz2' hls;go_in;go_wp2
 go_loopw [5,10] (fun v0 iv wr=>∃(k:Nat) (v:Value) (own:Nat->Lb),v=v0/\k<=xs.length/\iv=.i k/\Hid (zd2 w.heap.size wr own v (xs.take k)/\(∀q,q<w.heap.size->own q=own0 q)/\Bw w wr)) (fun _ iv _=>xs.length-(intOf iv).toNat)
 case atStart=>exact⟨0,_,own0,rfl,Nat.zero_le _,rfl,⟨[],by simp,World.ownsRow_nil _ _ _ _,fun k hk=>by simp[Value.ownBlock]at hk,fun i hi=>absurd hi (by simp)⟩,fun _ _=>rfl,bRf _ _⟩
 case round=>
  obtain⟨k,v,own,hv,hk,rfl,HQ⟩:=hrel;subst hv
  by_cases hlt:k<xs.length
  ·obtain⟨ob,off,va0,va1,vc0,vc1,rfl,hob,hsm,hi0,hi1,d0,d1,d2,d3,d4,d5,d6⟩:=HK.o.load HQ.o.2.2 k hlt
   have hob':=nLt hob HQ.o.2.2.size;have hltI:(k:Int)<(xs.length:Int):=by omega
   have HI0:=hid hi0;have HI1:=hid hi1;have HBa:=hid ((bRf wr.heap.size wr).alloc (Nat.le_refl _) (.cells (oC xs[k] va0 va1 vc0 vc1) 116));clear hi0 hi1;go_wp2_with fail
   clear d0 d1 d2 d3 d4 d5 d6;refine(zft xs[k] va0 va1 vc0 vc1 _ ⟨hsm,HI0.o.mono HBa.o,HI1.o.mono HBa.o⟩ (HL.o.2 k hlt).1 (HL.o.2 k hlt).2).mono ?_;rintro e w1⟨a0,c0,a1,c1,m,rfl,ht0,hm,hsm1,ht1,hb1⟩;have hzW:wr.heap.size<=(wr.alloc (.cells (oC xs[k] va0 va1 vc0 vc1) 116)).heap.size:=by simp
   have HT:Hid (zk wr.heap.size w1 a0 xs[k].vs/\(∀g,a0=some g->g.block<m)/\wr.heap.size<=m/\zk m w1 a1 xs[k].hs):=⟨ht0.low hzW,hm,Nat.le_trans hzW hsm1,ht1⟩
   clear ht0 hm hsm1 ht1;have HB1:=hid (HBa.o.trans (hb1.mono hzW));clear hb1 HBa HI0 HI1 hsm;obtain⟨ps,hps,hown,hlab,hent⟩:=HQ.o.1;have HPS:=j3 hps hown hlab hent;have hpl:ps.length=(xs.take k).length:=by rw[<- hps,List.length_map]
   rw[List.length_take]at hpl;have HLL:Hid (ps.length<=1048576/\w.heap.size<=wr.heap.size/\wr.heap.size<=w1.heap.size):=⟨by omega,HQ.o.2.2.size,HB1.o.size⟩
   clear hpl;have hown1:w1.ownsRow w.heap.size 116 7 v ps.length (ps.flatMap ObP.row):=yc hown HB1.o;clear hps hown hlab hent
   go_wp2_with (at_builtin;refine wpList_append_own_at _ rfl (.tmp 14) (.tmp 18) 35 rfl w.heap.size 116 i0 (.agg oZ) 7 112 Tryz.underlying35 HI.o.1 HI.o.2.1 HI.o.2.2.1 HI.o.2.2.2 rfl (by decide) _ _ _ rfl (hown1.alloc _) (aD w1.heap.size 0) 1 1 [.s xs[k].kd,.s xs[k].nm,.s xs[k].tm,.l a0 xs[k].vs.length c0,.bool xs[k].en,.l a1 xs[k].hs.length c1,.i xs[k].vr] rfl rfl (zfi _ _ _) (by intro u hu;simp at hu;rcases hu with rfl|rfl|rfl|rfl|rfl|rfl|rfl <;> rfl) (by have:=HLL.o;unfold maxLen;omega) (by have:=HLL.o;omega) (by have:=HLL.o;simp;omega) ?_;intro v' w4 hown' hgr _ hat)
   obtain⟨own',ho1,ho2⟩:=zd2.snoc HPS.o.1 HPS.o.2.1 HPS.o.2.2.1 HPS.o.2.2.2 HLL.o.2.1 HB1.o HT.o.1 HT.o.2.1 HT.o.2.2.1 HT.o.2.2.2 hgr hown' hat;exact⟨⟨k+1,v',own',rfl,by omega,by go_num,by rw[tSe hlt];exact ho2,fun z hz=>(ho1 z (by have:=HLL.o;omega)).trans (HQ.o.2.1 z hz),((HQ.o.2.2.trans (HB1.o.mono HLL.o.2.1)).alloc (by have:=HLL.o;omega) _).grown hgr (by have:=HLL.o;simp;omega) (fun z hz=>(HPS.o.2.1.lt z hz).1)⟩,zi hlt⟩
  ·have e:k=xs.length:=by omega
   subst e;have HE:=HQ;rw[tOl (Nat.le_refl _)]at HE;clear HQ;go_wp2
   go_ret;exact⟨v,own,rfl,HE.o.2.1,HE.o.1,HE.o.2.2⟩
theorem zp9 (own0:Nat->Lb)(a:OA)(cap:Nat)(xs:List Gr)(w:World)(hw:zcs w a xs)(hl:xs.length<=1048576)(hls:∀i (h:i<xs.length),xs[i].r.vs.length<=1048576) :
 Calls Tryz.prog 88 #[.l a xs.length cap,.func (.func 89) #[] #[]] w fun e w'=>∃v own,e=.returned v/\(∀k,k<w.heap.size->own k=own0 k)/\ziA w.heap.size w' own v xs/\Bw w w':=by
 obtain⟨i0,hi,hzi,hz1',hz2'⟩:=info_parts Tryz.zsU;have HI:Hid (Tryz.prog.info? 126=some i0/\i0.zero=some (.agg #[.i 0,.s ByteArray.empty,.s ByteArray.empty,.l none 0 0,.s ByteArray.empty,.s ByteArray.empty,.s ByteArray.empty])/\i0.size=7/\i0.bytes=112):=⟨hi,hzi,hz1',hz2'⟩
 have HK:=hid hw;have HL:=yB hl hls;clear hw hi hzi hz1' hz2' hls;go_in;go_wp2
 go_loopw [5,10] (fun v0 iv wr=>∃(k:Nat) (v:Value) (own:Nat->Lb),v=v0/\k<=xs.length/\iv=.i k/\Hid (ziA w.heap.size wr own v (xs.take k)/\(∀q,q<w.heap.size->own q=own0 q)/\Bw w wr)) (fun _ iv _=>xs.length-(intOf iv).toNat)
 case atStart=>exact⟨0,_,own0,rfl,Nat.zero_le _,rfl,⟨[],by simp,World.ownsRow_nil _ _ _ _,fun k hk=>by simp[Value.ownBlock]at hk,fun i hi=>absurd hi (by simp)⟩,fun _ _=>rfl,bRf _ _⟩
 case round=>
  obtain⟨k,v,own,hv,hk,rfl,HQ⟩:=hrel;subst hv
  by_cases hlt:k<xs.length
  ·obtain⟨ob,off,va0,vc0,rfl,hob,hsm,hi0,d0,d1,d2,d3,d4,d5,d6⟩:=HK.o.load HQ.o.2.2 k hlt
   have hob':=nLt hob HQ.o.2.2.size;have hltI:(k:Int)<(xs.length:Int):=by omega
   have HI0:=hid hi0;have HBa:=hid ((bRf wr.heap.size wr).alloc (Nat.le_refl _) (.cells #[.i xs[k].no,.s xs[k].to,.s xs[k].gb,.l va0 xs[k].r.vs.length vc0,.s xs[k].r.kd,.s xs[k].r.tm,.s xs[k].r.px] 126));clear hi0;go_wp2_with fail
   clear d0 d1 d2 d3 d4 d5 d6;refine(zmq xs[k] va0 vc0 _ (HI0.o.mono HBa.o) (HL.o.2 k hlt)).mono ?_;rintro e w1⟨a0,c0,rfl,ht0,hb1⟩;have hzW:wr.heap.size<=(wr.alloc (.cells #[.i xs[k].no,.s xs[k].to,.s xs[k].gb,.l va0 xs[k].r.vs.length vc0,.s xs[k].r.kd,.s xs[k].r.tm,.s xs[k].r.px] 126)).heap.size:=by simp
   have HT:Hid (z8 wr.heap.size w1 a0 xs[k].r.vs):=ht0.low hzW;clear ht0;have HB1:=hid (HBa.o.trans (hb1.mono hzW));clear hb1 HBa HI0 hsm;obtain⟨ps,hps,hown,hlab,hent⟩:=HQ.o.1;have HPS:=j3 hps hown hlab hent;have hpl:ps.length=(xs.take k).length:=by rw[<- hps,List.length_map]
   rw[List.length_take]at hpl;have HLL:Hid (ps.length<=1048576/\w.heap.size<=wr.heap.size/\wr.heap.size<=w1.heap.size):=⟨by omega,HQ.o.2.2.size,HB1.o.size⟩
   clear hpl;have hown1:w1.ownsRow w.heap.size 126 7 v ps.length (ps.flatMap GrP.row):=yc hown HB1.o;clear hps hown hlab hent
   go_wp2_with (at_builtin;refine wpList_append_own_at _ rfl (.tmp 14) (.tmp 18) 36 rfl w.heap.size 126 i0 (.agg #[.i 0,.s ByteArray.empty,.s ByteArray.empty,.l none 0 0,.s ByteArray.empty,.s ByteArray.empty,.s ByteArray.empty]) 7 112 Tryz.underlying36 HI.o.1 HI.o.2.1 HI.o.2.2.1 HI.o.2.2.2 rfl (by decide) _ _ _ rfl (hown1.alloc _) (aD w1.heap.size 0) 1 1 [.i xs[k].no,.s xs[k].to,.s xs[k].gb,.l a0 xs[k].r.vs.length c0,.s xs[k].r.kd,.s xs[k].r.tm,.s xs[k].r.px] rfl rfl (zfi _ _ _) (by intro u hu;simp at hu;rcases hu with rfl|rfl|rfl|rfl|rfl|rfl|rfl <;> rfl) (by have:=HLL.o;unfold maxLen;omega) (by have:=HLL.o;omega) (by have:=HLL.o;simp;omega) ?_;intro v' w4 hown' hgr _ hat)
   obtain⟨own',ho1,ho2⟩:=ziA.snoc HPS.o.1 HPS.o.2.1 HPS.o.2.2.1 HPS.o.2.2.2 HLL.o.2.1 HB1.o HT.o hgr hown' hat;exact⟨⟨k+1,v',own',rfl,by omega,by go_num,by rw[tSe hlt];exact ho2,fun z hz=>(ho1 z (by have:=HLL.o;omega)).trans (HQ.o.2.1 z hz),((HQ.o.2.2.trans (HB1.o.mono HLL.o.2.1)).alloc (by have:=HLL.o;omega) _).grown hgr (by have:=HLL.o;simp;omega) (fun z hz=>(HPS.o.2.1.lt z hz).1)⟩,zi hlt⟩
  ·have e:k=xs.length:=by omega
   subst e;have HE:=HQ;rw[tOl (Nat.le_refl _)]at HE;clear HQ;go_wp2
   go_ret;exact⟨v,own,rfl,HE.o.2.1,HE.o.1,HE.o.2.2⟩
end Go.Proofs.YtjnpjkigofldlaaGreat
