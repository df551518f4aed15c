import Derived.Test.YtedangodjiolaaaGreatM23
import Derived.Test.YtedangodjiolaaaGreatM22
set_option maxHeartbeats 8000000
namespace Go.Proofs.YtedangodjiolaaaGreat
open Go.RowKit
def zrk:Ob:=⟨ByteArray.empty,ByteArray.empty,ByteArray.empty,[],false,[],0⟩
def zbQ (l:Lw)(team res:BA)(o:Ob):Int:=if under l.ts 4 o.tm team=true then qV l.ss o res else 0
def zaL (l:Lw)(os:List Ob)(team res:BA):Nat->Int
 | 0=>0
 | k+1=>zaL l os team res k+zbQ l team res (os.getD k zrk)
def used (l:Lw)(os:List Ob)(team res:BA):Int:=zaL l os team res os.length
theorem zpu (ss:List Shp)(o:Ob)(res:BA):0<=qV ss o res/\qV ss o res<=1+o.sz*10000000:=by
 have h0:o.vs.length<=o.sz:=by unfold Ob.sz zdU yL;omega
 unfold qV
 split
 ·rename_i hc
  have hc1:=hc.1;unfold zG at hc1;simp only[Bool.and_eq_true,decide_eq_true_eq]at hc1
  have:=zcX (shapeOf ss o.kd).fs o.vs res (shapeOf ss o.kd).fs.length
  have h3:=hc1.2
  split <;> omega
 ·omega
theorem zlh (l:Lw)(team res:BA)(o:Ob):0<=zbQ l team res o/\zbQ l team res o<=1+o.sz*10000000:=by
 unfold zbQ
 split
 ·exact zpu _ _ _
 ·omega
theorem zfL (l:Lw)(os:List Ob)(team res:BA)(k:Nat)(h:k<os.length):zaL l os team res (k+1)=zaL l os team res k+zbQ l team res os[k]:=by
 have e1:os.getD k zrk=os[k]:=by simp[List.getD,h]
 simp only[zaL];rw[e1]
theorem zb8 (l:Lw)(os:List Ob)(team res:BA):∀k,k<=os.length->0<=zaL l os team res k/\zaL l os team res k<=k+zbd (os.take k)*10000000
 | 0,_=>by simp[zaL,zbd]
 | k+1,h=>by
  have h1:=zb8 l os team res k (by omega);have h2:=zlh l team res os[k];have h3:zbd (os.take (k+1))=zbd (os.take k)+os[k].sz:=zal Ob.sz os k h;rw[zfL l os team res k h,h3];omega
theorem zlA (l:Lw)(la lb lc:OA)(lca lcb lcc:Nat)(b:Bk)(a0 a1 a2 a3:OA)(c0 c1 c2 c3:Nat)(team res:BA)(w:World)(hl:yF w l la lb lc)(hb:zak w b a0 a1 a2 a3)(hz:q8 b.os<=1048576) :
 Calls Tryz.prog 214 #[.agg (l.cells la lb lc lca lcb lcc),.agg (b.cells a0 a1 a2 a3 c0 c1 c2 c3),.s team,.s res] w fun e w'=>e=.returned (.i (used l b.os team res))/\Bw w w':=by
 have HL:Hid (yF w l la lb lc):=hl;have HK:Hid (zak w b a0 a1 a2 a3):=hb;have HZ:Hid (q8 b.os<=1048576/\b.os.length<=1048576):=⟨hz,by unfold q8 at hz;omega⟩
 clear hl hb hz;unfold Lw.cells Bk.cells;go_enter Tryz.func214,Tryz.ntmps214;go_wp2_with fail
 obtain⟨hX0,hY0⟩:=q9 w #[.l la l.ss.length lca,.l lb l.ms.length lcb,.l lc l.ts.length lcc] (bC b a0 a1 a2 a3 c0 c1 c2 c3) 43 50;have HB0:Hid (Bw w ((w.alloc (.cells #[.l la l.ss.length lca,.l lb l.ms.length lcb,.l lc l.ts.length lcc] 43)).alloc (.cells (bC b a0 a1 a2 a3 c0 c1 c2 c3) 50))):=zx w _ _;obtain⟨W0,hW0⟩:=xN ((w.alloc (.cells #[.l la l.ss.length lca,.l lb l.ms.length lcb,.l lc l.ts.length lcc] 43)).alloc (.cells (bC b a0 a1 a2 a3 c0 c1 c2 c3) 50));have hz0:w.heap.size+1<W0.heap.size:=by rw[hW0];simp
 rw[<- hW0]at HB0 hX0 hY0 ⊢;clear hW0
 go_loopw [9,15] (fun nv iv wr=>∃(k:Nat) (s:Int),k<=b.os.length/\iv=.i k/\nv=.i s/\Hid (s=zaL l b.os team res k/\Bw W0 wr)) (fun _ iv _=>b.os.length-(intOf iv).toNat)
 case atStart=>exact⟨0,0,Nat.zero_le _,rfl,rfl,by simp[zaL],bRf _ _⟩
 case round=>
  obtain⟨k,s,hk,rfl,rfl,HQ⟩:=hrel
  have hsb:0<=s/\s<=20000000000000:=by
   have h1:=HQ.o.1;have h2:=zb8 l b.os team res k hk;have h3:=HZ.o;have h4:zbd (b.os.take k)<=zbd b.os:=zbD Ob.sz b.os k;unfold q8 at h3;omega
  have hkn:k<=1048576:=by have:=HZ.o.2;omega
  by_cases hlt:k<b.os.length
  ·obtain⟨ob,off,v0,v1,q0,q1,rfl,hob,hsm,hl0,hl1,d0,d1,d2,d3,d4,d5,d6⟩:=HK.o.os.load (HB0.o.trans (HQ.o.2.mono HB0.o.size)) k hlt
   have hob':=nLt hob (HB0.o.trans (HQ.o.2.mono HB0.o.size)).size;have hltI:(k:Int)<(b.os.length:Int):=by omega
   have hX:=za hX0 (nSl hz0) HQ.o.2;have hz:=nLt hz0 HQ.o.2.size;have hzX:=nSl hz;have HSt:=hid (zfL l b.os team res k hlt);have HOo:Hid (j3 wr b.os[k] v0 v1):=⟨hsm,hl0,hl1⟩
   have HOl:Hid (b.os[k].vs.length<=1048576):=by
    have h3:=HZ.o.1
    have:=(zlE (left:=1048576) (ms:=b.os) (by omega) (by omega)).2 k hlt
    exact this.1
   have hub:=zlh l team res b.os[k];have hwb:=zf0 l.ss b.os[k] res HOl.o;clear hsm hl0 hl1 hub;go_wp2_with fail
   have hb1:Bw wr (wr.alloc (.cells #[.s b.os[k].kd,.s b.os[k].nm,.s b.os[k].tm,.l v0 b.os[k].vs.length q0,.bool b.os[k].en,.l v1 b.os[k].hs.length q1,.i b.os[k].vr] 154)):=bAl _ _;have hN:=zn wr #[.s b.os[k].kd,.s b.os[k].nm,.s b.os[k].tm,.l v0 b.os[k].vs.length q0,.bool b.os[k].en,.l v1 b.os[k].hs.length q1,.i b.os[k].vr] 154;obtain⟨w1,hw1⟩:=xN (wr.alloc (.cells #[.s b.os[k].kd,.s b.os[k].nm,.s b.os[k].tm,.l v0 b.os[k].vs.length q0,.bool b.os[k].en,.l v1 b.os[k].hs.length q1,.i b.os[k].vr] 154));have hn1:wr.heap.size<w1.heap.size:=by rw[hw1];simp
   rw[<- hw1]at hb1 hN ⊢;clear hw1 d0 d1 d2 d3 d4 d5 d6;have HB1:=hid (HQ.o.2.trans (hb1.mono HQ.o.2.size));have hX1:=za hX (nSl hz) hb1;have HO1:=hid (HOo.o.mono hb1);have hz1:=Nat.lt_trans hz hn1;clear hb1 hX;refine(zkT _ _ l.ts b.os[k].tm team _ (HL.o.ts.mono (HB0.o.trans (HB1.o.mono HB0.o.size)))).mono ?_;rintro e w2⟨rfl,hb2⟩;have HB2:=hid (HB1.o.trans (hb2.mono HB1.o.size));have hX2:=za hX1 (nSl hz1) hb2;have hN2:=za hN hn1 hb2;have HO2:=hid (HO1.o.mono hb2);have hz2:=nLt hz1 hb2.size;have hn2:=nLt hn1 hb2.size;clear hb2 hX1 hN
   by_cases hu:under l.ts 4 b.os[k].tm team=true
   ·have HU:Hid (zbQ l team res b.os[k]=qV l.ss b.os[k] res):=by unfold Hid zbQ;rw[if_pos hu]
    rw[hu];clear hu;go_wp2_with fail
    refine(zjZ l _ _ _ _ _ _ b.os[k] _ _ _ _ res _ (HL.o.mono (HB0.o.trans (HB2.o.mono HB0.o.size))) HO2.o HOl.o).mono ?_;rintro e w3⟨rfl,hb3⟩;have HB3:=hid (HB2.o.trans (hb3.mono HB2.o.size));clear hb3;go_wp2_with fail
    exact⟨⟨k+1,s+qV l.ss b.os[k] res,by omega,by go_num,by go_num,by rw[HSt.o,HU.o,HQ.o.1],HB3.o⟩,zy hlt⟩
   ·have hu':under l.ts 4 b.os[k].tm team=false:=by simpa using hu
    have HU:Hid (zbQ l team res b.os[k]=0):=by unfold Hid zbQ;rw[if_neg hu]
    rw[hu'];clear hu hu';go_wp2_with fail
    exact⟨⟨k+1,s,by omega,by go_num,rfl,by rw[HSt.o,HU.o,HQ.o.1];omega,HB2.o⟩,zy hlt⟩
  ·have e:k=b.os.length:=by omega
   subst e;have HE:Hid (used l b.os team res=s):=by unfold Hid used;rw[HQ.o.1]
   clear hlt hk;go_wp2_with fail
   go_ret;exact⟨zl HE.o.symm,HB0.o.trans (HQ.o.2.mono HB0.o.size)⟩
theorem zgE {w:World}{b o n:Nat}{X:AV}(hn:X.size=n)(h:∀j,j<n->w.cell? (aD b (o+j))=X[j]?):w.rangeAt b o X.toList:=fun j v hv=>by
 have hv':X[j]?=some v:=by simpa using hv
 rw[h j (by have:=(gES hv').1;omega)];exact hv'
theorem jy {w w':World}{b o:Nat}{cs:List Value}(h:w.rangeAt b o cs)(hb:b<w.heap.size)(hl:Bw w w'):w'.rangeAt b o cs:=fun j v hv=>(hl.cell (p:=(aD b (o+j))) hb).trans (h j v hv)
theorem mH {P:Program}{ops:Array Oper}{Q:Exit->Act->World->Prop}{md:Region.Mode}{S:World->Prop}(i:Nat){oi:Oper}{fuel:Nat}{listed:Array Bool}{a a':Act}{w:World}{ty:TypeId}{x:Operand}{b o:Nat}{X:AV}{d:TypeDesc}(hi:nth ops.toList i=some oi)(hS:S w)
 (hR:∀w,S w->w.rangeAt b o X.toList) (hu:P.underlying ty=some d) (hd:d.isRow=true) (hn:(P.info? ty).map (·.size)=some X.toList.length) (h:wpAnyH P md ops Q S fuel (listed.setIfInBounds i true) a' w)
 (ho:oi.op=.load ty x:=by rfl) (hx:a.eval x=.pointer (some (aD b o)):=by rfl) (hs:Region.noSelect ops=true:=by kernel_rfl) (hf:Region.free md ops listed i=true:=by kernel_rfl) (hr:(Region.ready md ops listed).contains i=true:=by kernel_rfl)
 (hw:Region.wanted oi (yielded ops a.tmps)=true:=by rfl) (ha:a.put oi.dst (.agg X)=a':=by((try simp only[Act.put,sA,s0,sS]);rfl))
 (hQ:∀c a w,Q (.panic c) (a.put oi.dst (.agg X)) w->Q (.panic c) a w:=by exact fun _ _ _ h=>h):wpAnyH P md ops Q S (fuel+1) listed a w:=by
 have e:X.toList.toArray=X:=by simp
 have hy:=yieldsIf_load_mid (S:=S) hw ty x ho b o hx X.toList d hR hu hd hn;rw[e]at hy;exact wpAnyH_take (zlN hi) hs hf hr hQ hy hS (ha ▸ h)
structure zqq (w:World)(b off:Nat)(s:Sl)(a0 a1 a2 a3:OA)(c0 c1 c2 c3:Nat):Prop where
 here:zc3 w s a0 a1 a2 a3
 cell:∀j,j<18->w.cell? (aD b (off+j))=(s.cells a0 a1 a2 a3 c0 c1 c2 c3)[j]?
structure zbJ (w:World)(a:OA)(ss:List Sl):Prop where
 len:ss.length<=maxLen
 rows:ss≠[]->∃b off,a=some (aD b off)/\b<w.heap.size/\∀i (h:i<ss.length),∃a0 a1 a2 a3 c0 c1 c2 c3,zqq w b (off+i*18) ss[i] a0 a1 a2 a3 c0 c1 c2 c3
theorem zqq.mono {w w':World}{b off:Nat}{s:Sl}{a0 a1 a2 a3:OA}{c0 c1 c2 c3:Nat}(h:zqq w b off s a0 a1 a2 a3 c0 c1 c2 c3)(hb:b<w.heap.size)(hl:Bw w w'):zqq w' b off s a0 a1 a2 a3 c0 c1 c2 c3:=
 ⟨h.here.mono hl,fun j hj=>(hl.cell (p:=(aD b (off+j))) hb).trans (h.cell j hj)⟩
theorem zbJ.mono {w w':World}{a:OA}{ss:List Sl}(h:zbJ w a ss)(hl:Bw w w'):zbJ w' a ss:=
 ⟨h.len,fun hne=>by
  obtain⟨b,off,ha,hb,hr⟩:=h.rows hne;refine⟨b,off,ha,nLt hb hl.size,fun i hi=>?_⟩;obtain⟨a0,a1,a2,a3,c0,c1,c2,c3,hf⟩:=hr i hi;exact⟨a0,a1,a2,a3,c0,c1,c2,c3,hf.mono hb hl⟩⟩
theorem zbJ.load {w w':World}{a:OA}{ss:List Sl}(h:zbJ w a ss)(hl:Bw w w')(i:Nat)(hi:i<ss.length):∃b off a0 a1 a2 a3 c0 c1 c2 c3,a=some (aD b off)/\b<w.heap.size/\zc3 w' ss[i] a0 a1 a2 a3/\w'.cell? (aD b (off+i*18))=some (.s ss[i].dr)/\w'.cell? (aD b (off+i*18+1))=some (.s ss[i].x.who)/\w'.cell? (aD b (off+i*18+2))=some (.i ss[i].x.vb)/\w'.cell? (aD b (off+i*18+3))=some (.s ss[i].x.kd)/\w'.cell? (aD b (off+i*18+4))=some (.s ss[i].x.nm)/\w'.cell? (aD b (off+i*18+5))=some (.s ss[i].x.tm)/\w'.cell? (aD b (off+i*18+6))=some (.l a0 ss[i].x.vs.length c0)/\w'.cell? (aD b (off+i*18+7))=some (.l a1 ss[i].x.hs.length c1)/\w'.cell? (aD b (off+i*18+8))=some (.i ss[i].x.sn)/\w'.cell? (aD b (off+i*18+9))=some (.s ss[i].x.hd)/\w'.cell? (aD b (off+i*18+10))=some (.s ss[i].x.to)/\w'.cell? (aD b (off+i*18+11))=some (.l a2 ss[i].x.r.vs.length c2)/\w'.cell? (aD b (off+i*18+12))=some (.s ss[i].x.r.kd)/\w'.cell? (aD b (off+i*18+13))=some (.s ss[i].x.r.tm)/\w'.cell? (aD b (off+i*18+14))=some (.s ss[i].x.r.px)/\w'.cell? (aD b (off+i*18+15))=some (.i ss[i].x.no)/\w'.cell? (aD b (off+i*18+16))=some (.i ss[i].gv)/\w'.cell? (aD b (off+i*18+17))=some (.l a3 ss[i].ws.length c3):=by
 obtain⟨b,off,ha,hb,hr⟩:=h.rows (by rintro rfl;simp at hi);obtain⟨a0,a1,a2,a3,c0,c1,c2,c3,hf0⟩:=hr i hi;have hf:=hf0.mono hb hl;exact⟨b,off,a0,a1,a2,a3,c0,c1,c2,c3,ha,hb,hf.here,hf.cell 0 (by omega),hf.cell 1 (by omega),hf.cell 2 (by omega),hf.cell 3 (by omega),hf.cell 4 (by omega),hf.cell 5 (by omega),hf.cell 6 (by omega),hf.cell 7 (by omega),hf.cell 8 (by omega),hf.cell 9 (by omega),hf.cell 10 (by omega),hf.cell 11 (by omega),hf.cell 12 (by omega),hf.cell 13 (by omega),hf.cell 14 (by omega),hf.cell 15 (by omega),hf.cell 16 (by omega),hf.cell 17 (by omega)⟩
theorem zbJ.range {w w':World}{a:OA}{ss:List Sl}(h:zbJ w a ss)(hl:Bw w w')(i:Nat)(hi:i<ss.length):∃b off a0 a1 a2 a3 c0 c1 c2 c3,a=some (aD b off)/\b<w.heap.size/\zc3 w' ss[i] a0 a1 a2 a3/\w'.rangeAt b (off+i*18) (ss[i].cells a0 a1 a2 a3 c0 c1 c2 c3).toList:=by
 obtain⟨b,off,ha,hb,hr⟩:=h.rows (by rintro rfl;simp at hi);obtain⟨a0,a1,a2,a3,c0,c1,c2,c3,hf⟩:=hr i hi;exact⟨b,off,a0,a1,a2,a3,c0,c1,c2,c3,ha,hb,hf.here.mono hl,jy (zgE rfl hf.cell) hb hl⟩
def zdW (ss:List Sl):Nat:=(ss.map Sl.sz).sum
def zcS (ss:List Sl):Nat:=ss.length+zdW ss
theorem zqZ {ss:List Sl}{left:Int}(h:(zcS ss:Int)<=left)(hl:left<=1048576):ss.length<=1048576/\∀i (h:i<ss.length),ss[i].Few:=by
 unfold zcS at h;refine⟨by omega,fun i hi=>?_⟩;have h1:ss[i].sz<=zdW ss:=zfp Sl.sz ss i hi;exact Sl.few (by omega)
theorem zh6 (a:OA)(cap:Nat)(ms:List Sl)(left:Int)(w:World)(hw:zbJ w a ms)(h0:0<=left)(h1:left<=1048576) :
 Calls Tryz.prog 74 #[.l a ms.length cap,.i left] w fun e w'=>e=.returned (.i (zD (zcS ms) left))/\Bw w w':=by
 have hl:=hw.len;unfold maxLen at hl
 by_cases hfit:(ms.length:Int)<=left
 ·go_enter Tryz.func74,Tryz.ntmps74
  go_wp2_with fail
  go_loopw [1,5] (fun l i wr=>∃k:Nat,k<=ms.length/\i=.i k/\0<=left-ms.length-zdW (ms.take k)/\l=.i (left-ms.length-zdW (ms.take k))/\Bw w wr) (fun _ i _=>ms.length-(intOf i).toNat)
  case atStart=>exact⟨0,Nat.zero_le _,rfl,by simp[zdW];omega,by simp[zdW],bRf _ _⟩
  case round=>
   obtain⟨k,hk,rfl,hpos,rfl,hB⟩:=hrel
   by_cases hlt:k<ms.length
   ·obtain⟨b,off,a0,a1,a2,a3,c0,c1,c2,c3,rfl,hb,hsl,d0,d1,d2,d3,d4,d5,d6,d7,d8,d9,d10,d11,d12,d13,d14,d15,d16,d17⟩:=hw.load hB k hlt
    have hbr:=nLt hb hB.size;have HS:Hid (zdW (ms.take (k+1))=zdW (ms.take k)+ms[k].sz):=zal Sl.sz ms k hlt;have hle:zdW (ms.take (k+1))<=zdW ms:=zbD Sl.sz ms (k+1);have HI:=hid hsl;clear hw hsl
    by_cases hneg:(ms[k].sz:Int)<=left-ms.length-zdW (ms.take k)
    ·have HNG:Hid ((ms[k].sz:Int)<=left-ms.length-zdW (ms.take k)):=hneg
     clear hle;go_wp2_with fail
     refine(zeL ms[k] a0 a1 a2 a3 c0 c1 c2 c3 _ _ HI.o hpos (by omega)).mono ?_;rintro e w1⟨rfl,hb1⟩;rw[zF HNG.o];have hB1:=hB.trans (hb1.mono hB.size);clear hb1;go_wp2_with fail
     exact⟨⟨k+1,by omega,by go_num,by rw[HS.o];omega,by rw[HS.o];congr 1;omega,hB1⟩,by simp[intOf];omega⟩
    ·have HF:Hid (zD (zcS ms) left=-1):=zq (by have:=HS.o;unfold zcS;omega)
     have HNG:=hid hneg;clear hneg hle;go_wp2_with fail
     refine(zeL ms[k] a0 a1 a2 a3 c0 c1 c2 c3 _ _ HI.o hpos (by omega)).mono ?_;rintro e w1⟨rfl,hb1⟩;rw[zq (by have:=HNG.o;omega)];have hB1:=hB.trans (hb1.mono hB.size);clear hb1;go_wp2_with fail
     go_ret;exact⟨zl HF.o.symm,hB1⟩
   ·have HF:Hid (zD (zcS ms) left=left-ms.length-zdW (ms.take k)):=by
     rw[tOl (by omega)]at hpos ⊢;have e:zD (zcS ms) left=left-zcS ms:=zF (by unfold zcS;omega);unfold Hid;rw[e];unfold zcS;omega
    clear hw
    go_wp2
    go_ret;exact⟨zl HF.o.symm,hB⟩
 ·have HF:Hid (zD (zcS ms) left=-1):=zq (by unfold zcS;omega)
  clear hw;go_enter Tryz.func74,Tryz.ntmps74
  go_wp2
  go_ret;exact⟨zl HF.o.symm,bRf _ _⟩
theorem ziO (a a':OA)(cap cap':Nat)(ms:List Sl)(w:World)(hw:zbJ w a ms)(hw':zbJ w a' ms) :
 Calls Tryz.prog 116 #[.l a ms.length cap,.l a' ms.length cap'] w fun e w'=>e=.returned (.bool true)/\Bw w w':=by
 have hl:=hw.len;unfold maxLen at hl;have hnn:((ms.length:Int) != ms.length)=false:=by simp
 go_enter Tryz.func116,Tryz.ntmps116;go_wp2_with fail
 go_loopw [5] (fun i wr=>∃k:Nat,k<=ms.length/\i=.i k/\Bw w wr) (fun i _=>ms.length-(intOf i).toNat)
 case atStart=>exact⟨0,Nat.zero_le _,rfl,bRf _ _⟩
 case round=>
  obtain⟨k,hk,rfl,hB⟩:=hrel
  by_cases hlt:k<ms.length
  ·obtain⟨b,off,a0,a1,a2,a3,c0,c1,c2,c3,rfl,hb,hs,hr⟩:=hw.range hB.drew k hlt
   obtain⟨b',off',a0',a1',a2',a3',c0',c1',c2',c3',rfl,hb',hs',hr'⟩:=hw'.range hB.drew k hlt;have hltI:(k:Int)<(ms.length:Int):=by omega
   have HS:=ji hs hs';have HQ:=ji hr hr';have hB1:=hB.drew;have hb1:=nLt hb hB1.size;have hb2:=nLt hb' hB1.size;clear hw hw' hs hs' hr hr';go_wp2_with fail
   refine wp_region_held_drew (S:=fun w'=>w'.rangeAt b (off+k*18) (ms[k].cells a0 a1 a2 a3 c0 c1 c2 c3).toList/\w'.rangeAt b' (off'+k*18) (ms[k].cells a0' a1' a2' a3' c0' c1' c2' c3').toList) (by kernel_rfl) HQ.o (fun H_=>?_);refine tG 0 ?_;refine tG 1 ?_;refine tG 2 ?_;refine mH 3 rfl H_ (fun _ h=>h.1) Tryz.underlying110 rfl (by kernel_rfl) ?_;refine tG 4 ?_;refine tG 5 ?_;refine tG 6 ?_;refine mH 7 rfl H_ (fun _ h=>h.2) Tryz.underlying110 rfl (by kernel_rfl) ?_;refine cH 8 rfl fun K hK=>?_
   go_simp
   refine(zi4 ms[k] a0 a1 a2 a3 c0 c1 c2 c3 a0' a1' a2' a3' c0' c1' c2' c3' _ HS.o.1 HS.o.2).mono ?_;rintro e w1⟨rfl,hbb⟩;have hB2:=hB1.trans (hbb.mono hB1.size)
   (try go_wp2_with fail)
   refine hK.out _ _ ?_ (fun H_=>?_)
   ·exact⟨jy HQ.o.1 hb1 hbb,jy HQ.o.2 hb2 hbb⟩
   clear hK K
   (try simp only[Act.put,sA,s0,sS])
   refine tG 9 ?_;refine wpAnyH_done (by kernel_rfl) ?_ _;go_wp2_with fail
   exact⟨⟨k+1,by omega,by go_num,hB2⟩,by simp[intOf];omega⟩
  ·clear hw hw'
   go_wp2_with fail
   go_ret;exact⟨rfl,hB⟩
end Go.Proofs.YtedangodjiolaaaGreat
