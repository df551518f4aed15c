import Derived.Test.YthdfpinbnncghaaGreatM22
set_option maxHeartbeats 8000000
namespace Go.Proofs.YthdfpinbnncghaaGreat
open Go.RowKit
theorem zdU {w:World}{b o n:Nat}{X:AV}(hn:X.size=n)(h:∀j,j<n->w.cell? (aD b (o+j))=X[j]?):w.rangeAt b o X.toList:=fun j v hv=>by
 have hv':X[j]?=some v:=by simpa using hv
 rw[h j (by have:=(gES hv').1;omega)];exact hv'
theorem qX {w w':World}{b o:Nat}{cs:List Value}(h:w.rangeAt b o cs)(hb:b<w.heap.size)(hl:Bw w w'):w'.rangeAt b o cs:=fun j v hv=>(hl.cell (p:=(aD b (o+j))) hb).trans (h j v hv)
theorem mH {P:Program}{ops:Array Oper}{Q:Exit->Act->World->Prop}{md:Region.Mode}{S:World->Prop}(i:Nat){oi:Oper}{fuel:Nat}{listed:Array Bool}{a a':Act}{w:World}{ty:TypeId}{x:Operand}{b o:Nat}{X:AV}{d:TypeDesc}(hi:nth ops.toList i=some oi)(hS:S w)
 (hR:∀w,S w->w.rangeAt b o X.toList) (hu:P.underlying ty=some d) (hd:d.isRow=true) (hn:(P.info? ty).map (·.size)=some X.toList.length) (h:wpAnyH P md ops Q S fuel (listed.setIfInBounds i true) a' w)
 (ho:oi.op=.load ty x:=by rfl) (hx:a.eval x=.pointer (some (aD b o)):=by rfl) (hs:Region.noSelect ops=true:=by kernel_rfl) (hf:Region.free md ops listed i=true:=by kernel_rfl) (hr:(Region.ready md ops listed).contains i=true:=by kernel_rfl)
 (hw:Region.wanted oi (yielded ops a.tmps)=true:=by rfl) (ha:a.put oi.dst (.agg X)=a':=by((try simp only[Act.put,sA,s0,sS]);rfl))
 (hQ:∀c a w,Q (.panic c) (a.put oi.dst (.agg X)) w->Q (.panic c) a w:=by exact fun _ _ _ h=>h):wpAnyH P md ops Q S (fuel+1) listed a w:=by
 have e:X.toList.toArray=X:=by simp
 have hy:=yieldsIf_load_mid (S:=S) hw ty x ho b o hx X.toList d hR hu hd hn;rw[e]at hy;exact wpAnyH_take (zml hi) hs hf hr hQ hy hS (ha ▸ h)
structure zrQ (w:World)(b off:Nat)(s:Sl)(a0 a1 a2 a3:OA)(c0 c1 c2 c3:Nat):Prop where
 here:zdo w s a0 a1 a2 a3
 cell:∀j,j<18->w.cell? (aD b (off+j))=(s.cells a0 a1 a2 a3 c0 c1 c2 c3)[j]?
structure zbU (w:World)(a:OA)(ss:List Sl):Prop where
 len:ss.length<=maxLen
 rows:ss≠[]->∃b off,a=some (aD b off)/\b<w.heap.size/\∀i (h:i<ss.length),∃a0 a1 a2 a3 c0 c1 c2 c3,zrQ w b (off+i*18) ss[i] a0 a1 a2 a3 c0 c1 c2 c3
theorem zrQ.mono {w w':World}{b off:Nat}{s:Sl}{a0 a1 a2 a3:OA}{c0 c1 c2 c3:Nat}(h:zrQ w b off s a0 a1 a2 a3 c0 c1 c2 c3)(hb:b<w.heap.size)(hl:Bw w w'):zrQ w' b off s a0 a1 a2 a3 c0 c1 c2 c3:=
 ⟨h.here.mono hl,fun j hj=>(hl.cell (p:=(aD b (off+j))) hb).trans (h.cell j hj)⟩
theorem zbU.mono {w w':World}{a:OA}{ss:List Sl}(h:zbU w a ss)(hl:Bw w w'):zbU w' a ss:=
 ⟨h.len,fun hne=>by
  obtain⟨b,off,ha,hb,hr⟩:=h.rows hne;refine⟨b,off,ha,nLt hb hl.size,fun i hi=>?_⟩;obtain⟨a0,a1,a2,a3,c0,c1,c2,c3,hf⟩:=hr i hi;exact⟨a0,a1,a2,a3,c0,c1,c2,c3,hf.mono hb hl⟩⟩
theorem zbU.load {w w':World}{a:OA}{ss:List Sl}(h:zbU w a ss)(hl:Bw w w')(i:Nat)(hi:i<ss.length):∃b off a0 a1 a2 a3 c0 c1 c2 c3,a=some (aD b off)/\b<w.heap.size/\zdo w' ss[i] a0 a1 a2 a3/\w'.cell? (aD b (off+i*18))=some (.s ss[i].dr)/\w'.cell? (aD b (off+i*18+1))=some (.s ss[i].x.who)/\w'.cell? (aD b (off+i*18+2))=some (.i ss[i].x.vb)/\w'.cell? (aD b (off+i*18+3))=some (.s ss[i].x.kd)/\w'.cell? (aD b (off+i*18+4))=some (.s ss[i].x.nm)/\w'.cell? (aD b (off+i*18+5))=some (.s ss[i].x.tm)/\w'.cell? (aD b (off+i*18+6))=some (.l a0 ss[i].x.vs.length c0)/\w'.cell? (aD b (off+i*18+7))=some (.l a1 ss[i].x.hs.length c1)/\w'.cell? (aD b (off+i*18+8))=some (.i ss[i].x.sn)/\w'.cell? (aD b (off+i*18+9))=some (.s ss[i].x.hd)/\w'.cell? (aD b (off+i*18+10))=some (.s ss[i].x.to)/\w'.cell? (aD b (off+i*18+11))=some (.l a2 ss[i].x.r.vs.length c2)/\w'.cell? (aD b (off+i*18+12))=some (.s ss[i].x.r.kd)/\w'.cell? (aD b (off+i*18+13))=some (.s ss[i].x.r.tm)/\w'.cell? (aD b (off+i*18+14))=some (.s ss[i].x.r.px)/\w'.cell? (aD b (off+i*18+15))=some (.i ss[i].x.no)/\w'.cell? (aD b (off+i*18+16))=some (.i ss[i].gv)/\w'.cell? (aD b (off+i*18+17))=some (.l a3 ss[i].ws.length c3):=by
 obtain⟨b,off,ha,hb,hr⟩:=h.rows (by rintro rfl;simp at hi);obtain⟨a0,a1,a2,a3,c0,c1,c2,c3,hf0⟩:=hr i hi;have hf:=hf0.mono hb hl;exact⟨b,off,a0,a1,a2,a3,c0,c1,c2,c3,ha,hb,hf.here,hf.cell 0 (by omega),hf.cell 1 (by omega),hf.cell 2 (by omega),hf.cell 3 (by omega),hf.cell 4 (by omega),hf.cell 5 (by omega),hf.cell 6 (by omega),hf.cell 7 (by omega),hf.cell 8 (by omega),hf.cell 9 (by omega),hf.cell 10 (by omega),hf.cell 11 (by omega),hf.cell 12 (by omega),hf.cell 13 (by omega),hf.cell 14 (by omega),hf.cell 15 (by omega),hf.cell 16 (by omega),hf.cell 17 (by omega)⟩
theorem zbU.range {w w':World}{a:OA}{ss:List Sl}(h:zbU w a ss)(hl:Bw w w')(i:Nat)(hi:i<ss.length):∃b off a0 a1 a2 a3 c0 c1 c2 c3,a=some (aD b off)/\b<w.heap.size/\zdo w' ss[i] a0 a1 a2 a3/\w'.rangeAt b (off+i*18) (ss[i].cells a0 a1 a2 a3 c0 c1 c2 c3).toList:=by
 obtain⟨b,off,ha,hb,hr⟩:=h.rows (by rintro rfl;simp at hi);obtain⟨a0,a1,a2,a3,c0,c1,c2,c3,hf⟩:=hr i hi;exact⟨b,off,a0,a1,a2,a3,c0,c1,c2,c3,ha,hb,hf.here.mono hl,qX (zdU rfl hf.cell) hb hl⟩
def zec (ss:List Sl):Nat:=(ss.map Sl.sz).sum
def zdf (ss:List Sl):Nat:=ss.length+zec ss
theorem zse {ss:List Sl}{left:Int}(h:(zdf ss:Int)<=left)(hl:left<=1048576):ss.length<=1048576/\∀i (h:i<ss.length),ss[i].Few:=by
 unfold zdf at h;refine⟨by omega,fun i hi=>?_⟩;have h1:ss[i].sz<=zec ss:=zfB Sl.sz ss i hi;exact Sl.few (by omega)
theorem ziQ (a:OA)(cap:Nat)(ms:List Sl)(left:Int)(w:World)(hw:zbU w a ms)(h0:0<=left)(h1:left<=1048576) :
 Calls Tryz.prog 90 #[.l a ms.length cap,.i left] w fun e w'=>e=.returned (.i (zD (zdf ms) left))/\Bw w w':=by
 have hl:=hw.len;unfold maxLen at hl
 by_cases hfit:(ms.length:Int)<=left
 ·go_enter Tryz.func90,Tryz.ntmps90
  go_wp2_with fail
  go_loopw [1,5] (fun l i wr=>∃k:Nat,k<=ms.length/\i=.i k/\0<=left-ms.length-zec (ms.take k)/\l=.i (left-ms.length-zec (ms.take k))/\Bw w wr) (fun _ i _=>ms.length-(intOf i).toNat)
  case atStart=>exact⟨0,Nat.zero_le _,rfl,by simp[zec];omega,by simp[zec],bRf _ _⟩
  case round=>
   obtain⟨k,hk,rfl,hpos,rfl,hB⟩:=hrel
   by_cases hlt:k<ms.length
   ·obtain⟨b,off,a0,a1,a2,a3,c0,c1,c2,c3,rfl,hb,hsl,d0,d1,d2,d3,d4,d5,d6,d7,d8,d9,d10,d11,d12,d13,d14,d15,d16,d17⟩:=hw.load hB k hlt
    have hbr:=nLt hb hB.size;have HS:Hid (zec (ms.take (k+1))=zec (ms.take k)+ms[k].sz):=zas Sl.sz ms k hlt;have hle:zec (ms.take (k+1))<=zec ms:=zbO Sl.sz ms (k+1);have HI:=hid hsl;clear hw hsl
    by_cases hneg:(ms[k].sz:Int)<=left-ms.length-zec (ms.take k)
    ·have HNG:Hid ((ms[k].sz:Int)<=left-ms.length-zec (ms.take k)):=hneg
     clear hle;go_wp2_with fail
     refine(zfc ms[k] a0 a1 a2 a3 c0 c1 c2 c3 _ _ HI.o hpos (by omega)).mono ?_;rintro e w1⟨rfl,hb1⟩;rw[zF HNG.o];have hB1:=hB.trans (hb1.mono hB.size);clear hb1;go_wp2_with fail
     exact⟨⟨k+1,by omega,by go_num,by rw[HS.o];omega,by rw[HS.o];congr 1;omega,hB1⟩,by simp[intOf];omega⟩
    ·have HF:Hid (zD (zdf ms) left=-1):=zq (by have:=HS.o;unfold zdf;omega)
     have HNG:=hid hneg;clear hneg hle;go_wp2_with fail
     refine(zfc ms[k] a0 a1 a2 a3 c0 c1 c2 c3 _ _ HI.o hpos (by omega)).mono ?_;rintro e w1⟨rfl,hb1⟩;rw[zq (by have:=HNG.o;omega)];have hB1:=hB.trans (hb1.mono hB.size);clear hb1;go_wp2_with fail
     go_ret;exact⟨zk HF.o.symm,hB1⟩
   ·have HF:Hid (zD (zdf ms) left=left-ms.length-zec (ms.take k)):=by
     rw[tOl (by omega)]at hpos ⊢;have e:zD (zdf ms) left=left-zdf ms:=zF (by unfold zdf;omega);unfold Hid;rw[e];unfold zdf;omega
    clear hw
    go_wp2
    go_ret;exact⟨zk HF.o.symm,hB⟩
 ·have HF:Hid (zD (zdf ms) left=-1):=zq (by unfold zdf;omega)
  clear hw;go_enter Tryz.func90,Tryz.ntmps90
  go_wp2
  go_ret;exact⟨zk HF.o.symm,bRf _ _⟩
theorem zje (a a':OA)(cap cap':Nat)(ms:List Sl)(w:World)(hw:zbU w a ms)(hw':zbU w a' ms) :
 Calls Tryz.prog 129 #[.l a ms.length cap,.l a' ms.length cap'] w fun e w'=>e=.returned (.bool true)/\Bw w w':=by
 have hl:=hw.len;unfold maxLen at hl;have hnn:((ms.length:Int) != ms.length)=false:=by simp
 go_enter Tryz.func129,Tryz.ntmps129;go_wp2_with fail
 go_loopw [5] (fun i wr=>∃k:Nat,k<=ms.length/\i=.i k/\Bw w wr) (fun i _=>ms.length-(intOf i).toNat)
 case atStart=>exact⟨0,Nat.zero_le _,rfl,bRf _ _⟩
 case round=>
  obtain⟨k,hk,rfl,hB⟩:=hrel
  by_cases hlt:k<ms.length
  ·obtain⟨b,off,a0,a1,a2,a3,c0,c1,c2,c3,rfl,hb,hs,hr⟩:=hw.range hB.drew k hlt
   obtain⟨b',off',a0',a1',a2',a3',c0',c1',c2',c3',rfl,hb',hs',hr'⟩:=hw'.range hB.drew k hlt;have hltI:(k:Int)<(ms.length:Int):=by omega
   have HS:=ji hs hs';have HQ:=ji hr hr';have hB1:=hB.drew;have hb1:=nLt hb hB1.size;have hb2:=nLt hb' hB1.size;clear hw hw' hs hs' hr hr';go_wp2_with fail
   refine wp_region_held_drew (S:=fun w'=>w'.rangeAt b (off+k*18) (ms[k].cells a0 a1 a2 a3 c0 c1 c2 c3).toList/\w'.rangeAt b' (off'+k*18) (ms[k].cells a0' a1' a2' a3' c0' c1' c2' c3').toList) (by kernel_rfl) HQ.o (fun H_=>?_);refine tG 0 ?_;refine tG 1 ?_;refine tG 2 ?_;refine mH 3 rfl H_ (fun _ h=>h.1) Tryz.underlying192 rfl (by kernel_rfl) ?_;refine tG 4 ?_;refine tG 5 ?_;refine tG 6 ?_;refine mH 7 rfl H_ (fun _ h=>h.2) Tryz.underlying192 rfl (by kernel_rfl) ?_;refine cH 8 rfl fun K hK=>?_
   go_simp
   refine(zjL ms[k] a0 a1 a2 a3 c0 c1 c2 c3 a0' a1' a2' a3' c0' c1' c2' c3' _ HS.o.1 HS.o.2).mono ?_;rintro e w1⟨rfl,hbb⟩;have hB2:=hB1.trans (hbb.mono hB1.size)
   (try go_wp2_with fail)
   refine hK.out _ _ ?_ (fun H_=>?_)
   ·exact⟨qX HQ.o.1 hb1 hbb,qX HQ.o.2 hb2 hbb⟩
   clear hK K
   (try simp only[Act.put,sA,s0,sS])
   refine tG 9 ?_;refine wpAnyH_done (by kernel_rfl) ?_ _;go_wp2_with fail
   exact⟨⟨k+1,by omega,by go_num,hB2⟩,by simp[intOf];omega⟩
  ·clear hw hw'
   go_wp2_with fail
   go_ret;exact⟨rfl,hB⟩
end Go.Proofs.YthdfpinbnncghaaGreat
