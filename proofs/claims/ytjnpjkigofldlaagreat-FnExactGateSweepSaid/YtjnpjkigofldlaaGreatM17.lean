import Derived.Test.YtjnpjkigofldlaaGreatM15
set_option maxHeartbeats 2000000
namespace Go.Proofs.YtjnpjkigofldlaaGreat
open Go.RowKit
variable {w w':World}{bo k lo:Nat}
structure Pu where
 dr:BA
 tm:BA
 rs:BA
 am:Int
 un:Int
def Pu.cells (m:Pu):AV:=#[.s m.dr,.s m.tm,.s m.rs,.i m.am,.i m.un]
structure Pu.Small (m:Pu):Prop where
 dr:m.dr.size<=maxLen
 tm:m.tm.size<=maxLen
 rs:m.rs.size<=maxLen
structure zcp (w:World)(a:OA)(ms:List Pu):Prop where
 len:ms.length<=maxLen
 small:∀i (h:i<ms.length),ms[i].Small
 rows:ms≠[]->∃b off,a=some (aD b off)/\b<w.heap.size/\∀i (h:i<ms.length),∀j,j<5->w.cell? (aD b (off+i*5+j))=ms[i].cells[j]?
theorem zcp.mono {a:OA}{ms:List Pu}(h:zcp w a ms)(hl:Bw w w'):zcp w' a ms:=
 ⟨h.len,h.small,fun hne=>by
  obtain⟨b,off,ha,hb,hr⟩:=h.rows hne;exact⟨b,off,ha,nLt hb hl.size,fun i hi j hj=>(hl.cell (p:=(aD b (off+i*5+j))) hb).trans (hr i hi j hj)⟩⟩
theorem zcp.load {a:OA}{ms:List Pu}(h:zcp w a ms)(hl:Bw w w')(i:Nat)(hi:i<ms.length):∃b off,a=some (aD b off)/\b<w.heap.size /\
 w'.cell? (aD b (off+i*5))=some (.s ms[i].dr)/\w'.cell? (aD b (off+i*5+1))=some (.s ms[i].tm)/\w'.cell? (aD b (off+i*5+2))=some (.s ms[i].rs)/\w'.cell? (aD b (off+i*5+3))=some (.i ms[i].am)/\w'.cell? (aD b (off+i*5+4))=some (.i ms[i].un):=by
 obtain⟨b,off,ha,hb,hr⟩:=h.rows (by rintro rfl;simp at hi);have hc:∀j,j<5->w'.cell? (aD b (off+i*5+j))=ms[i].cells[j]?:=fun j hj=>(hl.cell (p:=(aD b (off+i*5+j))) hb).trans (hr i hi j hj)
 exact⟨b,off,ha,hb,hc 0 (by omega),hc 1 (by omega),hc 2 (by omega),hc 3 (by omega),hc 4 (by omega)⟩
def Pu.sz (m:Pu):Nat:=m.dr.size+m.tm.size+m.rs.size
def ze4 (ms:List Pu):Nat:=(ms.map Pu.sz).sum
def zdB (ms:List Pu):Nat:=ms.length+ze4 ms
theorem zeY (m:Pu)(left:Int)(w:World)(hm:m.Small)(h0:0<=left)(h1:left<=1048576) :
 Calls Tryz.prog 61 #[.agg m.cells,.i left] w fun e w'=>e=.returned (.i (zJ m.sz left))/\Bw w w':=by
 have k0:=hm.dr;have k1:=hm.tm;have k2:=hm.rs;unfold maxLen at k0 k1 k2;unfold Pu.cells;have hB:∀ob,Bw w (w.alloc ob):=fun ob=>bAl _ _
 by_cases hf:(m.sz:Int)<=left
 ·have HF:Hid (zJ m.sz left=left-m.dr.size-m.tm.size-m.rs.size):=by
   unfold Hid;rw[zN hf];unfold Pu.sz;omega
  unfold Pu.sz at hf;go_in;go_wp2
  go_ret;exact⟨zm HF.o.symm,hB _⟩
 ·have HF:Hid (zJ m.sz left=-1):=zy hf
  have HN:Hid (¬((m.dr.size+m.tm.size+m.rs.size:Nat):Int)<=left):=hf;clear hf;go_in;go_wp2
  all_goals go_ret
  all_goals first|exact⟨zm HF.o.symm,hB _⟩|(exfalso;have:=HN.o;simp at *;omega)
theorem zjR (m:Pu)(left:Int)(w:World)(hm:m.Small)(h0:0<=left)(h1:left<=1048576)(h:(m.sz:Int)<=left) :
 Calls Tryz.prog 61 #[.agg m.cells,.i left] w fun e w'=>e=.returned (.i (left-m.sz))/\Bw w w':=by
 refine(zeY m left w hm h0 h1).mono ?_;rintro e w'⟨rfl,hb⟩;exact⟨zm (zN h),hb⟩
theorem zkE (m:Pu)(left:Int)(w:World)(hm:m.Small)(h0:0<=left)(h1:left<=1048576)(h:¬(m.sz:Int)<=left) :
 Calls Tryz.prog 61 #[.agg m.cells,.i left] w fun e w'=>e=.returned (.i (-1))/\Bw w w':=by
 refine(zeY m left w hm h0 h1).mono ?_;rintro e w'⟨rfl,hb⟩;exact⟨zm (zy h),hb⟩
theorem zio (a:OA)(cap:Nat)(ms:List Pu)(left:Int)(w:World)(hw:zcp w a ms)(h0:0<=left)(h1:left<=1048576) :
 Calls Tryz.prog 21 #[.l a ms.length cap,.i left] w fun e w'=>e=.returned (.i (zJ (zdB ms) left))/\Bw w w':=by
 have hl:=hw.len;unfold maxLen at hl
 by_cases hfit:(ms.length:Int)<=left
 ·go_in
  go_wp2
  go_loopw [1,5] (fun l i wr=>∃k:Nat,k<=ms.length/\i=.i k/\0<=left-ms.length-ze4 (ms.take k)/\l=.i (left-ms.length-ze4 (ms.take k))/\Bw w wr) (fun _ i _=>ms.length-(intOf i).toNat)
  case atStart=>exact⟨0,Nat.zero_le _,rfl,by simp[ze4];omega,by simp[ze4],bRf _ _⟩
  case round=>
   obtain⟨k,hk,rfl,hpos,rfl,hB⟩:=hrel
   by_cases hlt:k<ms.length
   ·obtain⟨b,off,rfl,hb,c0,c1,c2,c3,c4⟩:=hw.load hB k hlt
    have hsm:=hw.small k hlt;have HS:Hid (ze4 (ms.take (k+1))=ze4 (ms.take k)+ms[k].sz):=za6 Pu.sz ms k hlt;have hle:ze4 (ms.take (k+1))<=ze4 ms:=zc5 Pu.sz ms (k+1);clear hw
    by_cases hneg:(ms[k].sz:Int)<=left-ms.length-ze4 (ms.take k)
    ·have HNG:Hid ((ms[k].sz:Int)<=left-ms.length-ze4 (ms.take k)):=hneg
     clear hle;go_wp2_with fail
     refine(zjR _ _ _ hsm hpos (by omega) HNG.o).mono ?_;rintro e w1⟨rfl,hb1⟩;have hB1:=hB.trans (hb1.mono hB.size);clear hb1;go_wp2
     exact⟨⟨k+1,by omega,by go_num,by rw[HS.o];omega,by rw[HS.o];congr 1;omega,hB1⟩,by simp[intOf];omega⟩
    ·have HF:Hid (zJ (zdB ms) left=-1):=zy (by have:=HS.o;unfold zdB;omega)
     have HNG:=hid hneg;clear hneg hle;go_wp2_with fail
     refine(zkE _ _ _ hsm hpos (by omega) (by have:=HNG.o;omega)).mono ?_;rintro e w1⟨rfl,hb1⟩;have hB1:=hB.trans (hb1.mono hB.size);clear hb1;go_wp2
     go_ret;exact⟨zm HF.o.symm,hB1⟩
   ·have HF:Hid (zJ (zdB ms) left=left-ms.length-ze4 (ms.take k)):=by
     rw[tOl (by omega)]at hpos ⊢;have e:zJ (zdB ms) left=left-zdB ms:=zN (by unfold zdB;omega);unfold Hid;rw[e];unfold zdB;omega
    clear hw
    go_wp2
    go_ret;exact⟨zm HF.o.symm,hB⟩
 ·have HF:Hid (zJ (zdB ms) left=-1):=zy (by unfold zdB;omega)
  clear hw;go_in
  go_wp2
  go_ret;exact⟨zm HF.o.symm,bRf _ _⟩
theorem zjP (m:Pu)(w:World):Calls Tryz.prog 100 #[.agg m.cells,.agg m.cells] w fun e w'=>e=.returned (.bool true)/\Bw w w':=by
 unfold Pu.cells;have hn3:(m.am != m.am)=false:=by simp
 have hn4:(m.un != m.un)=false:=by simp
 go_in;go_wp2
 go_ret;exact⟨rfl,zo _ _ _⟩
theorem ziI (a a':OA)(cap cap':Nat)(ms:List Pu)(w:World)(hw:zcp w a ms)(hw':zcp w a' ms) :
 Calls Tryz.prog 40 #[.l a ms.length cap,.l a' ms.length cap'] w fun e w'=>e=.returned (.bool true)/\Bw w w':=by
 have hl:=hw.len;unfold maxLen at hl;have hnn:((ms.length:Int) != ms.length)=false:=by simp
 go_in;go_wp2
 go_loopw [5] (fun i wr=>∃k:Nat,k<=ms.length/\i=.i k/\Bw w wr) (fun i _=>ms.length-(intOf i).toNat)
 case atStart=>exact⟨0,Nat.zero_le _,rfl,bRf _ _⟩
 case round=>
  obtain⟨k,hk,rfl,hB⟩:=hrel
  by_cases hlt:k<ms.length
  ·obtain⟨b,off,rfl,hb,c0,c1,c2,c3,c4⟩:=hw.load hB k hlt
   obtain⟨b',off',rfl,hb',d0,d1,d2,d3,d4⟩:=hw'.load hB k hlt;have hltI:(k:Int)<(ms.length:Int):=by omega
   clear hw hw';go_wp2_with fail
   go_region_with (go_at_call 100;refine(zjP ms[k] _).mono ?_;rintro e w1⟨rfl,hb1'⟩;have hb1:=(bRf wr.heap.size wr).drew.trans hb1';clear hb1')
   all_goals go_wp2
   all_goals exact⟨⟨k+1,by omega,by go_num,hB.trans (hb1.mono hB.size)⟩,by simp[intOf];omega⟩
  ·clear hw hw'
   go_wp2
   go_ret;exact⟨rfl,hB⟩
structure jZ (lo:Nat)(w:World)(bo:Nat)(ms:List Pu)(k:Nat):Prop where
 low:lo<=bo
 rows:∃C,w.heap[bo]?=some (.cells C 140)/\C.size=ms.length*5/\∀i (h:i<ms.length),i<k->∀j,j<5->C[i*5+j]?=ms[i].cells[j]?
theorem jZ.at {ms:List Pu}(h:jZ lo w bo ms ms.length)(hs:∀i (h:i<ms.length),ms[i].Small)(hl:ms.length<=maxLen):zcp w (some (aD bo 0)) ms:=by
 obtain⟨C,hC,hsz,hr⟩:=h.rows;refine⟨hl,hs,fun _=>⟨bo,0,rfl,(gES hC).1,fun i hi j hj=>?_⟩⟩;rw[cell_of_block hC,Nat.zero_add];exact hr i hi hi j hj
theorem jZ.later {ms:List Pu}(h:jZ lo w bo ms k)(hb:Bw w w'):jZ lo w' bo ms k:=by
 obtain⟨C,hC,hsz,hr⟩:=h.rows;exact⟨h.low,C,(hb.block bo (gES hC).1).trans hC,hsz,hr⟩
theorem jZ.above {ms:List Pu}(h:jZ lo w bo ms k)(ha:yM lo w w'):jZ lo w' bo ms k:=by
 obtain⟨C,hC,hr⟩:=h.rows;exact⟨h.low,C,(ha.same _ h.low (gES hC).1).trans hC,hr⟩
theorem jZ.weaken {lo':Nat}{ms:List Pu}(h:jZ lo w bo ms k)(hl:lo'<=lo):jZ lo' w bo ms k:=⟨Nat.le_trans hl h.low,h.rows⟩
def zsP (w:World)(b o:Nat)(v0 v1 v2 v3 v4:Value):World:=(((((w.setCell (aD b o) v0).setCell (aD b (o+1)) v1).setCell (aD b (o+2)) v2).setCell (aD b (o+3)) v3).setCell (aD b (o+4)) v4)
def zko (C:AV)(o:Nat)(v0 v1 v2 v3 v4:Value):AV:=(((((C.setIfInBounds (o) v0).setIfInBounds (o+1) v1).setIfInBounds (o+2) v2).setIfInBounds (o+3) v3).setIfInBounds (o+4) v4)
theorem zpe {b o:Nat}{C:AV}{t:TypeId}(h:w.heap[b]?=some (.cells C t))(v0 v1 v2 v3 v4:Value):(zsP w b o v0 v1 v2 v3 v4).heap[b]?=some (.cells (zko C o v0 v1 v2 v3 v4) t):=
 zh (zh (zh (zh (zh h v0) v1) v2) v3) v4
theorem zo6 {B:Nat}{a:World}(h:Below B a w){b:Nat}(hb:B<=b)(o:Nat)(v0 v1 v2 v3 v4:Value):Below B a (zsP w b o v0 v1 v2 v3 v4):=
 ((((h.setCell hb v0).setCell hb v1).setCell hb v2).setCell hb v3).setCell hb v4
theorem zqN (C:AV)(o:Nat)(v0 v1 v2 v3 v4:Value):(zko C o v0 v1 v2 v3 v4).size=C.size:=by simp[zko]
theorem zr9 (C:AV)(o i:Nat)(v0 v1 v2 v3 v4:Value)(h:i<o \/ o+5<=i):(zko C o v0 v1 v2 v3 v4)[i]?=C[i]?:=by
 unfold zko
 iterate 5 rw[Array.getElem?_setIfInBounds,if_neg (by omega)]
theorem zsN (C:AV)(o j:Nat)(v0 v1 v2 v3 v4:Value)(hj:j<5)(ho:o+5<=C.size):(zko C o v0 v1 v2 v3 v4)[o+j]?=(#[v0,v1,v2,v3,v4]:AV)[j]?:=by
 have hc:j=0 \/ j=1 \/ j=2 \/ j=3 \/ j=4:=by omega
 unfold zko
 rcases hc with h|h|h|h|h <;> subst h <;> simp[Array.getElem?_setIfInBounds] <;> omega
theorem jZ.put {ms:List Pu}(h:jZ lo w bo ms k)(hk:k<ms.length) :
 jZ lo (zsP w bo (k*5) (.s ms[k].dr) (.s ms[k].tm) (.s ms[k].rs) (.i ms[k].am) (.i ms[k].un)) bo ms (k+1):=by
 obtain⟨C,hC,hsz,hr⟩:=h.rows;refine⟨h.low,_,zpe hC _ _ _ _ _,by rw[zqN];exact hsz,fun i hi hik j hj=>?_⟩
 rcases Nat.lt_or_ge i k with hlt|hge
 ·rw[zr9 _ _ _ _ _ _ _ _ (by omega)]
  exact hr i hi hlt j hj
 ·have e:i=k:=by omega
  subst e;rw[zsN _ _ _ _ _ _ _ _ hj (by omega)]
  rfl
theorem zjO (m:Pu)(w:World) :
 Calls Tryz.prog 80 #[.agg m.cells] w fun e w'=>e=.returned (.agg m.cells)/\Bw w w':=by
 unfold Pu.cells;go_in;go_wp2
 refine bodyPost_ret (v:=.agg #[.s m.dr,.s m.tm,.s m.rs,.i m.am,.i m.un]) (by simp[results,Tryz.results80,go_sem]) rfl ⟨rfl,?_⟩;exact(((bAl _ _).alloc (by simp) _).alloc (by simp;omega) _)
def ztx:AV:=#[.s ByteArray.empty,.s ByteArray.empty,.s ByteArray.empty,.i 0,.i 0]
def zrt (n:Nat):AV:=madeCells ztx (n*5)
theorem zia (a:OA)(cap:Nat)(ms:List Pu)(w:World)(hw:zcp w a ms)(hl:ms.length<=1048576) :
 Calls Tryz.prog 31 #[.l a ms.length cap] w fun e w'=>e=.returned (.l (some (aD w.heap.size 0)) ms.length ms.length)/\jZ w.heap.size w' w.heap.size ms ms.length/\Bw w w':=by
 have hmk:∀w:World,(Instr.makeSlice 38 (.i ms.length) (.i ms.length)).run Tryz.prog w=.ok (.l (some (aD w.heap.size 0)) ms.length ms.length) (w.alloc (.cells (zrt ms.length) 140)):=
  fun w=>jy (P:=Tryz.prog) 38 140 (.agg ztx) 5 64 Tryz.underlying38 (by kernel_rfl) ms.length (by omega) (by omega) w
 go_in;go_wp2_with fail
 clear hmk
 go_loopw [4] (fun i wr=>∃k:Nat,k<=ms.length/\i=.i k/\jZ w.heap.size wr w.heap.size ms k/\Bw w wr) (fun i _=>ms.length-(intOf i).toNat)
 case atStart=>exact⟨0,Nat.zero_le _,rfl,⟨Nat.le_refl _,zrt ms.length,(MapKept.heap_alloc w _).1,size_madeCells _ _,fun i _ h=>absurd h (by omega)⟩,bAl _ _⟩
 case round=>
  obtain⟨k,hk,rfl,hown,hB⟩:=hrel
  by_cases hlt:k<ms.length
  ·obtain⟨b,off,rfl,hb,c0,c1,c2,c3,c4⟩:=hw.load hB k hlt
   have hltI:(k:Int)<(ms.length:Int):=by omega
   clear hw;go_wp2_with fail
   refine(zjO ms[k] _).mono ?_;rintro e w1⟨rfl,hb1⟩;have hB1:=hB.trans (hb1.mono hB.size);have hown1:=hown.later hb1
   have hbo:w.heap.size<wr.heap.size:=by
    obtain⟨C',hC',_⟩:=hown.rows;exact(gES hC').1
   obtain⟨C,hC,hsz,_⟩:=hown1.rows;have hfz:∀o,w1.frozen? (aD w.heap.size o)=false:=fun o=>zf hC
   have hex:∀o,o<ms.length*5->∃v,w1.cell? (aD w.heap.size o)=some v:=fun o ho=>⟨C[o]'(by omega),by rw[cell_of_block hC];exact Array.getElem?_eq_getElem (by omega)⟩
   obtain⟨v0,hv0⟩:=hex (k*5) (by omega);obtain⟨v1,hv1⟩:=hex (k*5+1) (by omega);obtain⟨v2,hv2⟩:=hex (k*5+2) (by omega);obtain⟨v3,hv3⟩:=hex (k*5+3) (by omega);obtain⟨v4,hv4⟩:=hex (k*5+4) (by omega);have HP:=hid hown1;clear hex hC hsz c0 c1 c2 c3 c4 hown hown1;unfold Pu.cells;go_wp2
   exact⟨⟨k+1,by omega,by go_num,HP.o.put hlt,zo6 hB1 (Nat.le_refl _) _ _ _ _ _ _⟩,by simp[intOf];omega⟩
  ·have HF:Hid (jZ w.heap.size wr w.heap.size ms ms.length):=by
    have e:k=ms.length:=by omega
    subst e;exact hown
   clear hw hown;go_wp2
   go_ret;exact⟨rfl,HF.o,hB⟩
theorem zdK {α:Type}(p:α->Bool)(l:List α)(k:Nat)(h:k<l.length):(l.take (k+1)).any p=((l.take k).any p||p l[k]):=by
 rw[tSe h,List.any_append];simp
theorem zsM {α:Type}(p:α->Bool)(l:List α)(k:Nat)(h:k<l.length)(hp:p l[k]=true):l.any p=true:=by
 rw[List.any_eq_true];exact⟨l[k],List.getElem_mem h,hp⟩
def ziJ (P:Program)(fid:Nat)(q:Value)(ts:List Tm)(w:World)(p:Tm->Bool):Prop:=
 ∀w1,Bw w w1->∀i (h:i<ts.length),Calls P fid #[.agg ts[i].cells,q] w1 fun e w'=>e=.returned (.bool (p ts[i]))/\Bw w1 w'
theorem zkh (a:OA)(cap:Nat)(ts:List Tm)(q:Value)(p:Tm->Bool)(w:World)(hw:jQ w a ts)(hf:ziJ Tryz.prog 221 q ts w p) :
 Calls Tryz.prog 222 #[.l a ts.length cap,.func (.func 221) #[] #[q]] w fun e w'=>∃r:Int,e=.returned (.i r)/\decide (0<=r)=ts.any p/\Bw w w':=by
 have hl:=hw.len;unfold maxLen at hl;go_in;go_wp2
 go_loopw [8] (fun i wr=>∃k:Nat,k<=ts.length/\i=.i k/\(ts.take k).any p=false/\Bw w wr) (fun i _=>ts.length-(intOf i).toNat)
 case atStart=>exact⟨0,Nat.zero_le _,rfl,rfl,bRf _ _⟩
 case round=>
  obtain⟨k,hk,rfl,hno,hB⟩:=hrel
  by_cases hlt:k<ts.length
  ·obtain⟨b,off,rfl,hb,c0,c1⟩:=hw.load hB k hlt
   have hltI:(k:Int)<(ts.length:Int):=by omega
   have hc:=hf wr hB k hlt;clear hw hf
   by_cases he:p ts[k]=true
   ·have HA:Hid (ts.any p=true):=zsM p ts k hlt he
    have HE:Hid (p ts[k]=true):=he;clear he hno;go_wp2_with fail
    refine(zw HE.o hc).mono ?_;rintro e w2⟨rfl,hb2⟩;go_wp2
    go_ret;exact⟨_,rfl,by rw[HA.o];simp,hB.trans (hb2.mono hB.size)⟩
   ·have he':p ts[k]=false:=by simpa using he
    have HS:Hid ((ts.take (k+1)).any p=false):=by unfold Hid;rw[zdK p ts k hlt,hno,he'];rfl
    have HE:Hid (p ts[k]=false):=he';clear he he' hno;go_wp2_with fail
    refine(zw HE.o hc).mono ?_;rintro e w2⟨rfl,hb2⟩;go_wp2
    exact⟨⟨k+1,by omega,by go_num,HS.o,hB.trans (hb2.mono hB.size)⟩,by simp[intOf];omega⟩
  ·have HA:Hid (ts.any p=false):=by unfold Hid;rw[<- hno,tOl (by omega)]
   clear hno hw hf;go_wp2
   go_ret;exact⟨_,rfl,by rw[HA.o];rfl,hB⟩
theorem zgY (a:OA)(cap:Nat)(ts:List Tm)(q:Value)(p:Tm->Bool)(w:World)(hw:jQ w a ts)(hf:ziJ Tryz.prog 221 q ts w p) :
 Calls Tryz.prog 177 #[.l a ts.length cap,.func (.func 221) #[] #[q]] w fun e w'=>e=.returned (.bool (ts.any p))/\Bw w w':=by
 go_in;go_wp2_with fail
 refine(zkh _ _ _ _ _ _ hw hf).mono ?_;rintro e w2⟨r,rfl,hr,hb2⟩;go_wp2
 go_ret;exact⟨rfl,hb2⟩
theorem zke (a:OA)(cap:Nat)(ts:List Tm)(q:Value)(p:Tm->Bool)(w:World)(hw:jQ w a ts)(hf:ziJ Tryz.prog 178 q ts w p) :
 Calls Tryz.prog 222 #[.l a ts.length cap,.func (.func 178) #[] #[q]] w fun e w'=>∃r:Int,e=.returned (.i r)/\decide (0<=r)=ts.any p/\Bw w w':=by
 have hl:=hw.len;unfold maxLen at hl;go_in;go_wp2
 go_loopw [8] (fun i wr=>∃k:Nat,k<=ts.length/\i=.i k/\(ts.take k).any p=false/\Bw w wr) (fun i _=>ts.length-(intOf i).toNat)
 case atStart=>exact⟨0,Nat.zero_le _,rfl,rfl,bRf _ _⟩
 case round=>
  obtain⟨k,hk,rfl,hno,hB⟩:=hrel
  by_cases hlt:k<ts.length
  ·obtain⟨b,off,rfl,hb,c0,c1⟩:=hw.load hB k hlt
   have hltI:(k:Int)<(ts.length:Int):=by omega
   have hc:=hf wr hB k hlt;clear hw hf
   by_cases he:p ts[k]=true
   ·have HA:Hid (ts.any p=true):=zsM p ts k hlt he
    have HE:Hid (p ts[k]=true):=he;clear he hno;go_wp2_with fail
    refine(zw HE.o hc).mono ?_;rintro e w2⟨rfl,hb2⟩;go_wp2
    go_ret;exact⟨_,rfl,by rw[HA.o];simp,hB.trans (hb2.mono hB.size)⟩
   ·have he':p ts[k]=false:=by simpa using he
    have HS:Hid ((ts.take (k+1)).any p=false):=by unfold Hid;rw[zdK p ts k hlt,hno,he'];rfl
    have HE:Hid (p ts[k]=false):=he';clear he he' hno;go_wp2_with fail
    refine(zw HE.o hc).mono ?_;rintro e w2⟨rfl,hb2⟩;go_wp2
    exact⟨⟨k+1,by omega,by go_num,HS.o,hB.trans (hb2.mono hB.size)⟩,by simp[intOf];omega⟩
  ·have HA:Hid (ts.any p=false):=by unfold Hid;rw[<- hno,tOl (by omega)]
   clear hno hw hf;go_wp2
   go_ret;exact⟨_,rfl,by rw[HA.o];rfl,hB⟩
theorem zhM (a:OA)(cap:Nat)(ts:List Tm)(q:Value)(p:Tm->Bool)(w:World)(hw:jQ w a ts)(hf:ziJ Tryz.prog 178 q ts w p) :
 Calls Tryz.prog 177 #[.l a ts.length cap,.func (.func 178) #[] #[q]] w fun e w'=>e=.returned (.bool (ts.any p))/\Bw w w':=by
 go_in;go_wp2_with fail
 refine(zke _ _ _ _ _ _ hw hf).mono ?_;rintro e w2⟨r,rfl,hr,hb2⟩;go_wp2
 go_ret;exact⟨rfl,hb2⟩
theorem znM (t:Tm)(v:BA)(bn:Nat)(w:World)(hb:bn<w.heap.size)(hn:w.cell? (aD bn 0)=some (.s v)) :
 Calls Tryz.prog 221 #[.agg t.cells,.pointer (some (aD bn 0))] w fun e w'=>e=.returned (.bool (t.nm.toList == v.toList))/\Bw w w':=by
 unfold Tm.cells;go_in;go_wp2
 go_ret;exact⟨rfl,bAl _ _⟩
theorem zpK (ts:List Tm)(v:BA)(bn:Nat)(w:World)(hb:bn<w.heap.size)(hn:w.cell? (aD bn 0)=some (.s v)) :
 ziJ Tryz.prog 221 (.pointer (some (aD bn 0))) ts w (fun t=>decide (t.nm=v)):=fun w1 hB i hi=>by
 refine(znM ts[i] v bn w1 (nLt hb hB.size) ((hB.cell (p:=(aD bn 0)) hb).trans hn)).mono ?_;rintro e w'⟨rfl,hb'⟩;exact⟨ze (beq_toList _ _),hb'⟩
theorem zc4 (a:OA)(cap:Nat)(ts:List Tm)(v:BA)(w:World)(hw:jQ w a ts) :
 Calls Tryz.prog 176 #[.l a ts.length cap,.s v] w fun e w'=>e=.returned (.bool (yD ts v))/\Bw w w':=by
 go_in;go_wp2_with fail
 refine(zgY _ _ _ _ _ _ (hw.mono (bAl _ _)) (zpK ts v _ _ (by simp) (by rw[World.cell?_alloc_at _ _ _ _ rfl];rfl))).mono ?_;rintro e w2⟨rfl,hb2⟩;go_wp2
 go_ret;exact⟨rfl,(bAl _ _).trans (hb2.mono (by simp))⟩
theorem zma (a:OA)(cap:Nat)(ts:List Tm)(t:Tm)(w:World)(hw:jQ w a ts) :
 Calls Tryz.prog 179 #[.l a ts.length cap,.agg t.cells] w fun e w'=>e=.returned (.bool (!zeN ts t))/\Bw w w':=by
 unfold Tm.cells;go_in;go_wp2
 go_loopw [5,8] (fun p i wr=>∃(k:Nat) (z:BA),k<=4/\p=.s z/\i=.i k/\zfN ts 4 t.ov=zfN ts (4-k) z/\Bw w wr) (fun _ i _=>4-(intOf i).toNat)
 case atStart=>exact⟨0,t.ov,Nat.zero_le _,rfl,rfl,rfl,bAl _ _⟩
 case round=>
  obtain⟨k,z,hk,rfl,rfl,hz,hB⟩:=hrel
  by_cases hlt:k<4
  ·have hltI:(k:Int)<4:=by omega
   have HZ:Hid (zfN ts 4 t.ov=zfN ts (4-(k+1)) (over ts z)):=by
    obtain⟨m,hm⟩:∃m,4-k=m+1:=⟨3-k,by omega⟩
    rw[Hid,hz,hm,show 4-(k+1)=m by omega];rfl
   clear hz;go_wp2_with fail
   refine(zey _ _ _ _ _ (hw.mono hB)).mono ?_;rintro e w1⟨rfl,hb1⟩;have hB1:=hB.trans (hb1.mono hB.size);clear hb1;go_wp2
   exact⟨⟨k+1,over ts z,by omega,rfl,by go_num,HZ.o,hB1⟩,by simp[intOf];omega⟩
  ·have HF:Hid (zeN ts t=z.toList.isEmpty):=by
    have e:4-k=0:=by omega
    rw[e]at hz;unfold Hid zeN;rw[hz,zu];rfl
   clear hz;go_wp2
   go_ret;exact⟨ze (by rw[HF.o]),hB⟩
theorem zqJ (a:OA)(cap:Nat)(ts:List Tm)(t:Tm)(bn:Nat)(w:World)(hw:jQ w a ts)(hb:bn<w.heap.size)(hn:w.cell? (aD bn 0)=some (.l a ts.length cap)) :
 Calls Tryz.prog 178 #[.agg t.cells,.pointer (some (aD bn 0))] w fun e w'=>e=.returned (.bool (!zeN ts t))/\Bw w w':=by
 unfold Tm.cells;go_in;go_wp2_with fail
 refine(zma _ _ _ t _ (hw.mono (bAl _ _))).mono ?_;rintro e w2⟨rfl,hb2⟩;go_wp2
 go_ret;exact⟨rfl,(bAl _ _).trans (hb2.mono (by simp))⟩
theorem zrW (a:OA)(cap:Nat)(ts:List Tm)(bn:Nat)(w:World)(hw:jQ w a ts)(hb:bn<w.heap.size)(hn:w.cell? (aD bn 0)=some (.l a ts.length cap)) :
 ziJ Tryz.prog 178 (.pointer (some (aD bn 0))) ts w (fun t=>!zeN ts t):=fun w1 hB i _=>
 zqJ a cap ts ts[i] bn w1 (hw.mono hB) (nLt hb hB.size) ((hB.cell (p:=(aD bn 0)) hb).trans hn)
end Go.Proofs.YtjnpjkigofldlaaGreat
