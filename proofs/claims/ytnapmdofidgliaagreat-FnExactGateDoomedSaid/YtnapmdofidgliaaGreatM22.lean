import Derived.Test.YtnapmdofidgliaaGreatM17
import Derived.Shelf.Lay
import Derived.Shelf.LaySoft
import Derived.Shelf.LaysM
import Derived.Shelf.Small.Strs
set_option maxHeartbeats 4000000
namespace Go.Proofs.YtnapmdofidgliaaGreat
open Go.RowKit
def zm8 (a:Option Addr)(ws:List ByteArray):Prop:=(a=none/\ws=[]) \/ ∃b off,a=some ⟨b,off,none⟩
theorem zx.zq9 {lo:Nat}{w:World}{a:Option Addr}{ws:List ByteArray}(h:zx lo w a ws):zm8 a ws:=by
 rcases h with⟨h0,h1⟩|⟨g,C,h0,_⟩
 ·exact Or.inl ⟨h0,h1⟩
 ·exact Or.inr ⟨g,0,h0⟩
theorem zeQ (cap:Nat)(w:World) :
 Calls Tryz.prog 227 #[.slice none 0 cap] w fun e w'=>∃v,e=.returned v/\w'.ownsRow w.heap.size 9 1 v 0 []/\Below w.heap.size w w':=by
 go_enter Tryz.func227,Tryz.ntmps227;go_wp2_with fail
 go_ret;exact⟨_,rfl,World.ownsRow_nil _ _ _ _,bRf _ _⟩
theorem zfP (a:Option Addr)(cap:Nat)(ws:List ByteArray)(w:World)(hw:zD w a ws)(hA:zm8 a ws)(hl:ws.length<=1048576) :
 Calls Tryz.prog 227 #[.slice a ws.length cap] w
  fun e w'=>∃v,e=.returned v/\w'.ownsRow w.heap.size 9 1 v ws.length (ws.map Value.string)/\Below w.heap.size w w':=by
 rcases hA with⟨rfl,rfl⟩|⟨b,off,rfl⟩
 ·exact zeQ cap w
 ·exact zfF b off cap ws w hw hl
theorem zkm (o:Ob)(va ha:Option Addr)(cap cap':Nat)(w:World)(ho:jK w o va ha)(hA:zm8 va o.vs)(hA':zm8 ha o.hs)(hl:o.vs.length<=1048576)(hl':o.hs.length<=1048576) :
 Calls Tryz.prog 224 #[.agg #[.string o.kd,.string o.nm,.string o.tm,.slice va o.vs.length cap,.bool o.en,.slice ha o.hs.length cap',.int .i64 o.vr]] w
  fun e w'=>∃a dap a' dap' m,e=.returned (.agg #[.string o.kd,.string o.nm,.string o.tm,.slice a o.vs.length dap,.bool o.en,.slice a' o.hs.length dap',.int .i64 o.vr])/\zx w.heap.size w' a o.vs/\(∀g,a=some g->g.block<m)/\w.heap.size<=m/\zx m w' a' o.hs/\Below w.heap.size w w':=by
 go_enter Tryz.func224,Tryz.ntmps224;go_wp2_with fail
 refine(zfP _ _ _ _ (ho.vals.mono (zw _ _ _)) hA hl).mono ?_;rintro e w1⟨v,rfl,hown1,hb1⟩;obtain⟨a,dap,rfl,ht1⟩:=zx.zf1 hown1;have hk1:=(hb1.block w.heap.size (by simp;omega)).trans (zT _ _ _).1;have hr1:=(hb1.block (w.heap.size+1) (by simp)).trans (zT _ _ _).2;have HT:Hid (zx (w.heap.size+1+1) w1 a o.vs):=by unfold Hid;simpa using ht1
 have hz1:w.heap.size+1<w1.heap.size:=by have:=hb1.size;simp at this;omega
 have hB1:=(zw _ _ _).trans (hb1.mono (by simp;omega));have HK:=hid hk1;have HRR:=hid hr1;have hX1:∀j,w1.cell? ⟨w.heap.size,j,none⟩=(#[.string o.kd,.string o.nm,.string o.tm,.slice va o.vs.length cap,.bool o.en,.slice ha o.hs.length cap',.int .i64 o.vr]:Array Value)[j]?:=fun j=>cell_of_block hk1
 have hF1:∀j,w1.frozen? ⟨w.heap.size,j,none⟩=false:=fun j=>zh hk1
 clear hb1 hown1 ht1 hk1 hr1;go_wp2_with fail
 have hB1':=hB1.setCell (p:=⟨w.heap.size,3,none⟩) (Nat.le_refl _) (.slice a o.vs.length dap);refine(zfP _ _ _ _ (ho.holds.mono hB1') hA' hl').mono ?_;rintro e w2⟨v,rfl,hown2,hb2⟩;obtain⟨a',dap',rfl,ht2⟩:=zx.zf1 hown2;have hk2:=(hb2.block w.heap.size (by simp[World.setCell];omega)).trans (zk HK.out _);have hr2:=(hb2.block (w.heap.size+1) (by simp[World.setCell];omega)).trans ((Below.heap_setCell _ _ _ _ (by simp)).trans HRR.out);have HT2:=hid ((HT.out.setCell _ (by simp;omega) _).mono hb2);have HU2:Hid (zx w1.heap.size w2 a' o.hs):=by unfold Hid;simpa[World.setCell] using ht2
 have HM:Hid (∀g,a=some g->g.block<w1.heap.size):=by
  intro g hg
  rcases HT.out with⟨h0,_⟩|⟨g',C,h0,_,hh,_⟩
  ·rw[h0]at hg;cases hg
  ·rw[h0]at hg;cases hg;exact(gES hh).1
 have hz2:w.heap.size+1<w2.heap.size:=by have:=hb2.size;simp[World.setCell]at this;omega
 have hB2:=hB1'.trans (hb2.mono hB1'.size);have hX2:∀j,w2.cell? ⟨w.heap.size,j,none⟩=(#[.string o.kd,.string o.nm,.string o.tm,.slice a o.vs.length dap,.bool o.en,.slice ha o.hs.length cap',.int .i64 o.vr]:Array Value)[j]?:=fun j=>cell_of_block hk2
 have hF2:∀j,w2.frozen? ⟨w.heap.size,j,none⟩=false:=fun j=>zh hk2
 have hY2:∀j,w2.cell? ⟨w.heap.size+1,j,none⟩=(#[.string ByteArray.empty,.string ByteArray.empty,.string ByteArray.empty,.slice none 0 0,.bool false,.slice none 0 0,.int .i64 0]:Array Value)[j]?:=fun j=>cell_of_block hr2
 have hG2:∀j,w2.frozen? ⟨w.heap.size+1,j,none⟩=false:=fun j=>zh hr2
 have hzz:w.heap.size<=w1.heap.size:=by omega
 clear hb2 hown2 ht2 hX1 hF1 hB1 hB1' hk2 hr2;go_wp2_with fail
 refine bodyPost_ret (v:=(.agg #[.string o.kd,.string o.nm,.string o.tm,.slice a o.vs.length dap,.bool o.en,.slice a' o.hs.length dap',.int .i64 o.vr])) (by simp[results,Tryz.results224,go_sem,hY2]) rfl ⟨a,dap,a',dap',w1.heap.size,rfl,((((((((HT2.out.setCell _ (by simp;omega) _).setCell _ (by simp) _).setCell _ (by simp) _).setCell _ (by simp) _).setCell _ (by simp) _).setCell _ (by simp) _).setCell _ (by simp) _).setCell _ (by simp) _).low (by omega),HM.out,hzz,((((((((HU2.out.setCell _ (by simp;omega) _).setCell _ (by simp;omega) _).setCell _ (by simp;omega) _).setCell _ (by simp;omega) _).setCell _ (by simp;omega) _).setCell _ (by simp;omega) _).setCell _ (by simp;omega) _).setCell _ (by simp;omega) _),((((((((hB2.setCell (Nat.le_refl _) _).setCell (by simp) _).setCell (by simp) _).setCell (by simp) _).setCell (by simp) _).setCell (by simp) _).setCell (by simp) _).setCell (by simp) _)⟩
end Go.Proofs.YtnapmdofidgliaaGreat
namespace Go.Proofs
open Go.Shelf
shelf_lay Lays.n106 Nm 106 at Tryz as YtnapmdofidgliaaGreat.lays106
end Go.Proofs
namespace Go.Proofs.YtnapmdofidgliaaGreat
open Go.RowKit
def key (a b:ByteArray):Int:=Lib.compareBytes a.data.toList b.data.toList
theorem znU:∀a b:List UInt8,Lib.compareBytes a b=-1 \/ Lib.compareBytes a b=0 \/ Lib.compareBytes a b=1
 | [],[]=>by simp[Lib.compareBytes]
 | [],_ :: _=>by simp[Lib.compareBytes]
 | _ :: _,[]=>by simp[Lib.compareBytes]
 | a :: xs,b :: ys=>by
  simp only[Lib.compareBytes]
  split
  ·simp
  ·split
   ·simp
   ·exact znU xs ys
theorem zmR:∀a b:List UInt8,Op.bytesLess a b=decide (Lib.compareBytes a b=-1)
 | [],[]=>by simp[Lib.compareBytes,Op.bytesLess]
 | [],_ :: _=>by simp[Lib.compareBytes,Op.bytesLess]
 | _ :: _,[]=>by simp[Lib.compareBytes,Op.bytesLess]
 | a :: xs,b :: ys=>by
  simp only[Lib.compareBytes,Op.bytesLess];rw[zmR xs ys]
  by_cases h:a<b
  ·simp[h]
  ·by_cases h':b<a
   ·have hne:¬a=b:=fun e=>by subst e;exact h h'
    simp[h,h',hne]
   ·have he:a=b:=by
     have h1:¬a.toNat<b.toNat:=h;have h2:¬b.toNat<a.toNat:=h';exact UInt8.toNat_inj.1 (by omega)
    simp[he]
theorem zmV:∀a b:List UInt8,Lib.compareBytes b a=- Lib.compareBytes a b
 | [],[]=>by simp[Lib.compareBytes]
 | [],_ :: _=>by simp[Lib.compareBytes]
 | _ :: _,[]=>by simp[Lib.compareBytes]
 | a :: xs,b :: ys=>by
  simp only[Lib.compareBytes]
  by_cases h:a<b
  ·have h':¬b<a:=fun h2=>absurd (UInt8.lt_trans h h2) (UInt8.lt_irrefl _)
   simp[h,h']
  ·by_cases h':b<a
   ·simp[h,h']
   ·simp[h,h',zmV xs ys]
theorem zqh (a b:ByteArray):key b a=- key a b:=zmV _ _
theorem znq (a b:ByteArray):key a b=-1 \/ key a b=0 \/ key a b=1:=znU _ _
theorem zjk (a b:ByteArray):less a b=decide (key a b=-1):=by
 unfold less key;rw[<- zmR,ByteArray.toList_eq,ByteArray.toList_eq]
theorem znp:∀a b:List UInt8,Lib.compareBytes a b=0↔a=b
 | [],[]=>by simp[Lib.compareBytes]
 | [],_ :: _=>by simp[Lib.compareBytes]
 | _ :: _,[]=>by simp[Lib.compareBytes]
 | a :: xs,b :: ys=>by
  simp only[Lib.compareBytes]
  by_cases h:a<b
  ·have hne:¬a=b:=fun e=>by subst e;exact UInt8.lt_irrefl _ h
   simp[h,hne]
  ·by_cases h':b<a
   ·have hne:¬a=b:=fun e=>by subst e;exact UInt8.lt_irrefl _ h'
    simp[h,h',hne]
   ·have he:a=b:=by
     have h1:¬a.toNat<b.toNat:=h;have h2:¬b.toNat<a.toNat:=h';exact UInt8.toNat_inj.1 (by omega)
    simp[he,znp xs ys]
theorem zbF (a b:ByteArray):key a b=0↔a=b:=by
 unfold key;rw[znp]
 constructor
 ·intro h
  cases a;cases b
  simp only at h
  rw[Array.toList_inj.1 h]
 ·rintro rfl;rfl
def zc7 (vs:List Int):Int:=(vs.find? (fun v=>decide (¬v=0))).getD 0
theorem zle (a b:Int):zc7 [a,b]=if a=0 then b else a:=by
 unfold zc7
 by_cases h:a=0
 ·by_cases h2:b=0 <;> simp[h,h2]
 ·simp[h]
theorem zmN (a b c:Int):zc7 [a,b,c]=if a=0 then (if b=0 then c else b) else a:=by
 unfold zc7
 by_cases h:a=0
 ·by_cases h2:b=0
  ·by_cases h3:c=0 <;> simp[h,h2,h3]
  ·simp[h,h2]
 ·simp[h]
def key2 (a b c d:ByteArray):Int:=if key a c=0 then key b d else key a c
def zbD (a b:Ob):Int:=key2 a.kd a.nm b.kd b.nm
def qP (a b:Lg):Int:=key2 a.tm a.rs b.tm b.rs
def zaB (a b:Pu):Int:=if key a.dr b.dr=0 then key2 a.tm a.rs b.tm b.rs else key a.dr b.dr
theorem zeP (a b:ByteArray)(w:World):Calls Tryz.prog 195 #[.string a,.string b] w fun e w'=>e=.returned (.int .i64 (key a b))/\w'=w:=
 Any.strings_Compare lays106 a b w
theorem zlg (a:Option Addr)(cap:Nat)(vs:List Int)(w:World)(hw:qy w a vs)(hl:vs.length<=100) :
 Calls Tryz.prog 194 #[.slice a vs.length cap] w fun e w'=>e=.returned (.int .i64 (zc7 vs))/\w'=w:=by
 go_enter Tryz.func194,Tryz.ntmps194;go_wp2_with fail
 go_loopw [8] (fun i wr=>∃k:Nat,k<=vs.length/\i=.int .i64 k/\Hid (∀v∈vs.take k,v=0)/\wr=w) (fun i _=>vs.length-(intOf i).toNat)
 case atStart=>exact⟨0,Nat.zero_le _,rfl,fun v hv=>by simp at hv,rfl⟩
 case round=>
  obtain⟨k,hk,rfl,hz,rfl⟩:=hrel
  by_cases hlt:k<vs.length
  ·obtain⟨b,off,rfl,hb,hck⟩:=hw.load (bRf _ _) k hlt
   have hltI:(k:Int)<(vs.length:Int):=by omega
   clear hw
   by_cases h0:vs[k]=0
   ·have e0:(vs[k] != 0)=false:=by simpa using h0
    have HZ:Hid (∀v∈vs.take (k+1),v=0):=by
     intro v hv;rw[tSe hlt,List.mem_append,List.mem_singleton]at hv
     rcases hv with hv|hv
     ·exact hz.out v hv
     ·rw[hv];exact h0
    clear h0;go_wp2_with fail
    exact⟨⟨k+1,by omega,by go_num,HZ.out,trivial⟩,by simp[intOf];omega⟩
   ·have e0:(vs[k] != 0)=true:=by simpa using h0
    have HF:Hid (zc7 vs=vs[k]):=by
     unfold Hid zc7;have e:vs=vs.take k++vs[k] :: vs.drop (k+1):=by rw[<- List.drop_eq_getElem_cons hlt,List.take_append_drop]
     have hn:(vs.take k).find? (fun v=>decide (¬v=0))=none:=by
      rw[List.find?_eq_none];intro v hv;simp[hz.out v hv]
     have:vs.find? (fun v=>decide (¬v=0))=some vs[k]:=by
      rw[List.find?_eq_some_iff_append];refine⟨by simpa using h0,vs.take k,vs.drop (k+1),e,fun v hv=>by simp[hz.out v hv]⟩
     rw[this];rfl
    clear h0;go_wp2_with fail
    go_ret;exact⟨zo HF.out.symm,rfl⟩
  ·have HF:Hid (zc7 vs=0):=by
    unfold Hid zc7;have h:=hz.out;rw[tOl (by omega)]at h
    have:vs.find? (fun v=>decide (¬v=0))=none:=by
     rw[List.find?_eq_none];intro v hv;simp[h v hv]
    rw[this];rfl
   clear hw;go_wp2_with fail
   go_ret;exact⟨zo HF.out.symm,rfl⟩
end Go.Proofs.YtnapmdofidgliaaGreat
namespace Go.Proofs.YtnapmdofidgliaaGreat
open Go.RowKit
theorem zh5 (s:ByteArray):(0<qZ s/\zaF s=qZ s) \/ (¬0<qZ s/\zaF s=0):=by
 unfold qZ zaF
 by_cases h:zao s=true
 ·rw[if_pos h,if_pos h]
  have:=zdb s h
  omega
 ·rw[if_neg h,if_neg h]
  omega
theorem zkN (l:Lw)(la lb lc:Option Addr)(lca lcb lcc:Nat)(o:Ob)(oa oa':Option Addr)(ocap ocap':Nat)(res:ByteArray)(w:World)(hl:jh w l la lb lc)(ho:jK w o oa oa')(hc:¬(zy l.ss o=true/\res.toList.isEmpty=false)) :
 Calls Tryz.prog 140 #[.agg (l.cells la lb lc lca lcb lcc),.agg #[.string o.kd,.string o.nm,.string o.tm,.slice oa o.vs.length ocap,.bool o.en,.slice oa' o.hs.length ocap',.int .i64 o.vr],.string res] w fun e w'=>e=.returned (.int .i64 (qV l.ss o res))/\Below w.heap.size w w':=by
 have HL:=hid hl;have HO:=hid ho;have HW:Hid (qV l.ss o res=0):=by unfold Hid qV;rw[if_neg hc]
 have HC:=hid hc;clear hl ho hc;unfold Lw.cells
 by_cases hk:zy l.ss o=true
 ·have he:res.toList.isEmpty=true:=by
   cases h:res.toList.isEmpty with
   | true=>rfl
   | false=>exact absurd ⟨hk,h⟩ HC.out
  have HK:=hid hk;clear hk;go_enter Tryz.func140,Tryz.ntmps140;go_wp2_with fail
  refine(qY _ _ l.ss o _ _ _ _ _ (HL.out.ss.mono (zw _ _ _)) (HO.out.mono (zw _ _ _)) HK.out).mono ?_;rintro e w1⟨fa,fcap,rfl,hfl,hb⟩;have HB1:Hid (Below w.heap.size w w1):=(zw w _ _).trans (hb.mono (by simp;omega));clear hfl hb;go_wp2_with fail
  go_ret;exact⟨zo HW.out.symm,HB1.out⟩
 ·have HK:Hid (zy l.ss o=false):=by unfold Hid;simpa using hk
  clear hk;go_enter Tryz.func140,Tryz.ntmps140;go_wp2_with fail
  refine(zdg _ _ l.ss o _ _ _ _ _ (HL.out.ss.mono (zw _ _ _)) (HO.out.mono (zw _ _ _)) HK.out).mono ?_;rintro e w1⟨v,rfl,hb⟩;have HB1:Hid (Below w.heap.size w w1):=(zw w _ _).trans (hb.mono (by simp;omega));clear hb;go_wp2_with fail
  go_ret;exact⟨zo HW.out.symm,HB1.out⟩
theorem zjE (l:Lw)(la lb lc:Option Addr)(lca lcb lcc:Nat)(o:Ob)(oa oa':Option Addr)(ocap ocap':Nat)(res:ByteArray)(w:World)(hl:jh w l la lb lc)(ho:jK w o oa oa')(hc:zy l.ss o=true)(he:res.toList.isEmpty=false)(hlen:o.vs.length<=1048576) :
 Calls Tryz.prog 140 #[.agg (l.cells la lb lc lca lcb lcc),.agg #[.string o.kd,.string o.nm,.string o.tm,.slice oa o.vs.length ocap,.bool o.en,.slice oa' o.hs.length ocap',.int .i64 o.vr],.string res] w fun e w'=>e=.returned (.int .i64 (qV l.ss o res))/\Below w.heap.size w w':=by
 have HL:=hid hl;have HO:=hid ho;have HW:Hid (qV l.ss o res=(if res=o.kd then 1 else 0)+zet (shapeOf l.ss o.kd).fs o.vs res (shapeOf l.ss o.kd).fs.length):=by unfold Hid qV;rw[if_pos ⟨hc,he⟩]
 have HC:=hid hc;have HK:Hid (zG l.ss o.kd=true/\o.vs.length=(shapeOf l.ss o.kd).fs.length):=by unfold zy at hc;unfold Hid;simpa using hc
 have HN:=hid hlen;clear hl ho hc hlen;unfold Lw.cells;go_enter Tryz.func140,Tryz.ntmps140;go_wp2_with fail
 refine(qY _ _ l.ss o _ _ _ _ _ (HL.out.ss.mono (zw _ _ _)) (HO.out.mono (zw _ _ _)) HC.out).mono ?_;rintro e w1⟨fa,fcap,rfl,hfl,hb⟩;obtain⟨hX0,hY0⟩:=qx w #[.slice la l.ss.length lca,.slice lb l.ms.length lcb,.slice lc l.ts.length lcc] #[.string o.kd,.string o.nm,.string o.tm,.slice oa o.vs.length ocap,.bool o.en,.slice oa' o.hs.length ocap',.int .i64 o.vr] 41 123;have hY1:=za hY0 (by simp) hb;have hz1:w.heap.size+1<w1.heap.size:=by have:=hb.size;simp at this;omega
 have HB1:Hid (Below w.heap.size w w1):=(zw w _ _).trans (hb.mono (by simp;omega));have HFl:=hid (hfl.mono hb);clear hfl hb hX0 hY0;obtain⟨S,HS⟩:∃S,Hid (S=shapeOf l.ss o.kd):=⟨_,rfl⟩
 rw[<- HS.out]at HFl HK HW ⊢;obtain⟨n0,hn0⟩:∃n0:Int,n0=if res=o.kd then 1 else 0:=⟨_,rfl⟩
 have hb0:0<=n0/\n0<=1:=by rw[hn0];split <;> omega
 rw[<- hn0]at HW;have HN0:=hid hn0;clear hn0
 by_cases hk:res=o.kd
 all_goals (
  first
  | (have hq:(res.toList == o.kd.toList)=true:=by rw[beq_toList];simpa using hk)
  | (have hq:(res.toList == o.kd.toList)=false:=by rw[beq_toList];simpa using hk)
  have HKE:=zjC hk;clear hk;go_wp2_with fail
  go_loopw [9,10] (fun nv iv wr=>∃(k:Nat) (s:Int),k<=S.fs.length/\iv=.int .i64 k/\nv=.int .i64 s/\Hid (s=n0+zet S.fs o.vs res k/\Below w1.heap.size w1 wr)) (fun _ iv _=>S.fs.length-(intOf iv).toNat)
  case atStart=>exact⟨0,n0,Nat.zero_le _,rfl,by have:=HN0.out;first|(rw[if_pos HKE.out]at this;rw[this])|(rw[if_neg HKE.out]at this;rw[this]),by simp[zet],bRf _ _⟩
  case round=>
   obtain⟨k,s,hk,rfl,rfl,HQ⟩:=hrel;have hsb:0<=s/\s<=1+k*10000000:=by have h1:=HQ.out.1;have h2:=zcM S.fs o.vs res k;omega
   have hkn:k<=1048576:=by have:=HN.out;have:=HK.out.2;omega
   by_cases hlt:k<S.fs.length
   ·obtain⟨b,off,rfl,hb,hr⟩:=HFl.out.rows (by intro e;rw[e]at hlt;simp at hlt)
    obtain⟨wa,wcap,hf⟩:=hr k hlt;obtain⟨c0,c1,c2,c3,c4,c5,c6,c7,c8,c9,c10⟩:=(hf.mono hb HQ.out.2).load;have hlv:k<o.vs.length:=by have:=HK.out.2;omega
    have hltI:(k:Int)<(S.fs.length:Int):=by omega
    have hlvI:(k:Int)<(o.vs.length:Int):=by omega
    obtain⟨vb,voff,rfl,hvb,hvc0⟩:=HO.out.vals.cells (by intro e;rw[e]at hlv;simp at hlv);have hvc:=((HB1.out.trans (HQ.out.2.mono HB1.out.size)).cell (p:=⟨vb,voff+k,none⟩) hvb).trans (hvc0 k hlv);have hvb':=nLt hvb (HB1.out.trans (HQ.out.2.mono HB1.out.size)).size;have hb':=nLt hb HQ.out.2.size;have hY:=za hY1 hz1 HQ.out.2;have hz:=nLt hz1 HQ.out.2.size;have HSt:Hid (zet S.fs o.vs res (k+1)=zet S.fs o.vs res k+yN S.fs[k] o.vs[k] res):=zpf S.fs o.vs res k hlt hlv;have HVs:Hid (o.vs[k].size<=maxLen):=HO.out.vals.small _ (List.getElem_mem _)
    have hnr:-1<=qZ o.vs[k]/\qZ o.vs[k]<=10000000:=by
     have h1:=zh5 o.vs[k];have h2:=zeb o.vs[k]
     have h3:qZ o.vs[k]=-1 \/ 0<=qZ o.vs[k]:=by
      unfold qZ;split
      ·rename_i h;exact Or.inr (zdb _ h)
      ·exact Or.inl rfl
     omega
    clear hf hr hvc0 c0 c2 c3 c4 c5 c6 c7 c8 c9;go_wp2_with fail
    refine(zeu o.vs[k] _ HVs.out).mono ?_;rintro e w2⟨rfl,rfl⟩
    by_cases h1:S.fs[k].kd=1
    ·have e1:(S.fs[k].kd == 1)=true:=by simpa using h1
     by_cases h2:S.fs[k].wg=res
     ·have e2:(S.fs[k].wg.toList == res.toList)=true:=by rw[beq_toList];simpa using h2
      have HFw:Hid (yN S.fs[k] o.vs[k] res=zaF o.vs[k]):=by unfold Hid yN;rw[if_pos ⟨h1,h2⟩]
      clear h1 h2
      rcases zh5 o.vs[k] with⟨hp,hd⟩|⟨hp,hd⟩
      ·have HD:=zjC hd
       have hpd:decide (0<qZ o.vs[k])=true:=by simpa using hp
       clear hd;go_wp2_with fail
       first
        | exact⟨⟨k+1,s+qZ o.vs[k],by omega,by go_num,by go_num,by rw[HSt.out,HFw.out,HQ.out.1,HD.out];omega,HQ.out.2⟩,zm hlt⟩
        | (go_quiet (fail);go_wp2_with fail;exact⟨⟨k+1,s+qZ o.vs[k],by omega,by go_num,by go_num,by rw[HSt.out,HFw.out,HQ.out.1,HD.out];omega,below_drewN HQ.out.2 _⟩,zm hlt⟩)
      ·have HD:=zjC hd
       have hpd:decide (0<qZ o.vs[k])=false:=by simpa using hp
       clear hd;go_wp2_with fail
       first
        | exact⟨⟨k+1,s,by omega,by go_num,rfl,by rw[HSt.out,HFw.out,HQ.out.1,HD.out];omega,HQ.out.2⟩,zm hlt⟩
        | (go_quiet (fail);go_wp2_with fail;exact⟨⟨k+1,s,by omega,by go_num,rfl,by rw[HSt.out,HFw.out,HQ.out.1,HD.out];omega,below_drewN HQ.out.2 _⟩,zm hlt⟩)
     ·have e2:(S.fs[k].wg.toList == res.toList)=false:=by rw[beq_toList];simpa using h2
      have HFw:Hid (yN S.fs[k] o.vs[k] res=0):=by unfold Hid yN;rw[if_neg (fun h=>h2 h.2)]
      clear h1 h2;go_wp2_with fail
      first
       | exact⟨⟨k+1,s,by omega,by go_num,rfl,by rw[HSt.out,HFw.out,HQ.out.1];omega,HQ.out.2⟩,zm hlt⟩
       | (go_quiet (fail);go_wp2_with fail;exact⟨⟨k+1,s,by omega,by go_num,rfl,by rw[HSt.out,HFw.out,HQ.out.1];omega,below_drewN HQ.out.2 _⟩,zm hlt⟩)
    ·have e1:(S.fs[k].kd == 1)=false:=by simpa using h1
     have HFw:Hid (yN S.fs[k] o.vs[k] res=0):=by unfold Hid yN;rw[if_neg (fun h=>h1 h.1)]
     clear h1;go_wp2_with fail
     first
      | exact⟨⟨k+1,s,by omega,by go_num,rfl,by rw[HSt.out,HFw.out,HQ.out.1];omega,HQ.out.2⟩,zm hlt⟩
      | (go_quiet (fail);go_wp2_with fail;exact⟨⟨k+1,s,by omega,by go_num,rfl,by rw[HSt.out,HFw.out,HQ.out.1];omega,below_drewN HQ.out.2 _⟩,zm hlt⟩)
   ·have e:k=S.fs.length:=by omega
    subst e;have HE:Hid (qV l.ss o res=s):=by unfold Hid;rw[HW.out,HQ.out.1]
    clear hlt hk;go_wp2_with fail
    go_ret;exact⟨zo HE.out.symm,HB1.out.trans (HQ.out.2.mono HB1.out.size)⟩)
theorem zjt (l:Lw)(la lb lc:Option Addr)(lca lcb lcc:Nat)(o:Ob)(oa oa':Option Addr)(ocap ocap':Nat)(res:ByteArray)(w:World)(hl:jh w l la lb lc)(ho:jK w o oa oa')(hlen:o.vs.length<=1048576) :
 Calls Tryz.prog 220 #[.agg (l.cells la lb lc lca lcb lcc),.agg #[.string o.kd,.string o.nm,.string o.tm,.slice oa o.vs.length ocap,.bool o.en,.slice oa' o.hs.length ocap',.int .i64 o.vr],.string res] w fun e w'=>e=.returned (.int .i64 (qV l.ss o res))/\Below w.heap.size w w':=by
 by_cases hc:zy l.ss o=true/\res.toList.isEmpty=false
 ·exact zje l la lb lc lca lcb lcc o oa oa' ocap ocap' res w hl ho hc.1 hc.2 hlen
 ·exact zkz l la lb lc lca lcb lcc o oa oa' ocap ocap' res w hl ho hc
theorem zj5 (l:Lw)(la lb lc:Option Addr)(lca lcb lcc:Nat)(o:Ob)(oa oa':Option Addr)(ocap ocap':Nat)(res:ByteArray)(w:World)(hl:jh w l la lb lc)(ho:jK w o oa oa')(hlen:o.vs.length<=1048576) :
 Calls Tryz.prog 140 #[.agg (l.cells la lb lc lca lcb lcc),.agg #[.string o.kd,.string o.nm,.string o.tm,.slice oa o.vs.length ocap,.bool o.en,.slice oa' o.hs.length ocap',.int .i64 o.vr],.string res] w fun e w'=>e=.returned (.int .i64 (qV l.ss o res))/\Below w.heap.size w w':=by
 by_cases hc:zy l.ss o=true/\res.toList.isEmpty=false
 ·exact zjE l la lb lc lca lcb lcc o oa oa' ocap ocap' res w hl ho hc.1 hc.2 hlen
 ·exact zkN l la lb lc lca lcb lcc o oa oa' ocap ocap' res w hl ho hc
theorem zcW (b:Bk)(a0 a1 a2 a3:Option Addr)(c0 c1 c2 c3:Nat)(w:World)(hl:jk w b a0 a1 a2 a3)(hf:b.Few) :
 Calls Tryz.prog 8 #[.agg (b.cells a0 a1 a2 a3 c0 c1 c2 c3)] w fun e w'=>∃lo g0 g1 g2 g3,e=.returned (.agg (b.cells (some ⟨g0,0,none⟩) (some ⟨g1,0,none⟩) (some ⟨g2,0,none⟩) (some ⟨g3,0,none⟩) b.os.length b.gs.length b.ls.length b.ps.length))/\w.heap.size<=lo/\znW lo w' b g0 g1 g2 g3/\Below w.heap.size w w':=by
 have HL:Hid (jk w b a0 a1 a2 a3):=hl;have HF:Hid b.Few:=hf;clear hl hf;unfold Bk.cells;go_enter Tryz.func8,Tryz.ntmps8;go_wp2_with fail
 have k0:=zpC w (.cells #[.int .i64 b.now,.int .i64 b.tick,.int .i64 b.given,.slice a0 b.os.length c0,.slice a1 b.gs.length c1,.slice a2 b.ls.length c2,.slice a3 b.ps.length c3] 32) (.cells #[.int .i64 0,.int .i64 0,.int .i64 0,.slice none 0 0,.slice none 0 0,.slice none 0 0,.slice none 0 0] 48) (.cells #[.int .i64 b.now,.int .i64 b.tick,.int .i64 b.given,.slice none 0 0,.slice none 0 0,.slice none 0 0,.slice none 0 0] 48);have hB0:=below3' w (.cells #[.int .i64 b.now,.int .i64 b.tick,.int .i64 b.given,.slice a0 b.os.length c0,.slice a1 b.gs.length c1,.slice a2 b.ls.length c2,.slice a3 b.ps.length c3] 32) (.cells #[.int .i64 0,.int .i64 0,.int .i64 0,.slice none 0 0,.slice none 0 0,.slice none 0 0,.slice none 0 0] 48) (.cells #[.int .i64 b.now,.int .i64 b.tick,.int .i64 b.given,.slice none 0 0,.slice none 0 0,.slice none 0 0,.slice none 0 0] 48);obtain⟨W0,hW0⟩:∃W0,W0=((w.alloc (.cells #[.int .i64 b.now,.int .i64 b.tick,.int .i64 b.given,.slice a0 b.os.length c0,.slice a1 b.gs.length c1,.slice a2 b.ls.length c2,.slice a3 b.ps.length c3] 32)).alloc (.cells #[.int .i64 0,.int .i64 0,.int .i64 0,.slice none 0 0,.slice none 0 0,.slice none 0 0,.slice none 0 0] 48)).alloc (.cells #[.int .i64 b.now,.int .i64 b.tick,.int .i64 b.given,.slice none 0 0,.slice none 0 0,.slice none 0 0,.slice none 0 0] 48):=⟨_,rfl⟩
 have hz0:w.heap.size+1+1<W0.heap.size:=by rw[hW0];simp
 rw[<- hW0]at k0 hB0 ⊢;clear hW0;have HLO:Hid (w.heap.size+1+1<W0.heap.size):=hz0;refine(zgS _ _ b.os _ (HL.out.os.mono hB0) HF.out.os.1 HF.out.os.2).mono ?_;rintro e w1⟨rfl,hown,hb⟩;obtain⟨g0,hp'⟩:∃g0,g0=W0.heap.size:=⟨_,rfl⟩
 have HN1:Hid (zan W0.heap.size w1 g0 b.os b.os.length):=by rw[hp'];exact hown
 have hX1:=(hb.block _ (by omega)).trans k0.1;have hR1:=(hb.block _ (by omega)).trans k0.2.1;have hO1:=(hb.block _ hz0).trans k0.2.2;have HZ1:Hid (W0.heap.size<=w1.heap.size):=hb.size;have HB1:Hid (Below w.heap.size w w1):=hB0.trans (hb.mono hB0.size);rw[<- hp'];clear hown hb k0 hB0 hz0 hp';have cO1:=fun j=>cell_of_block (o:=j) hO1
 have fO1:=fun j=>zh (o:=j) hO1
 have HX1':Hid ((w1.setCell ⟨w.heap.size+1+1,3,none⟩ (.slice (some ⟨g0,0,none⟩) b.os.length b.os.length)).heap[w.heap.size]?=some (.cells #[.int .i64 b.now,.int .i64 b.tick,.int .i64 b.given,.slice a0 b.os.length c0,.slice a1 b.gs.length c1,.slice a2 b.ls.length c2,.slice a3 b.ps.length c3] 32)):=(zM (by omega)).trans hX1;have HR1':Hid ((w1.setCell ⟨w.heap.size+1+1,3,none⟩ (.slice (some ⟨g0,0,none⟩) b.os.length b.os.length)).heap[w.heap.size+1]?=some (.cells #[.int .i64 0,.int .i64 0,.int .i64 0,.slice none 0 0,.slice none 0 0,.slice none 0 0,.slice none 0 0] 48)):=(zM (by omega)).trans hR1;have HO1':Hid ((w1.setCell ⟨w.heap.size+1+1,3,none⟩ (.slice (some ⟨g0,0,none⟩) b.os.length b.os.length)).heap[w.heap.size+1+1]?=some (.cells #[.int .i64 b.now,.int .i64 b.tick,.int .i64 b.given,.slice (some ⟨g0,0,none⟩) b.os.length b.os.length,.slice none 0 0,.slice none 0 0,.slice none 0 0] 48)):=zk hO1 _;have HAB1:Hid (yP W0.heap.size w1 (w1.setCell ⟨w.heap.size+1+1,3,none⟩ (.slice (some ⟨g0,0,none⟩) b.os.length b.os.length))):=yP.setCell HLO.out _;have HBB1:Hid (Below w.heap.size w (w1.setCell ⟨w.heap.size+1+1,3,none⟩ (.slice (some ⟨g0,0,none⟩) b.os.length b.os.length))):=HB1.out.setCell (by show w.heap.size<=w.heap.size+1+1;omega) _;have HZZ1:Hid (W0.heap.size<=(w1.setCell ⟨w.heap.size+1+1,3,none⟩ (.slice (some ⟨g0,0,none⟩) b.os.length b.os.length)).heap.size):=by unfold Hid;rw[World.size_setCell];exact HZ1.out
 clear hX1 hR1 hO1;have cX1:=fun j=>cell_of_block (o:=j) HX1'.out
 have cR1:=fun j=>cell_of_block (o:=j) HR1'.out
 have fR1:=fun j=>zh (o:=j) HR1'.out
 have cOO1:=fun j=>cell_of_block (o:=j) HO1'.out
 go_wp2_with fail
 refine(zhw _ _ b.gs _ (HL.out.gs.mono HBB1.out) HF.out.gs.1 HF.out.gs.2).mono ?_;rintro e w2⟨rfl,hown,hb⟩;obtain⟨g1,hp'⟩:∃g1,g1=(w1.setCell ⟨w.heap.size+1+1,3,none⟩ (.slice (some ⟨g0,0,none⟩) b.os.length b.os.length)).heap.size:=⟨_,rfl⟩
 have HN2:Hid (zad W0.heap.size w2 g1 b.gs b.gs.length):=by rw[hp'];exact hown.weaken HZZ1.out
 have HAA2:Hid (yP W0.heap.size w1 w2):=HAB1.out.trans (yP.below hb);have hX2:=(hb.block _ (lt_of_some HX1'.out)).trans HX1'.out;have hR2:=(hb.block _ (lt_of_some HR1'.out)).trans HR1'.out;have hO2:=(hb.block _ (lt_of_some HO1'.out)).trans HO1'.out;have HZ2:Hid (W0.heap.size<=w2.heap.size):=Nat.le_trans HZZ1.out hb.size;have HB2:Hid (Below w.heap.size w w2):=HBB1.out.trans (hb.mono HBB1.out.size);rw[<- hp'];clear hown hb hp' cX1 cR1 fR1 cOO1;have cO2:=fun j=>cell_of_block (o:=j) hO2
 have fO2:=fun j=>zh (o:=j) hO2
 have HX2':Hid ((w2.setCell ⟨w.heap.size+1+1,4,none⟩ (.slice (some ⟨g1,0,none⟩) b.gs.length b.gs.length)).heap[w.heap.size]?=some (.cells #[.int .i64 b.now,.int .i64 b.tick,.int .i64 b.given,.slice a0 b.os.length c0,.slice a1 b.gs.length c1,.slice a2 b.ls.length c2,.slice a3 b.ps.length c3] 32)):=(zM (by omega)).trans hX2;have HR2':Hid ((w2.setCell ⟨w.heap.size+1+1,4,none⟩ (.slice (some ⟨g1,0,none⟩) b.gs.length b.gs.length)).heap[w.heap.size+1]?=some (.cells #[.int .i64 0,.int .i64 0,.int .i64 0,.slice none 0 0,.slice none 0 0,.slice none 0 0,.slice none 0 0] 48)):=(zM (by omega)).trans hR2;have HO2':Hid ((w2.setCell ⟨w.heap.size+1+1,4,none⟩ (.slice (some ⟨g1,0,none⟩) b.gs.length b.gs.length)).heap[w.heap.size+1+1]?=some (.cells #[.int .i64 b.now,.int .i64 b.tick,.int .i64 b.given,.slice (some ⟨g0,0,none⟩) b.os.length b.os.length,.slice (some ⟨g1,0,none⟩) b.gs.length b.gs.length,.slice none 0 0,.slice none 0 0] 48)):=zk hO2 _;have HAB2:Hid (yP W0.heap.size w2 (w2.setCell ⟨w.heap.size+1+1,4,none⟩ (.slice (some ⟨g1,0,none⟩) b.gs.length b.gs.length))):=yP.setCell HLO.out _;have HBB2:Hid (Below w.heap.size w (w2.setCell ⟨w.heap.size+1+1,4,none⟩ (.slice (some ⟨g1,0,none⟩) b.gs.length b.gs.length))):=HB2.out.setCell (by show w.heap.size<=w.heap.size+1+1;omega) _;have HZZ2:Hid (W0.heap.size<=(w2.setCell ⟨w.heap.size+1+1,4,none⟩ (.slice (some ⟨g1,0,none⟩) b.gs.length b.gs.length)).heap.size):=by unfold Hid;rw[World.size_setCell];exact HZ2.out
 clear hX2 hR2 hO2;have cX2:=fun j=>cell_of_block (o:=j) HX2'.out
 have cR2:=fun j=>cell_of_block (o:=j) HR2'.out
 have fR2:=fun j=>zh (o:=j) HR2'.out
 have cOO2:=fun j=>cell_of_block (o:=j) HO2'.out
 go_wp2_with fail
 refine(zge _ _ b.ls _ (HL.out.ls.mono HBB2.out) HF.out.ls).mono ?_;rintro e w3⟨rfl,hown,hb⟩;obtain⟨g2,hp'⟩:∃g2,g2=(w2.setCell ⟨w.heap.size+1+1,4,none⟩ (.slice (some ⟨g1,0,none⟩) b.gs.length b.gs.length)).heap.size:=⟨_,rfl⟩
 have HN3:Hid (zah W0.heap.size w3 g2 b.ls b.ls.length):=by rw[hp'];exact hown.weaken HZZ2.out
 have HAA3:Hid (yP W0.heap.size w2 w3):=HAB2.out.trans (yP.below hb);have hX3:=(hb.block _ (lt_of_some HX2'.out)).trans HX2'.out;have hR3:=(hb.block _ (lt_of_some HR2'.out)).trans HR2'.out;have hO3:=(hb.block _ (lt_of_some HO2'.out)).trans HO2'.out;have HZ3:Hid (W0.heap.size<=w3.heap.size):=Nat.le_trans HZZ2.out hb.size;have HB3:Hid (Below w.heap.size w w3):=HBB2.out.trans (hb.mono HBB2.out.size);rw[<- hp'];clear hown hb hp' cX2 cR2 fR2 cOO2;have cO3:=fun j=>cell_of_block (o:=j) hO3
 have fO3:=fun j=>zh (o:=j) hO3
 have HX3':Hid ((w3.setCell ⟨w.heap.size+1+1,5,none⟩ (.slice (some ⟨g2,0,none⟩) b.ls.length b.ls.length)).heap[w.heap.size]?=some (.cells #[.int .i64 b.now,.int .i64 b.tick,.int .i64 b.given,.slice a0 b.os.length c0,.slice a1 b.gs.length c1,.slice a2 b.ls.length c2,.slice a3 b.ps.length c3] 32)):=(zM (by omega)).trans hX3;have HR3':Hid ((w3.setCell ⟨w.heap.size+1+1,5,none⟩ (.slice (some ⟨g2,0,none⟩) b.ls.length b.ls.length)).heap[w.heap.size+1]?=some (.cells #[.int .i64 0,.int .i64 0,.int .i64 0,.slice none 0 0,.slice none 0 0,.slice none 0 0,.slice none 0 0] 48)):=(zM (by omega)).trans hR3;have HO3':Hid ((w3.setCell ⟨w.heap.size+1+1,5,none⟩ (.slice (some ⟨g2,0,none⟩) b.ls.length b.ls.length)).heap[w.heap.size+1+1]?=some (.cells #[.int .i64 b.now,.int .i64 b.tick,.int .i64 b.given,.slice (some ⟨g0,0,none⟩) b.os.length b.os.length,.slice (some ⟨g1,0,none⟩) b.gs.length b.gs.length,.slice (some ⟨g2,0,none⟩) b.ls.length b.ls.length,.slice none 0 0] 48)):=zk hO3 _;have HAB3:Hid (yP W0.heap.size w3 (w3.setCell ⟨w.heap.size+1+1,5,none⟩ (.slice (some ⟨g2,0,none⟩) b.ls.length b.ls.length))):=yP.setCell HLO.out _;have HBB3:Hid (Below w.heap.size w (w3.setCell ⟨w.heap.size+1+1,5,none⟩ (.slice (some ⟨g2,0,none⟩) b.ls.length b.ls.length))):=HB3.out.setCell (by show w.heap.size<=w.heap.size+1+1;omega) _;have HZZ3:Hid (W0.heap.size<=(w3.setCell ⟨w.heap.size+1+1,5,none⟩ (.slice (some ⟨g2,0,none⟩) b.ls.length b.ls.length)).heap.size):=by unfold Hid;rw[World.size_setCell];exact HZ3.out
 clear hX3 hR3 hO3;have cX3:=fun j=>cell_of_block (o:=j) HX3'.out
 have cR3:=fun j=>cell_of_block (o:=j) HR3'.out
 have fR3:=fun j=>zh (o:=j) HR3'.out
 have cOO3:=fun j=>cell_of_block (o:=j) HO3'.out
 go_wp2_with fail
 refine(zhu _ _ b.ps _ (HL.out.ps.mono HBB3.out) HF.out.ps).mono ?_;rintro e w4⟨rfl,hown,hb⟩;obtain⟨g3,hp'⟩:∃g3,g3=(w3.setCell ⟨w.heap.size+1+1,5,none⟩ (.slice (some ⟨g2,0,none⟩) b.ls.length b.ls.length)).heap.size:=⟨_,rfl⟩
 have HN4:Hid (zae W0.heap.size w4 g3 b.ps b.ps.length):=by rw[hp'];exact hown.weaken HZZ3.out
 have HAA4:Hid (yP W0.heap.size w3 w4):=HAB3.out.trans (yP.below hb);have hX4:=(hb.block _ (lt_of_some HX3'.out)).trans HX3'.out;have hR4:=(hb.block _ (lt_of_some HR3'.out)).trans HR3'.out;have hO4:=(hb.block _ (lt_of_some HO3'.out)).trans HO3'.out;have HZ4:Hid (W0.heap.size<=w4.heap.size):=Nat.le_trans HZZ3.out hb.size;have HB4:Hid (Below w.heap.size w w4):=HBB3.out.trans (hb.mono HBB3.out.size);rw[<- hp'];clear hown hb hp' cX3 cR3 fR3 cOO3;have cO4:=fun j=>cell_of_block (o:=j) hO4
 have fO4:=fun j=>zh (o:=j) hO4
 have HX4':Hid ((w4.setCell ⟨w.heap.size+1+1,6,none⟩ (.slice (some ⟨g3,0,none⟩) b.ps.length b.ps.length)).heap[w.heap.size]?=some (.cells #[.int .i64 b.now,.int .i64 b.tick,.int .i64 b.given,.slice a0 b.os.length c0,.slice a1 b.gs.length c1,.slice a2 b.ls.length c2,.slice a3 b.ps.length c3] 32)):=(zM (by omega)).trans hX4;have HR4':Hid ((w4.setCell ⟨w.heap.size+1+1,6,none⟩ (.slice (some ⟨g3,0,none⟩) b.ps.length b.ps.length)).heap[w.heap.size+1]?=some (.cells #[.int .i64 0,.int .i64 0,.int .i64 0,.slice none 0 0,.slice none 0 0,.slice none 0 0,.slice none 0 0] 48)):=(zM (by omega)).trans hR4;have HO4':Hid ((w4.setCell ⟨w.heap.size+1+1,6,none⟩ (.slice (some ⟨g3,0,none⟩) b.ps.length b.ps.length)).heap[w.heap.size+1+1]?=some (.cells #[.int .i64 b.now,.int .i64 b.tick,.int .i64 b.given,.slice (some ⟨g0,0,none⟩) b.os.length b.os.length,.slice (some ⟨g1,0,none⟩) b.gs.length b.gs.length,.slice (some ⟨g2,0,none⟩) b.ls.length b.ls.length,.slice (some ⟨g3,0,none⟩) b.ps.length b.ps.length] 48)):=zk hO4 _;have HAB4:Hid (yP W0.heap.size w4 (w4.setCell ⟨w.heap.size+1+1,6,none⟩ (.slice (some ⟨g3,0,none⟩) b.ps.length b.ps.length))):=yP.setCell HLO.out _;have HBB4:Hid (Below w.heap.size w (w4.setCell ⟨w.heap.size+1+1,6,none⟩ (.slice (some ⟨g3,0,none⟩) b.ps.length b.ps.length))):=HB4.out.setCell (by show w.heap.size<=w.heap.size+1+1;omega) _;have HZZ4:Hid (W0.heap.size<=(w4.setCell ⟨w.heap.size+1+1,6,none⟩ (.slice (some ⟨g3,0,none⟩) b.ps.length b.ps.length)).heap.size):=by unfold Hid;rw[World.size_setCell];exact HZ4.out
 clear hX4 hR4 hO4;have cX4:=fun j=>cell_of_block (o:=j) HX4'.out
 have cR4:=fun j=>cell_of_block (o:=j) HR4'.out
 have fR4:=fun j=>zh (o:=j) HR4'.out
 have cOO4:=fun j=>cell_of_block (o:=j) HO4'.out
 go_wp2_with fail
 refine bodyPost_ret (v:=.agg #[.int .i64 b.now,.int .i64 b.tick,.int .i64 b.given,.slice (some ⟨g0,0,none⟩) b.os.length b.os.length,.slice (some ⟨g1,0,none⟩) b.gs.length b.gs.length,.slice (some ⟨g2,0,none⟩) b.ls.length b.ls.length,.slice (some ⟨g3,0,none⟩) b.ps.length b.ps.length]) (by simp[results,Tryz.results8,go_sem,cR4]) rfl ⟨W0.heap.size,g0,g1,g2,g3,rfl,by have:=HLO.out;omega,?_,?_⟩
 ·have hlt1:w.heap.size+1<W0.heap.size:=by have:=HLO.out;omega
  have hA4:∀v0 v1 v2 v3 v4 v5 v6,yP W0.heap.size w4 ((((((((w4.setCell ⟨w.heap.size+1+1,6,none⟩ (.slice (some ⟨g3,0,none⟩) b.ps.length b.ps.length)).setCell ⟨w.heap.size+1,0,none⟩ v0).setCell ⟨w.heap.size+1,1,none⟩ v1).setCell ⟨w.heap.size+1,2,none⟩ v2).setCell ⟨w.heap.size+1,3,none⟩ v3).setCell ⟨w.heap.size+1,4,none⟩ v4).setCell ⟨w.heap.size+1,5,none⟩ v5).setCell ⟨w.heap.size+1,6,none⟩ v6):=fun v0 v1 v2 v3 v4 v5 v6=>(((((((HAB4.out.trans (yP.setCell (p:=⟨w.heap.size+1,0,none⟩) hlt1 v0)).trans (yP.setCell (p:=⟨w.heap.size+1,1,none⟩) hlt1 v1)).trans (yP.setCell (p:=⟨w.heap.size+1,2,none⟩) hlt1 v2)).trans (yP.setCell (p:=⟨w.heap.size+1,3,none⟩) hlt1 v3)).trans (yP.setCell (p:=⟨w.heap.size+1,4,none⟩) hlt1 v4)).trans (yP.setCell (p:=⟨w.heap.size+1,5,none⟩) hlt1 v5)).trans (yP.setCell (p:=⟨w.heap.size+1,6,none⟩) hlt1 v6))
  exact⟨HN1.out.above (((HAA2.out.trans HAA3.out).trans HAA4.out).trans (hA4 _ _ _ _ _ _ _)),HN2.out.above ((HAA3.out.trans HAA4.out).trans (hA4 _ _ _ _ _ _ _)),HN3.out.above (HAA4.out.trans (hA4 _ _ _ _ _ _ _)),HN4.out.above (hA4 _ _ _ _ _ _ _)⟩
 ·exact((((((HBB4.out.setCell (Nat.le_succ _) _).setCell (Nat.le_succ _) _).setCell (Nat.le_succ _) _).setCell (Nat.le_succ _) _).setCell (Nat.le_succ _) _).setCell (Nat.le_succ _) _).setCell (Nat.le_succ _) _
theorem zeK (b:Bk)(a0 a1 a2 a3:Option Addr)(c0 c1 c2 c3:Nat)(w:World)(hl:jk w b a0 a1 a2 a3)(hf:b.Few) :
 Calls Tryz.prog 8 #[.agg (b.cells a0 a1 a2 a3 c0 c1 c2 c3)] w fun e w'=>∃a0' a1' a2' a3',e=.returned (.agg (b.cells a0' a1' a2' a3' b.os.length b.gs.length b.ls.length b.ps.length))/\jk w' b a0' a1' a2' a3'/\Below w.heap.size w w':=by
 refine(zcW b a0 a1 a2 a3 c0 c1 c2 c3 w hl hf).mono ?_;rintro e w'⟨lo,g0,g1,g2,g3,he,_,ho,hb⟩;exact⟨_,_,_,_,he,ho.at hl.small,hb⟩
theorem znz (a0:Option Addr)(cap0:Nat)(ss:List Shp)(o:Ob)(a a':Option Addr)(cap cap':Nat)(w:World)(hw:yU w a0 ss)(ho:jK w o a a') :
 Calls Tryz.prog 98 #[.slice a0 ss.length cap0,.agg #[.string o.kd,.string o.nm,.string o.tm,.slice a o.vs.length cap,.bool o.en,.slice a' o.hs.length cap',.int .i64 o.vr]] w fun e w'=>e=.returned (.tuple #[.int .i64 (yH ss o).1,.int .i64 (yH ss o).2])/\Below w.heap.size w w':=by
 have hlh:=ho.holds.len;unfold maxLen at hlh
 by_cases hc:zy ss o=true
 rotate_left
 ·have HCt:Hid (zy ss o=false):=by simpa[Hid] using hc
  have HR:Hid (yH ss o=(1,0)):=by unfold Hid yH;rw[if_neg];unfold whole;rw[HCt.out];simp
  clear hc;go_enter Tryz.func98,Tryz.ntmps98;go_wp2_with fail
  refine(zdg _ _ _ _ _ _ _ _ _ (hw.mono (bAl _ _)) (ho.mono (bAl _ _)) HCt.out).mono ?_;rintro e w1⟨v,rfl,hb1⟩;have hB1:Below w.heap.size w w1:=(bAl _ _).trans (hb1.mono (by simp));clear hb1;go_wp2_with fail
  go_ret2
  exact⟨by rw[HR.out];rfl,hB1⟩
 have HCt:=hid hc
 by_cases hn:zB o.nm=true
 rotate_left
 ·have hn':zB o.nm=false:=by simpa using hn
  have HNm:=hid hn';clear hn hc
  have HR:Hid (yH ss o=(1,0)):=by
   unfold Hid yH;rw[if_neg];unfold whole qH;simp[hn']
  go_enter Tryz.func98,Tryz.ntmps98;go_wp2_with fail
  refine(qY _ _ _ _ _ _ _ _ _ (hw.mono (bAl _ _)) (ho.mono (bAl _ _)) HCt.out).mono ?_;rintro e w1⟨fa,fcap,rfl,hfl0,hb1⟩;have hX1:=za (zl w _ _) (by simp) hb1;have hz1:w.heap.size<w1.heap.size:=by have:=hb1.size;simp at this;omega
  have hB1:Below w.heap.size w w1:=(bAl _ _).trans (hb1.mono (by simp));have hfl1:=hfl0.mono hb1;clear hb1 hfl0;go_wp2_with fail
  refine(zf HNm.out (zi _ _ ho.small.nm)).mono ?_;rintro e w2⟨rfl,rfl⟩;go_wp2_with fail
  go_ret2
  exact⟨by rw[HR.out];rfl,hB1⟩
 have HNm:=hid hn
 by_cases ht:zB o.tm=true
 rotate_left
 ·have ht':zB o.tm=false:=by simpa using ht
  have HTm:=hid ht';clear ht hc hn
  have HR:Hid (yH ss o=(1,0)):=by
   unfold Hid yH;rw[if_neg];unfold whole qH;simp[ht']
  go_enter Tryz.func98,Tryz.ntmps98;go_wp2_with fail
  refine(qY _ _ _ _ _ _ _ _ _ (hw.mono (bAl _ _)) (ho.mono (bAl _ _)) HCt.out).mono ?_;rintro e w1⟨fa,fcap,rfl,hfl0,hb1⟩;have hX1:=za (zl w _ _) (by simp) hb1;have hz1:w.heap.size<w1.heap.size:=by have:=hb1.size;simp at this;omega
  have hB1:Below w.heap.size w w1:=(bAl _ _).trans (hb1.mono (by simp));have hfl1:=hfl0.mono hb1;clear hb1 hfl0;go_wp2_with fail
  refine(zf HNm.out (zi _ _ ho.small.nm)).mono ?_;rintro e w2⟨rfl,rfl⟩;go_wp2_with fail
  refine(zf HTm.out (zi _ _ ho.small.tm)).mono ?_;rintro e w3⟨rfl,rfl⟩;go_wp2_with fail
  go_ret2
  exact⟨by rw[HR.out];rfl,hB1⟩
 have HTm:=hid ht
 by_cases h3:o.hs.length<=3
 rotate_left
 ·have h3I:(3:Int)<(o.hs.length:Int):=by omega
  clear ht hc hn
  have HR:Hid (yH ss o=(1,0)):=by
   unfold Hid yH;rw[if_neg];unfold whole q8;simp[show ¬o.hs.length<=3 by omega]
  go_enter Tryz.func98,Tryz.ntmps98;go_wp2_with fail
  refine(qY _ _ _ _ _ _ _ _ _ (hw.mono (bAl _ _)) (ho.mono (bAl _ _)) HCt.out).mono ?_;rintro e w1⟨fa,fcap,rfl,hfl0,hb1⟩;have hX1:=za (zl w _ _) (by simp) hb1;have hz1:w.heap.size<w1.heap.size:=by have:=hb1.size;simp at this;omega
  have hB1:Below w.heap.size w w1:=(bAl _ _).trans (hb1.mono (by simp));have hfl1:=hfl0.mono hb1;clear hb1 hfl0;go_wp2_with fail
  refine(zf HNm.out (zi _ _ ho.small.nm)).mono ?_;rintro e w2⟨rfl,rfl⟩;go_wp2_with fail
  refine(zf HTm.out (zi _ _ ho.small.tm)).mono ?_;rintro e w3⟨rfl,rfl⟩;go_wp2_with fail
  go_ret2
  exact⟨by rw[HR.out];rfl,hB1⟩
 have h3I:(o.hs.length:Int)<=3:=by omega
 by_cases ha:asc o.hs=true
 rotate_left
 ·have ha':asc o.hs=false:=by simpa using ha
  have HAsc:=hid ha';clear ht hc hn ha
  have HR:Hid (yH ss o=(1,0)):=by
   unfold Hid yH;rw[if_neg];unfold whole q8;simp[ha']
  go_enter Tryz.func98,Tryz.ntmps98;go_wp2_with fail
  refine(qY _ _ _ _ _ _ _ _ _ (hw.mono (bAl _ _)) (ho.mono (bAl _ _)) HCt.out).mono ?_;rintro e w1⟨fa,fcap,rfl,hfl0,hb1⟩;have hX1:=za (zl w _ _) (by simp) hb1;have hz1:w.heap.size<w1.heap.size:=by have:=hb1.size;simp at this;omega
  have hB1:Below w.heap.size w w1:=(bAl _ _).trans (hb1.mono (by simp));have hfl1:=hfl0.mono hb1;clear hb1 hfl0;go_wp2_with fail
  refine(zf HNm.out (zi _ _ ho.small.nm)).mono ?_;rintro e w2⟨rfl,rfl⟩;go_wp2_with fail
  refine(zf HTm.out (zi _ _ ho.small.tm)).mono ?_;rintro e w3⟨rfl,rfl⟩;go_wp2_with fail
  refine(zf HAsc.out (zaC _ _ _ _ (ho.holds.mono hB1))).mono ?_;rintro e w4⟨rfl,nd,rfl⟩;go_wp2_with fail
  go_ret2
  exact⟨by rw[HR.out];rfl,below_drewN hB1 _⟩
 have HAsc:=hid ha
 by_cases hv:0<=o.vr/\o.vr<=1000000
 rotate_left
 ·have HV:=hid hv
  have HR:Hid (yH ss o=(1,0)):=by
   unfold Hid yH;rw[if_neg];unfold whole qz;intro h;simp only[Bool.and_eq_true,decide_eq_true_eq]at h;exact hv h.1.2
  clear ht hc hn ha hv;go_enter Tryz.func98,Tryz.ntmps98;go_wp2_with fail
  refine(qY _ _ _ _ _ _ _ _ _ (hw.mono (bAl _ _)) (ho.mono (bAl _ _)) HCt.out).mono ?_;rintro e w1⟨fa,fcap,rfl,hfl0,hb1⟩;have hX1:=za (zl w _ _) (by simp) hb1;have hz1:w.heap.size<w1.heap.size:=by have:=hb1.size;simp at this;omega
  have hB1:Below w.heap.size w w1:=(bAl _ _).trans (hb1.mono (by simp));have hfl1:=hfl0.mono hb1;clear hb1 hfl0;go_wp2_with fail
  refine(zf HNm.out (zi _ _ ho.small.nm)).mono ?_;rintro e w2⟨rfl,rfl⟩;go_wp2_with fail
  refine(zf HTm.out (zi _ _ ho.small.tm)).mono ?_;rintro e w3⟨rfl,rfl⟩;go_wp2_with fail
  refine(zf HAsc.out (zaC _ _ _ _ (ho.holds.mono hB1))).mono ?_;rintro e w4⟨rfl,nd,rfl⟩;go_wp2_with fail
  refine(zdc _ _ _ _ (by have:=HV.out;omega)).mono ?_;rintro e w5⟨rfl,rfl⟩;go_wp2_with fail
  go_ret2
  exact⟨by rw[HR.out];rfl,below_drewN hB1 _⟩
 obtain⟨hv0,hv1⟩:=hv
 have HR:Hid (yH ss o=jN (shapeOf ss o.kd).fs o.vs):=by
  unfold Hid yH;rw[if_pos];unfold whole qH q8 qz;simp[hc,hn,ht,h3,ha,hv0,hv1]
 have HLn:Hid (o.vs.length=(shapeOf ss o.kd).fs.length):=by
  unfold zy at hc;simp only[Bool.and_eq_true,decide_eq_true_eq]at hc;exact hc.2
 clear hc hn ht ha;go_enter Tryz.func98,Tryz.ntmps98;go_wp2_with fail
 refine(qY _ _ _ _ _ _ _ _ _ (hw.mono (bAl _ _)) (ho.mono (bAl _ _)) HCt.out).mono ?_;rintro e w1⟨fa,fcap,rfl,hfl0,hb1⟩;have hX1:=za (zl w _ _) (by simp) hb1;have hz1:w.heap.size<w1.heap.size:=by have:=hb1.size;simp at this;omega
 have hB1:Below w.heap.size w w1:=(bAl _ _).trans (hb1.mono (by simp));have hfl1:=hfl0.mono hb1;clear hb1 hfl0;go_wp2_with fail
 refine(zf HNm.out (zi _ _ ho.small.nm)).mono ?_;rintro e w2⟨rfl,rfl⟩;go_wp2_with fail
 refine(zf HTm.out (zi _ _ ho.small.tm)).mono ?_;rintro e w3⟨rfl,rfl⟩;go_wp2_with fail
 refine(zf HAsc.out (zaC _ _ _ _ (ho.holds.mono hB1))).mono ?_;rintro e w4⟨rfl,nd,rfl⟩;go_wp2_with fail
 refine(zbf _ _ _ _ hv0 hv1).mono ?_;rintro e w5⟨rfl,rfl⟩
 generalize hfs:(shapeOf ss o.kd).fs=fs at *
 have hlen:=hfl1.len;unfold maxLen at hlen;go_wp2_with fail
 go_loopw [8] (fun i wr=>∃k:Nat,k<=fs.length/\i=.int .i64 k/\up (zbg fs o.vs) k=true/\Below w3.heap.size w3 wr) (fun i _=>fs.length-(intOf i).toNat)
 case atStart=>exact⟨0,Nat.zero_le _,rfl,rfl,below_drewN (bRf _ _) _⟩
 case round=>
  obtain⟨k,hk,rfl,hup,hBr⟩:=hrel;have hszr:=hBr.size;have hB:Below w.heap.size w wr:=hB1.trans (hBr.mono (by omega))
  by_cases hlt:k<fs.length
  ·have hXr:=za hX1 hz1 hBr
   obtain⟨b,off,rfl,hb,hr⟩:=hfl1.rows (by rintro rfl;simp at hlt);obtain⟨wa,wcap,hf0⟩:=hr k hlt;have hf:=hf0.mono hb hBr;obtain⟨c0,c1,c2,c3,c4,c5,c6,c7,c8,c9,c10⟩:=hf.load;have hst:=hf.strs;have hltv:k<o.vs.length:=by rw[HLn.out];exact hlt
   obtain⟨vb,voff,rfl,hvb,hvc⟩:=ho.vals.cells (by intro h;rw[h]at hltv;simp at hltv);have hcv:=(hB.cell (p:=⟨vb,voff+k,none⟩) hvb).trans (hvc k hltv);have hvs:=ho.vals.small _ (List.getElem_mem hltv);have hltI:(k:Int)<(fs.length:Int):=by omega
   have hltV:(k:Int)<(o.vs.length:Int):=by omega
   have HFX:=hid (zjq hlt hltv)
   have HS:Hid (zaH fs[k] o.vs[k]=0->up (zbg fs o.vs) (k+1)=true):=fun h=>by
    rw[q9,hup];unfold zbg;rw[HFX.out,h];rfl
   have HN:Hid (∀n:Int,n≠0->zaH fs[k] o.vs[k]=n->yH ss o=(n,(k:Int))):=fun n hn0 h=>by
    rw[HR.out,zls hlt hup (by unfold zbg;rw[HFX.out,h];simp[hn0]),HFX.out,h]
   clear hX1 hr hf0 hf hup
   by_cases he:o.vs[k].size=0
   ·have hne:o.vs[k].toList.isEmpty=true:=by rw[zq];simp[he]
    have HE:=hid he;clear he
    by_cases hmu:fs[k].mu=true
    ·have HM:=hid hmu
     go_wp2_with fail
     go_ret2
     have hv:=HN.out 2 (by decide) (by unfold zaH;rw[if_pos HE.out,if_pos HM.out]);exact⟨by rw[hv];rfl,hB⟩
    ·have hmu':fs[k].mu=false:=by simpa using hmu
     have HM:=hid hmu';clear hmu;go_wp2_with fail
     exact⟨⟨k+1,by omega,by go_num,HS.out (by unfold zaH;rw[if_pos HE.out,HM.out];rfl),hBr⟩,by simp[intOf];omega⟩
   ·have hne:o.vs[k].toList.isEmpty=false:=by rw[zq];simp[he]
    have HE:Hid (¬o.vs[k].size=0):=he;clear he
    by_cases hfit:fits fs[k].kd fs[k].ls fs[k].ms fs[k].ws o.vs[k]=true
    all_goals
     first
      | (have HFT:Hid (fits fs[k].kd fs[k].ls fs[k].ms fs[k].ws o.vs[k]=true):=hfit)
      | (have HFT:Hid (fits fs[k].kd fs[k].ls fs[k].ms fs[k].ws o.vs[k]=false):=by simpa[Hid] using hfit)
     clear hfit;go_wp2_with fail
     have hbx:Below wr.heap.size wr wr.drew:=(bRf _ _).drew
     go_region_with (go_at_call 134;refine(zf HFT.out (yS _ _ _ _ _ _ _ _ _ _ _ _ _ _ _ hvs (by exact hst.mono hbx))).mono ?_;rintro e w3⟨rfl,hb3⟩)
     all_goals go_wp2_with fail
    all_goals have hB3:Below wr.heap.size wr w3:=hbx.trans hb3
    all_goals first
     | (have hft:fits fs[k].kd fs[k].ls fs[k].ms fs[k].ws o.vs[k]=true:=HFT.out
        exact⟨⟨k+1,by omega,by go_num,HS.out (by unfold zaH;rw[if_neg HE.out];unfold ze1;rw[hft];rfl),hBr.trans (hB3.mono hszr)⟩,by simp[intOf];omega⟩)
     | (have hft:fits fs[k].kd fs[k].ls fs[k].ms fs[k].ws o.vs[k]=false:=HFT.out
        go_ret2
        have hv:=HN.out 3 (by decide) (by unfold zaH;rw[if_neg HE.out];unfold ze1;rw[hft];rfl);exact⟨by rw[hv];rfl,hB.trans (hB3.mono (by omega))⟩)
  ·have HF:Hid (yH ss o=(0,0)):=by
    have e:k=fs.length:=by omega
    subst e;rw[HR.out];exact zh0 hup
   clear hup;go_wp2_with fail
   go_ret2
   exact⟨by rw[HF.out];rfl,hB⟩
end Go.Proofs.YtnapmdofidgliaaGreat
