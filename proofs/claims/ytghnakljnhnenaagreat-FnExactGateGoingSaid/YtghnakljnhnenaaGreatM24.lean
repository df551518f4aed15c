import Derived.Test.YtghnakljnhnenaaGreatM23
set_option maxHeartbeats 4000000
namespace Go.Proofs.YtghnakljnhnenaaGreat
open Go.RowKit
set_option maxRecDepth 20000 in
theorem znC (o:Ob) (s:Shp) (ms:List Mnd) (fa ma ova oha:Option Addr) (fcap mcap cap cap':Nat) (w:World) (hf:zP w fa s.fs) (hm:yY w ma ms) (ho:qB w o ova oha) (hA:zmf ova o.vs) (hA':zmf oha o.hs) (hl:o.vs.length<=1048576) (hl':o.hs.length<=1048576) (hc:o.vs.length=s.fs.length)
 (hml:ms.length<=1048576) (hn:s.fs.length<=6) (hrd:∀ q,q < s.fs.length->∀ x ∈ Gate.zY s ms q,0<=x/\x < s.fs.length) (hwk:(Gate.zI (Gate.zl s ms) s.fs.length).1=true) :
 Calls Tryz.prog 214 #[.agg #[.string s.kd,.slice fa s.fs.length fcap],.slice ma ms.length mcap,.agg #[.string o.kd,.string o.nm,.string o.tm,.slice ova o.vs.length cap,.bool o.en,.slice oha o.hs.length cap',.int .i64 o.vr]] w
  fun e w'=>∃ a dap a' dap' m,e = .returned (.agg #[.string o.kd,.string o.nm,.string o.tm,.slice a o.vs.length dap,.bool o.en,.slice a' o.hs.length dap',.int .i64 o.vr])/\zw w.heap.size w' a (Gate.yg (Gate.decided s ms) (Gate.zI (Gate.zl s ms) s.fs.length).2.row o.vs)/\(∀ g,a=some g->g.block < m)/\w.heap.size<=m/\zw m w' a' o.hs/\Below w.heap.size w w':=by
 have HH:Hid (zP w fa s.fs/\yY w ma ms/\o.vs.length=s.fs.length/\ms.length<=1048576/\s.fs.length<=6/\(∀ q,q < s.fs.length->∀ x ∈ Gate.zY s ms q,0<=x/\x < s.fs.length)/\(∀ x ∈ o.vs,x.size<=maxLen)):=⟨hf,hm,hc,hml,hn,hrd,ho.vals.small⟩
 have HWK:Hid ((Gate.zI (Gate.zl s ms) s.fs.length).1=true):=hwk;clear hf hm hc hml hrd hwk;go_enter Tryz.func214,Tryz.ntmps214;go_wp2_with fail
 refine (zja o ova oha cap cap' _ (ho.mono (jH _ _ _ _)) hA hA' hl hl').mono ?_;rintro e w1 ⟨a,dap,a',dap',m,rfl,ht,hmm,hsm,ht',hb1⟩;have hX1:∀ j,w1.cell? ⟨w.heap.size,j,none⟩=(#[.string s.kd,.slice fa s.fs.length fcap]:Array Value)[j]?:=fun j=>cell_of_block ((hb1.block w.heap.size (by simp;omega)).trans (zcd _ _ _ _))
 have HS1:Hid (w1.heap[w.heap.size]?=some (.cells #[.string s.kd,.slice fa s.fs.length fcap] 123)):=(hb1.block w.heap.size (by simp;omega)).trans (zcd _ _ _ _);have HR1:Hid (w1.heap[w.heap.size+1+1]?=some (.cells #[.string ByteArray.empty,.string ByteArray.empty,.string ByteArray.empty,.slice none 0 0,.bool false,.slice none 0 0,.int .i64 0] 119)):=(hb1.block (w.heap.size+1+1) (by simp)).trans (zcg _ _ _ _);have HB1:Hid (Below w.heap.size w w1):=(jH _ _ _ _).trans (hb1.mono (by simp;omega));have hz1:w.heap.size+1+1 < w1.heap.size:=by have:=hb1.size;simp at this;omega
 have HT:Hid (zw (w.heap.size+1+1+1) w1 a o.vs/\(∀ g,a=some g->g.block < m)/\w.heap.size+1+1+1<=m/\zw m w1 a' o.hs):=by
  simp only [World.size_alloc] at ht hsm;exact ⟨ht,hmm,hsm,ht'⟩
 have hz0:w.heap.size < w1.heap.size:=by omega
 clear ht hmm hsm ht' hb1 ho;have hba:=(bRf w1.heap.size w1).alloc (Nat.le_refl _) (.cells #[.string o.kd,.string o.nm,.string o.tm,.slice a o.vs.length dap,.bool o.en,.slice a' o.hs.length dap',.int .i64 o.vr] 119);have HBA:Hid (Below w.heap.size w (w1.alloc (.cells #[.string o.kd,.string o.nm,.string o.tm,.slice a o.vs.length dap,.bool o.en,.slice a' o.hs.length dap',.int .i64 o.vr] 119))):=HB1.out.trans (hba.mono HB1.out.size);have HBB:Hid (Below w1.heap.size w1 (w1.alloc (.cells #[.string o.kd,.string o.nm,.string o.tm,.slice a o.vs.length dap,.bool o.en,.slice a' o.hs.length dap',.int .i64 o.vr] 119))):=hba;clear hba;go_wp2_with fail
 have h:=zhC s ms ma fa mcap fcap _ (HH.out.2.1.mono HBA.out) (HH.out.1.mono HBA.out) HH.out.2.2.2.1 HH.out.2.2.2.2.1 HH.out.2.2.2.2.2.1;rw [HWK.out] at h;refine h.mono ?_;rintro e w2 ⟨rv,rfl,hb2,hrow⟩;have hrow:=hrow rfl;obtain ⟨ra,rcap,rfl⟩:=yV hrow;have HBC:Hid (Below w1.heap.size w1 w2):=HBB.out.trans (hb2.mono HBB.out.size)
 have HR2:Hid (w2.ownsRow (w1.heap.size+1) 3 1 (.slice ra (Gate.zI (Gate.zl s ms) s.fs.length).2.row.length rcap) (Gate.zI (Gate.zl s ms) s.fs.length).2.row.length (zc8 (Gate.zI (Gate.zl s ms) s.fs.length).2.row)):=by
  have:=hrow;rw [World.size_alloc] at this;exact this
 have HU2:Hid (w2.heap[w1.heap.size]?=some (.cells #[.string o.kd,.string o.nm,.string o.tm,.slice a o.vs.length dap,.bool o.en,.slice a' o.hs.length dap',.int .i64 o.vr] 119)):=(hb2.block _ (by simp)).trans (alloc_at _ _)
 have HTP:Hid (Gate.zjU (Gate.zl s ms) s.fs.length (Gate.zI (Gate.zl s ms) s.fs.length).2.row):=Gate.zdO (fun p hp q hq=>by
  unfold Gate.zl at hq;obtain ⟨x,hx,rfl⟩:=List.mem_map.1 hq
  have:=HH.out.2.2.2.2.2.1 p hp x hx
  omega) HWK.out
 have hz2:w1.heap.size < w2.heap.size:=(gES HU2.out).1
 have HRL:Hid ((Gate.zI (Gate.zl s ms) s.fs.length).2.row.length<=6):=by
  have h1:=Gate.zbA (Gate.zI (Gate.zl s ms) s.fs.length).2.row (List.range s.fs.length) HTP.out.nodup (fun x hx=>List.mem_range.2 ((HTP.out.mem x).1 hx));have h2:=HH.out.2.2.2.2.1;rw [List.length_range] at h1
  show _<=_;omega
 clear h hrow hb2 hX1;go_wp2_with fail
 go_loopw [22] (fun iv wr=>∃ j:Nat,j<=(Gate.zI (Gate.zl s ms) s.fs.length).2.row.length/\iv = .int .i64 j/\zw (w.heap.size+1+1+1) wr a (Gate.yg (Gate.decided s ms) ((Gate.zI (Gate.zl s ms) s.fs.length).2.row.take j) o.vs)/\zw m wr a' o.hs/\wr.heap[w.heap.size+1+1]?=some (.cells #[.string ByteArray.empty,.string ByteArray.empty,.string ByteArray.empty,.slice none 0 0,.bool false,.slice none 0 0,.int .i64 0] 119)/\wr.heap[w1.heap.size]?=some (.cells #[.string o.kd,.string o.nm,.string o.tm,.slice a o.vs.length dap,.bool o.en,.slice a' o.hs.length dap',.int .i64 o.vr] 119)/\wr.heap[w.heap.size]?=some (.cells #[.string s.kd,.slice fa s.fs.length fcap] 123)/\wr.ownsRow (w1.heap.size+1) 3 1 (.slice ra (Gate.zI (Gate.zl s ms) s.fs.length).2.row.length rcap) (Gate.zI (Gate.zl s ms) s.fs.length).2.row.length (zc8 (Gate.zI (Gate.zl s ms) s.fs.length).2.row)/\Below w.heap.size w wr) (fun iv _=>(Gate.zI (Gate.zl s ms) s.fs.length).2.row.length - (intOf iv).toNat)
 case atStart=>exact ⟨0,Nat.zero_le _,rfl,HT.out.1.mono HBC.out,HT.out.2.2.2.mono HBC.out,(HBC.out.block _ hz1).trans HR1.out,HU2.out,(HBC.out.block _ hz0).trans HS1.out,HR2.out,HB1.out.trans (HBC.out.mono HB1.out.size)⟩
 case round =>
  obtain ⟨j,hj,rfl,hinv⟩:=hrel;have HI:Hid (zw (w.heap.size+1+1+1) wr a (Gate.yg (Gate.decided s ms) ((Gate.zI (Gate.zl s ms) s.fs.length).2.row.take j) o.vs)/\zw m wr a' o.hs/\wr.heap[w.heap.size+1+1]?=some (.cells #[.string ByteArray.empty,.string ByteArray.empty,.string ByteArray.empty,.slice none 0 0,.bool false,.slice none 0 0,.int .i64 0] 119)/\wr.heap[w1.heap.size]?=some (.cells #[.string o.kd,.string o.nm,.string o.tm,.slice a o.vs.length dap,.bool o.en,.slice a' o.hs.length dap',.int .i64 o.vr] 119)/\wr.heap[w.heap.size]?=some (.cells #[.string s.kd,.slice fa s.fs.length fcap] 123)/\wr.ownsRow (w1.heap.size+1) 3 1 (.slice ra (Gate.zI (Gate.zl s ms) s.fs.length).2.row.length rcap) (Gate.zI (Gate.zl s ms) s.fs.length).2.row.length (zc8 (Gate.zI (Gate.zl s ms) s.fs.length).2.row)/\Below w.heap.size w wr):=hinv;clear hinv
  by_cases hlt:j < (Gate.zI (Gate.zl s ms) s.fs.length).2.row.length
  ·have hltI:(j:Int) < ((Gate.zI (Gate.zl s ms) s.fs.length).2.row.length:Int):=by omega
   have hqn:(Gate.zI (Gate.zl s ms) s.fs.length).2.row[j] < s.fs.length:=(HTP.out.mem _).1 (List.getElem_mem hlt)
   obtain ⟨rg,rfl,hrc⟩:∃ rg,ra=some ⟨rg,0,none⟩/\wr.cell? ⟨rg,j,none⟩=some (.int .i64 (((Gate.zI (Gate.zl s ms) s.fs.length).2.row[j]:Nat):Int)):=by
    have hrow:=HI.out.2.2.2.2.2.1;obtain ⟨_,⟨h0,h1⟩ | ⟨g,cp,cur,h0,h1⟩⟩:=id hrow
    ·rw [h1] at hlt;exact absurd hlt (by omega)
    ·cases h0
     refine ⟨g,rfl,?_⟩;rw [hrow.cellAt j (by omega)]
     simp [zc8,hlt]
   have HTS:Hid ((Gate.yg (Gate.decided s ms) ((Gate.zI (Gate.zl s ms) s.fs.length).2.row.take (j+1)) o.vs)=(Gate.yg (Gate.decided s ms) ((Gate.zI (Gate.zl s ms) s.fs.length).2.row.take j) o.vs).set (Gate.zI (Gate.zl s ms) s.fs.length).2.row[j] (Gate.decided s ms (Gate.zI (Gate.zl s ms) s.fs.length).2.row[j] (Gate.yg (Gate.decided s ms) ((Gate.zI (Gate.zl s ms) s.fs.length).2.row.take j) o.vs))):=by
    unfold Hid;rw [tSe hlt,Gate.zcD]
    rfl
   have HTL:Hid ((Gate.yg (Gate.decided s ms) ((Gate.zI (Gate.zl s ms) s.fs.length).2.row.take j) o.vs).length=o.vs.length):=Gate.jQ _ _ _;have HSML:Hid (∀ x ∈ (Gate.yg (Gate.decided s ms) ((Gate.zI (Gate.zl s ms) s.fs.length).2.row.take j) o.vs),x.size<=maxLen):=Gate.zb1 HH.out.2.1.small _ _ HH.out.2.2.2.2.2.2;have hvl:0 < o.vs.length:=by rw [HH.out.2.2.1];omega
   obtain ⟨g,C,hga,hgl,hgh,hgc⟩:∃ g C,a=some ⟨g,0,none⟩/\w.heap.size+1+1+1<=g/\wr.heap[g]?=some (.cells C 9)/\∀ i (h:i < (Gate.yg (Gate.decided s ms) ((Gate.zI (Gate.zl s ms) s.fs.length).2.row.take j) o.vs).length),C[i]?=some (.string (Gate.yg (Gate.decided s ms) ((Gate.zI (Gate.zl s ms) s.fs.length).2.row.take j) o.vs)[i]):=by
    rcases HI.out.1 with ⟨_,h0⟩ | h0
    ·have:=HTL.out;rw [h0] at this;simp at this;omega
    ·exact h0
   have hgm:g < m:=HT.out.2.1 _ hga;have hgw1:g < w1.heap.size:=HT.out.1.lt _ hga;subst hga
   revert hqn hrc HTS
   generalize (Gate.zI (Gate.zl s ms) s.fs.length).2.row[j]=q
   intro hqn hrc HTS;have hqv:q < o.vs.length:=by rw [HH.out.2.2.1];exact hqn
   have hqI:(q:Int) < (o.vs.length:Int):=by omega
   have HCS:Hid (C.size=C.size/\q < C.size):=by
    refine ⟨rfl,?_⟩
    rcases Nat.lt_or_ge q C.size with h1 | h1
    ·exact h1
    ·have h2:=hgc q (by rw [HTL.out];exact hqv)
     rw [Array.getElem?_eq_none h1] at h2;cases h2
   have hOc:=zbv HI.out.2.2.2.1;have hSc:=zbv HI.out.2.2.2.2.1;have hzw:w1.heap.size < wr.heap.size:=(gES HI.out.2.2.2.1).1;have HST:Hid (zD wr (some ⟨g,0,none⟩) (Gate.yg (Gate.decided s ms) ((Gate.zI (Gate.zl s ms) s.fs.length).2.row.take j) o.vs)):=HI.out.1.at (by rw [HTL.out];unfold maxLen;omega) HSML.out;have HBD:Hid (Below w.heap.size w wr.drew/\Below wr.heap.size wr wr.drew):=⟨HI.out.2.2.2.2.2.2.drew,(bRf _ _).drew⟩
   have HGH:Hid (wr.heap[g]?=some (.cells C 9)):=hgh;clear hgh hgc;go_wp2_with fail
   clear hrc;have hbd:=HBD.out.2;have hOd:=za hOc hzw hbd;have hSd:=za hSc (by omega) hbd
   have HDV:Hid (∀ W,Below wr.heap.size wr W->Calls Tryz.prog 224 #[.agg #[.string s.kd,.slice fa s.fs.length fcap],.slice ma ms.length mcap,.slice (some ⟨g,0,none⟩) o.vs.length dap,.int .i64 (q:Int)] W fun e w'=>e = .returned (.string (Gate.decided s ms q (Gate.yg (Gate.decided s ms) ((Gate.zI (Gate.zl s ms) s.fs.length).2.row.take j) o.vs)))/\Below W.heap.size W w'):=by
    intro W hb;have hbw:=HI.out.2.2.2.2.2.2.trans (hb.mono HI.out.2.2.2.2.2.2.size);have h:=zhi s ms (Gate.yg (Gate.decided s ms) ((Gate.zI (Gate.zl s ms) s.fs.length).2.row.take j) o.vs) q fa ma (some ⟨g,0,none⟩) fcap mcap dap W (HH.out.1.mono hbw) (HH.out.2.1.mono hbw) (HST.out.mono hb) (by rw [HTL.out];exact HH.out.2.2.1) hqn;rw [HTL.out] at h;exact h
   go_region_held3 (fun w'=>(∀ k,w'.cell? ⟨w1.heap.size,k,none⟩=(#[.string o.kd,.string o.nm,.string o.tm,.slice (some ⟨g,0,none⟩) o.vs.length dap,.bool o.en,.slice a' o.hs.length dap',.int .i64 o.vr]:Array Value)[k]?)/\∀ k,w'.cell? ⟨w.heap.size,k,none⟩=(#[.string s.kd,.slice fa s.fs.length fcap]:Array Value)[k]?) (first | (refine ⟨fun k=>?_,fun k=>?_⟩;rw [hOd];rw [hSd]) | (refine ⟨fun k=>?_,fun k=>?_⟩;rw [hqo];rw [hqs])) (first
    | (go_at_call 224;refine (HDV.out _ hbd).mono ?_;rintro e w5 ⟨rfl,hb5⟩;have hbd:=hbd.trans (hb5.mono hbd.size);have hOd:=za hOc hzw hbd;have hSd:=za hSc (by omega) hbd;have hg5:=(hbd.block g (by omega)).trans HGH.out;have hcg:w5.cell? ⟨g,q,none⟩=some (C[q]'HCS.out.2):=(by rw [cell_of_block hg5];exact Array.getElem?_eq_getElem HCS.out.2);have hfg:w5.frozen? ⟨g,q,none⟩=false:=zi hg5;have hqo:∀ k,(w5.setCell ⟨g,q,none⟩ (.string (Gate.decided s ms q (Gate.yg (Gate.decided s ms) ((Gate.zI (Gate.zl s ms) s.fs.length).2.row.take j) o.vs)))).cell? ⟨w1.heap.size,k,none⟩=(#[.string o.kd,.string o.nm,.string o.tm,.slice (some ⟨g,0,none⟩) o.vs.length dap,.bool o.en,.slice a' o.hs.length dap',.int .i64 o.vr]:Array Value)[k]?:=(fun k=>(yu (by show w1.heap.size ≠ g;omega)).trans (hOd k));have hqs:∀ k,(w5.setCell ⟨g,q,none⟩ (.string (Gate.decided s ms q (Gate.yg (Gate.decided s ms) ((Gate.zI (Gate.zl s ms) s.fs.length).2.row.take j) o.vs)))).cell? ⟨w.heap.size,k,none⟩=(#[.string s.kd,.slice fa s.fs.length fcap]:Array Value)[k]?:=(fun k=>(yu (by show w.heap.size ≠ g;omega)).trans (hSd k));have HBE:Hid (Below wr.heap.size wr w5):=hbd;clear hb5 hg5))
   go_wp2_with fail
   obtain ⟨i1,i2,i3,i4,i5,i6,i7⟩:=HI.out;have hE:=HBE.out;refine ⟨⟨j+1,by omega,by rw [wrap_one (by have:=HRL.out;omega)],?_,(i2.mono hE).setCell _ hgm _,(Below.heap_setCell _ _ _ _ (by show w.heap.size+1+1 ≠ g;omega)).trans ((hE.block _ (by omega)).trans i3),(Below.heap_setCell _ _ _ _ (by show w1.heap.size ≠ g;omega)).trans ((hE.block _ hzw).trans i4),(Below.heap_setCell _ _ _ _ (by show w.heap.size ≠ g;omega)).trans ((hE.block _ (by omega)).trans i5),?_,(i7.trans (hE.mono i7.size)).setCell (p:=⟨g,q,none⟩) (by show w.heap.size<=g;omega) _⟩,jr hlt (by have:=HRL.out;omega)⟩
   ·rw [HTS.out];exact (i1.mono hE).set q _
   ·refine zao (yO i6 hE) (fun g' hg'=>Below.heap_setCell _ _ _ _ ?_)
    have:=(i6.lt g' hg').1
    show g' ≠ g
    omega
  ·have e:j=(Gate.zI (Gate.zl s ms) s.fs.length).2.row.length:=by omega
   obtain ⟨i1,i2,i3,i4,i5,i6,i7⟩:=HI.out;rw [e,tOl (Nat.le_refl _)] at i1;have hRc:∀ k,wr.cell? ⟨w.heap.size+1+1,k,none⟩=(#[.string ByteArray.empty,.string ByteArray.empty,.string ByteArray.empty,.slice none 0 0,.bool false,.slice none 0 0,.int .i64 0]:Array Value)[k]?:=fun k=>cell_of_block i3
   have hRf:∀ k,wr.frozen? ⟨w.heap.size+1+1,k,none⟩=false:=fun k=>zi i3
   have hOc:=zbv i4;have HX:Hid (zw (w.heap.size+1+1+1) wr a (Gate.yg (Gate.decided s ms) (Gate.zI (Gate.zl s ms) s.fs.length).2.row o.vs)/\zw m wr a' o.hs/\Below w.heap.size w wr):=⟨i1,i2,i7⟩
   clear i1 i2 i3 i4 i5 i6 i7 HI;subst e;go_wp2_with fail
   refine bodyPost_ret (v:=(.agg #[.string o.kd,.string o.nm,.string o.tm,.slice a o.vs.length dap,.bool o.en,.slice a' o.hs.length dap',.int .i64 o.vr])) (by simp [results,Tryz.results214,go_sem,hRc]) rfl ?_;obtain ⟨ht,ht',hB⟩:=HX.out;exact ⟨a,dap,a',dap',m,rfl,(jO ht _ (by omega) _ _ _ _ _ _ _).low (by omega),HT.out.2.1,by have:=HT.out.2.2.1;omega,jO ht' _ (by have:=HT.out.2.2.1;omega) _ _ _ _ _ _ _,zaM hB _ (by omega) _ _ _ _ _ _ _⟩
def Gate.qG (ss:List Shp) (ms:List Mnd) (o:Ob):Bool:=Gate.zF ss o.kd && (decide (o.vs.length=(Gate.shapeOf ss o.kd).fs.length) && Gate.yt ss ms)
namespace Gate
theorem zc4 {ss:List Shp} {v:ByteArray} (h:zF ss v=true):∃ i,∃ hi:i < ss.length,shapeOf ss v=ss[i]:=by
 unfold zF at h;rw [List.any_eq_true] at h;obtain ⟨x,hx,he⟩:=h;unfold shapeOf
 cases hf:ss.find? (fun s=>decide (s.kd=v)) with
 | none=>rw [List.find?_eq_none] at hf;exact absurd he (hf x hx)
 | some y =>
  obtain ⟨i,hi,rfl⟩:=List.mem_iff_getElem.1 (List.mem_of_find?_eq_some hf);exact ⟨i,hi,rfl⟩
theorem zb0 {ss:List Shp} {ms:List Mnd} {o:Ob} (h:qG ss ms o=true):o.vs.length=(shapeOf ss o.kd).fs.length/\(shapeOf ss o.kd).fs.length<=6/\(∀ q,q < (shapeOf ss o.kd).fs.length->∀ x ∈ zY (shapeOf ss o.kd) ms q,0<=x/\x < (shapeOf ss o.kd).fs.length)/\(zI (zl (shapeOf ss o.kd) ms) (shapeOf ss o.kd).fs.length).1=true:=by
 unfold qG at h;simp only [Bool.and_eq_true,decide_eq_true_eq] at h;obtain ⟨hk,hl,hm⟩:=h;obtain ⟨i,hi,e⟩:=zc4 hk;unfold yt at hm;simp only [Bool.and_eq_true,decide_eq_true_eq] at hm;obtain ⟨⟨⟨h12,hs⟩,ha⟩,hr⟩:=hm;rw [e] at hl ⊢;refine ⟨hl,zft hs i hi,ziY hs ha i hi,?_⟩
 have:=List.all_eq_true.1 hr ss[i] (List.getElem_mem hi)
 exact this
def zfr (ss:List Shp) (ms:List Mnd) (o:Ob):List ByteArray:=yg (decided (shapeOf ss o.kd) ms) (zI (zl (shapeOf ss o.kd) ms) (shapeOf ss o.kd).fs.length).2.row o.vs
def zcm (ss:List Shp) (ms:List Mnd) (o:Ob):List ByteArray:=if qG ss ms o=true then zfr ss ms o else o.vs
end Gate
namespace Gate
def zgl (ss:List Shp) (o:Ob):Ob:=⟨o.kd,o.nm,o.tm,zac (shapeOf ss o.kd).fs o.vs,o.en,o.hs,o.vr⟩
def zbO (ss:List Shp) (ms:List Mnd) (o:Ob):List ByteArray:=if qG ss ms o=true then zfr ss ms (zgl ss o) else o.vs
theorem zni {ss:List Shp} {ms:List Mnd} {o:Ob} (h:qG ss ms o=true):(zgl ss o).vs.length=o.vs.length:=qR (zb0 h).1
end Gate
theorem zgE {fs:List Fld} {vs:List ByteArray} (hf:zbX fs) (hv:∀ s ∈ vs,s.size<=maxLen) (hl:vs.length=fs.length):∀ s ∈ Gate.zac fs vs,s.size<=maxLen:=by
 intro s hm;obtain ⟨i,hi,rfl⟩:=List.mem_iff_getElem.1 hm;have h2:=Gate.qR hl;have e:(Gate.zac fs vs)[i]=Gate.zat (fs[i]'(by omega)) (vs[i]'(by omega)):=by simp [Gate.zac]
 rw [e];unfold Gate.zat
 split
 ·exact (hf.small i (by omega)).1.df
 ·exact hv _ (List.getElem_mem _)
theorem zoA (o:Ob) (us:List ByteArray) (hnn:us.length=o.vs.length) (s:Shp) (ms:List Mnd) (fa ma ova oha:Option Addr) (fcap mcap cap cap':Nat) (w:World) (hf:zP w fa s.fs) (hm:yY w ma ms) (hsm:o.Small) (ho:zD w ova us) (ho':zD w oha o.hs) (hA:zmf ova us) (hA':zmf oha o.hs) (hl:o.vs.length<=1048576) (hl':o.hs.length<=1048576) (hc:o.vs.length=s.fs.length)
 (hml:ms.length<=1048576) (hn:s.fs.length<=6) (hrd:∀ q,q < s.fs.length->∀ x ∈ Gate.zY s ms q,0<=x/\x < s.fs.length) (hwk:(Gate.zI (Gate.zl s ms) s.fs.length).1=true) :
 Calls Tryz.prog 214 #[.agg #[.string s.kd,.slice fa s.fs.length fcap],.slice ma ms.length mcap,.agg #[.string o.kd,.string o.nm,.string o.tm,.slice ova o.vs.length cap,.bool o.en,.slice oha o.hs.length cap',.int .i64 o.vr]] w
  fun e w'=>∃ a dap a' dap' m,e = .returned (.agg #[.string o.kd,.string o.nm,.string o.tm,.slice a o.vs.length dap,.bool o.en,.slice a' o.hs.length dap',.int .i64 o.vr])/\zw w.heap.size w' a (Gate.yg (Gate.decided s ms) (Gate.zI (Gate.zl s ms) s.fs.length).2.row us)/\(∀ g,a=some g->g.block < m)/\w.heap.size<=m/\zw m w' a' o.hs/\Below w.heap.size w w':=by
 have h:=znC ⟨o.kd,o.nm,o.tm,us,o.en,o.hs,o.vr⟩ s ms fa ma ova oha fcap mcap cap cap' w hf hm ⟨⟨hsm.kd,hsm.nm,hsm.tm⟩,ho,ho'⟩ hA hA' (by show us.length<=_;omega) hl' (by show us.length=_;omega) hml hn hrd hwk;simp only [hnn] at h;exact h
theorem zih (a:Option Addr) (cap:Nat) (w:World) :
 Calls Tryz.prog 226 #[.slice a 0 cap] w fun e w'=>∃ v,e = .returned v/\w'.ownsRow w.heap.size 9 1 v 0 []/\Below w.heap.size w w':=by
 cases a with
 | none=>exact zeS cap w
 | some g =>
  go_enter Tryz.func226,Tryz.ntmps226;go_wp2_with fail
  go_ret;exact ⟨_,rfl,World.ownsRow_nil _ _ _ _,bRf _ _⟩
theorem zfa (a:Option Addr) (cap:Nat) (ws:List ByteArray) (w:World) (hw:zD w a ws) (hl:ws.length<=1048576) :
 Calls Tryz.prog 226 #[.slice a ws.length cap] w
  fun e w'=>∃ v,e = .returned v/\w'.ownsRow w.heap.size 9 1 v ws.length (ws.map Value.string)/\Below w.heap.size w w':=by
 by_cases h:ws=[]
 ·subst h
  exact zih a cap w
 ·obtain ⟨b,off,rfl,_⟩:=hw.cells h
  exact ze8 b off cap ws w hw hl
theorem ziK (o:Ob) (va ha:Option Addr) (cap cap':Nat) (w:World) (ho:qB w o va ha) (hl:o.vs.length<=1048576) (hl':o.hs.length<=1048576) :
 Calls Tryz.prog 223 #[.agg #[.string o.kd,.string o.nm,.string o.tm,.slice va o.vs.length cap,.bool o.en,.slice ha o.hs.length cap',.int .i64 o.vr]] w
  fun e w'=>∃ a dap a' dap' m,e = .returned (.agg #[.string o.kd,.string o.nm,.string o.tm,.slice a o.vs.length dap,.bool o.en,.slice a' o.hs.length dap',.int .i64 o.vr])/\zw w.heap.size w' a o.vs/\(∀ g,a=some g->g.block < m)/\w.heap.size<=m/\zw m w' a' o.hs/\Below w.heap.size w w':=by
 go_enter Tryz.func223,Tryz.ntmps223;go_wp2_with fail
 refine (zfa _ _ _ _ (ho.vals.mono (zA _ _ _)) hl).mono ?_;rintro e w1 ⟨v,rfl,hown1,hb1⟩;obtain ⟨a,dap,rfl,ht1⟩:=zw.zfA hown1;have hk1:w1.heap[w.heap.size]?=some (.cells #[.string o.kd,.string o.nm,.string o.tm,.slice va o.vs.length cap,.bool o.en,.slice ha o.hs.length cap',.int .i64 o.vr] 119):=(hb1.block w.heap.size (by simp;omega)).trans (yh _ _ _).1;have hr1:w1.heap[w.heap.size+1]?=some (.cells #[.string ByteArray.empty,.string ByteArray.empty,.string ByteArray.empty,.slice none 0 0,.bool false,.slice none 0 0,.int .i64 0] 119):=(hb1.block (w.heap.size+1) (by simp)).trans (yh _ _ _).2;have HT:Hid (zw (w.heap.size+1+1) w1 a o.vs):=by unfold Hid;simpa using ht1
 have hz1:w.heap.size+1 < w1.heap.size:=by have:=hb1.size;simp at this;omega
 have hB1:Below w.heap.size w w1:=(zA _ _ _).trans (hb1.mono (by simp;omega));have HK:Hid (w1.heap[w.heap.size]?=some (.cells #[.string o.kd,.string o.nm,.string o.tm,.slice va o.vs.length cap,.bool o.en,.slice ha o.hs.length cap',.int .i64 o.vr] 119)):=hk1;have HRR:Hid (w1.heap[w.heap.size+1]?=some (.cells #[.string ByteArray.empty,.string ByteArray.empty,.string ByteArray.empty,.slice none 0 0,.bool false,.slice none 0 0,.int .i64 0] 119)):=hr1;have hX1:∀ j,w1.cell? ⟨w.heap.size,j,none⟩=(#[.string o.kd,.string o.nm,.string o.tm,.slice va o.vs.length cap,.bool o.en,.slice ha o.hs.length cap',.int .i64 o.vr]:Array Value)[j]?:=fun j=>cell_of_block hk1
 have hF1:∀ j,w1.frozen? ⟨w.heap.size,j,none⟩=false:=fun j=>zi hk1
 clear hb1 hown1 ht1 hk1 hr1;go_wp2_with fail
 have hB1':=hB1.setCell (p:=⟨w.heap.size,3,none⟩) (Nat.le_refl _) (.slice a o.vs.length dap);refine (zfa _ _ _ _ (ho.holds.mono hB1') hl').mono ?_;rintro e w2 ⟨v,rfl,hown2,hb2⟩;obtain ⟨a',dap',rfl,ht2⟩:=zw.zfA hown2;have hk2:w2.heap[w.heap.size]?=some (.cells #[.string o.kd,.string o.nm,.string o.tm,.slice a o.vs.length dap,.bool o.en,.slice ha o.hs.length cap',.int .i64 o.vr] 119):=(hb2.block w.heap.size (by simp [World.setCell];omega)).trans (zk HK.out _);have hr2:w2.heap[w.heap.size+1]?=some (.cells #[.string ByteArray.empty,.string ByteArray.empty,.string ByteArray.empty,.slice none 0 0,.bool false,.slice none 0 0,.int .i64 0] 119):=(hb2.block (w.heap.size+1) (by simp [World.setCell];omega)).trans ((Below.heap_setCell _ _ _ _ (by simp)).trans HRR.out);have HT2:Hid (zw (w.heap.size+1+1) w2 a o.vs):=(HT.out.setCell _ (by simp;omega) _).mono hb2;have HU2:Hid (zw w1.heap.size w2 a' o.hs):=by unfold Hid;simpa [World.setCell] using ht2
 have HM:Hid (∀ g,a=some g->g.block < w1.heap.size):=by
  intro g hg
  rcases HT.out with ⟨h0,_⟩ | ⟨g',C,h0,_,hh,_⟩
  ·rw [h0] at hg;cases hg
  ·rw [h0] at hg;cases hg;exact (gES hh).1
 have hz2:w.heap.size+1 < w2.heap.size:=by have:=hb2.size;simp [World.setCell] at this;omega
 have hB2:Below w.heap.size w w2:=hB1'.trans (hb2.mono hB1'.size);have hX2:∀ j,w2.cell? ⟨w.heap.size,j,none⟩=(#[.string o.kd,.string o.nm,.string o.tm,.slice a o.vs.length dap,.bool o.en,.slice ha o.hs.length cap',.int .i64 o.vr]:Array Value)[j]?:=fun j=>cell_of_block hk2
 have hF2:∀ j,w2.frozen? ⟨w.heap.size,j,none⟩=false:=fun j=>zi hk2
 have hY2:∀ j,w2.cell? ⟨w.heap.size+1,j,none⟩=(#[.string ByteArray.empty,.string ByteArray.empty,.string ByteArray.empty,.slice none 0 0,.bool false,.slice none 0 0,.int .i64 0]:Array Value)[j]?:=fun j=>cell_of_block hr2
 have hG2:∀ j,w2.frozen? ⟨w.heap.size+1,j,none⟩=false:=fun j=>zi hr2
 have hzz:w.heap.size<=w1.heap.size:=by omega
 clear hb2 hown2 ht2 hX1 hF1 hB1 hB1' hk2 hr2;go_wp2_with fail
 refine bodyPost_ret (v:=(.agg #[.string o.kd,.string o.nm,.string o.tm,.slice a o.vs.length dap,.bool o.en,.slice a' o.hs.length dap',.int .i64 o.vr])) (by simp [results,Tryz.results223,go_sem,hY2]) rfl ⟨a,dap,a',dap',w1.heap.size,rfl,((((((((HT2.out.setCell _ (by simp;omega) _).setCell _ (by simp) _).setCell _ (by simp) _).setCell _ (by simp) _).setCell _ (by simp) _).setCell _ (by simp) _).setCell _ (by simp) _).setCell _ (by simp) _).low (by omega),HM.out,hzz,((((((((HU2.out.setCell _ (by simp;omega) _).setCell _ (by simp;omega) _).setCell _ (by simp;omega) _).setCell _ (by simp;omega) _).setCell _ (by simp;omega) _).setCell _ (by simp;omega) _).setCell _ (by simp;omega) _).setCell _ (by simp;omega) _),((((((((hB2.setCell (Nat.le_refl _) _).setCell (by simp) _).setCell (by simp) _).setCell (by simp) _).setCell (by simp) _).setCell (by simp) _).setCell (by simp) _).setCell (by simp) _)⟩
theorem znE (o:Ob) (kd:ByteArray) (fs:List Fld) (fa:Option Addr) (va ha:Option Addr) (fcap cap cap':Nat) (w:World) (hf:zP w fa fs) (ho:qB w o va ha) (hl:o.vs.length<=1048576) (hl':o.hs.length<=1048576) (hc:o.vs.length=fs.length) :
 Calls Tryz.prog 215 #[.agg #[.string kd,.slice fa fs.length fcap],.agg #[.string o.kd,.string o.nm,.string o.tm,.slice va o.vs.length cap,.bool o.en,.slice ha o.hs.length cap',.int .i64 o.vr]] w
  fun e w'=>∃ a dap a' dap' m,e = .returned (.agg #[.string o.kd,.string o.nm,.string o.tm,.slice a o.vs.length dap,.bool o.en,.slice a' o.hs.length dap',.int .i64 o.vr])/\zw w.heap.size w' a (Gate.zac fs o.vs)/\(∀ g,a=some g->g.block < m)/\w.heap.size<=m/\zw m w' a' o.hs/\Below w.heap.size w w':=by
 have HC:Hid (o.vs.length=fs.length):=hc;clear hc;go_enter Tryz.func215,Tryz.ntmps215;go_wp2_with fail
 refine (ziK o va ha cap cap' _ (ho.mono (jH _ _ _ _)) hl hl').mono ?_;rintro e w1 ⟨a,dap,a',dap',m,rfl,ht,hm,hsm,ht',hb1⟩;have hX1:∀ j,w1.cell? ⟨w.heap.size,j,none⟩=(#[.string kd,.slice fa fs.length fcap]:Array Value)[j]?:=fun j=>cell_of_block ((hb1.block w.heap.size (by simp;omega)).trans (zcd _ _ _ _))
 have HR1:Hid (w1.heap[w.heap.size+1+1]?=some (.cells #[.string ByteArray.empty,.string ByteArray.empty,.string ByteArray.empty,.slice none 0 0,.bool false,.slice none 0 0,.int .i64 0] 119)):=(hb1.block (w.heap.size+1+1) (by simp)).trans (zcg _ _ _ _);have hB1:Below w.heap.size w w1:=(jH _ _ _ _).trans (hb1.mono (by simp;omega));have hz1:w.heap.size+1+1 < w1.heap.size:=by have:=hb1.size;simp at this;omega
 have HT:Hid (zw (w.heap.size+1+1+1) w1 a o.vs/\(∀ g,a=some g->g.block < m)/\w.heap.size+1+1+1<=m/\zw m w1 a' o.hs):=by
  simp only [World.size_alloc] at ht hsm;exact ⟨ht,hm,hsm,ht'⟩
 have hz0:w.heap.size < w1.heap.size:=by omega
 clear ht hm hsm ht' hb1 ho;have hlen:=hf.len;unfold maxLen at hlen;go_wp2_with fail
 clear hX1
 go_loopw [13] (fun i wr=>∃ k:Nat,k<=fs.length/\i = .int .i64 k/\zw (w.heap.size+1+1+1) wr a (Gate.jd fs o.vs k)/\zw m wr a' o.hs/\wr.heap[w.heap.size+1+1]?=some (.cells #[.string ByteArray.empty,.string ByteArray.empty,.string ByteArray.empty,.slice none 0 0,.bool false,.slice none 0 0,.int .i64 0] 119)/\wr.heap[w1.heap.size]?=some (.cells #[.string o.kd,.string o.nm,.string o.tm,.slice a o.vs.length dap,.bool o.en,.slice a' o.hs.length dap',.int .i64 o.vr] 119)/\Below w.heap.size w wr) (fun i _=>fs.length - (intOf i).toNat)
 case atStart =>
  have hba:=(bRf w1.heap.size w1).alloc (Nat.le_refl _) (.cells #[.string o.kd,.string o.nm,.string o.tm,.slice a o.vs.length dap,.bool o.en,.slice a' o.hs.length dap',.int .i64 o.vr] 119);exact ⟨0,Nat.zero_le _,rfl,by rw [Gate.zhy];exact HT.out.1.mono hba,HT.out.2.2.2.mono hba,(hba.block _ hz1).trans HR1.out,alloc_at _ _,hB1.alloc hB1.size _⟩
 case round =>
  obtain ⟨k,hk,rfl,ht,ht',hR,hO,hB⟩:=hrel;have hOc:∀ j,wr.cell? ⟨w1.heap.size,j,none⟩=(#[.string o.kd,.string o.nm,.string o.tm,.slice a o.vs.length dap,.bool o.en,.slice a' o.hs.length dap',.int .i64 o.vr]:Array Value)[j]?:=fun j=>cell_of_block hO
  have hOz:w1.heap.size < wr.heap.size:=(gES hO).1
  by_cases hlt:k < fs.length
  ·have hltv:k < o.vs.length:=by rw [HC.out];exact hlt
   obtain ⟨fb,foff,rfl,hfb,hr⟩:=hf.rows (by rintro rfl;simp at hlt);obtain ⟨wa,wcap,hf0⟩:=hr k hlt;have hf1:=hf0.mono hfb hB;obtain ⟨c0,c1,c2,c3,c4,c5,c6,c7,c8,c9,c10⟩:=hf1.load;have hltI:(k:Int) < (fs.length:Int):=by omega
   have hltV:(k:Int) < (o.vs.length:Int):=by omega
   have hfbw:fb < wr.heap.size:=nLt hfb hB.size
   obtain ⟨g,C,hga,hgl,hgh,hgc⟩:∃ g C,a=some ⟨g,0,none⟩/\w.heap.size+1+1+1<=g/\wr.heap[g]?=some (.cells C 9)/\∀ i (h:i < (Gate.jd fs o.vs k).length),C[i]?=some (.string (Gate.jd fs o.vs k)[i]):=by
    rcases ht with ⟨_,h0⟩ | h0
    ·have:=Gate.zaB HC.out k;rw [h0] at this;simp at this;omega
    ·exact h0
   have hgm:g < m:=HT.out.2.1 _ hga;have hgw1:g < w1.heap.size:=by have:=HT.out.1.lt _ hga;exact this
   have hgw:g < wr.heap.size:=by omega
   subst hga
   have hcell:wr.cell? ⟨g,k,none⟩=some (.string o.vs[k]):=by
    have h1:=Gate.zeW HC.out k hlt;have hkl:k < (Gate.jd fs o.vs k).length:=by rw [Gate.zaB HC.out];exact hltv
    rw [List.getElem?_eq_getElem hkl,List.getElem?_eq_getElem hltv] at h1;rw [cell_of_block hgh,hgc k hkl,Option.some.inj h1]
   have hgf:wr.frozen? ⟨g,k,none⟩=false:=zi hgh;have HX:Hid (zw (w.heap.size+1+1+1) wr (some ⟨g,0,none⟩) (Gate.jd fs o.vs k)/\zw m wr a' o.hs/\wr.heap[w.heap.size+1+1]?=some (.cells #[.string ByteArray.empty,.string ByteArray.empty,.string ByteArray.empty,.slice none 0 0,.bool false,.slice none 0 0,.int .i64 0] 119)/\wr.heap[w1.heap.size]?=some (.cells #[.string o.kd,.string o.nm,.string o.tm,.slice (some ⟨g,0,none⟩) o.vs.length dap,.bool o.en,.slice a' o.hs.length dap',.int .i64 o.vr] 119)/\Below w.heap.size w wr):=⟨ht,ht',hR,hO,hB⟩
   clear ht ht' hR hO hB hf hr hf0 hf1 hgh hgc
   by_cases hv:o.vs[k].toList.isEmpty=true
   ·have HV:Hid (Gate.zat fs[k] o.vs[k]=fs[k].df):=by unfold Hid Gate.zat;rw [if_pos hv]
    go_wp2_with fail
    obtain ⟨ht,ht',hR,hO,hB⟩:=HX.out;have hba:=(bRf (wr.setCell ⟨g,k,none⟩ (.string fs[k].df)).heap.size (wr.setCell ⟨g,k,none⟩ (.string fs[k].df))).alloc (Nat.le_refl _) (.cells #[.string fs[k].nm,.int .i64 fs[k].kd,.int .i64 fs[k].ls,.int .i64 fs[k].ms,.slice wa fs[k].ws.length wcap,.string fs[k].to,.int .i64 fs[k].rl,.bool fs[k].mu,.bool fs[k].fx,.string fs[k].df,.string fs[k].wg] 165);have hs0:(wr.setCell ⟨g,k,none⟩ (.string fs[k].df)).heap.size=wr.heap.size:=by simp [World.setCell]
    exact ⟨⟨k+1,by omega,by go_num,by rw [Gate.zcV HC.out k hlt,HV.out];exact (ht.set k _).mono hba,(ht'.setCell _ hgm _).mono hba,(hba.block _ (by rw [hs0];omega)).trans ((Below.heap_setCell _ _ _ _ (by show w.heap.size+1+1 ≠ g;omega)).trans hR),(hba.block _ (by rw [hs0];exact hOz)).trans ((Below.heap_setCell _ _ _ _ (by show w1.heap.size ≠ g;omega)).trans hO),(hB.setCell (p:=⟨g,k,none⟩) (by show w.heap.size<=g;omega) _).alloc (by rw [hs0];exact hB.size) _⟩,zn hlt⟩
   ·have HV:Hid (Gate.zat fs[k] o.vs[k]=o.vs[k]):=by unfold Hid Gate.zat;rw [if_neg hv]
    go_wp2_with fail
    obtain ⟨ht,ht',hR,hO,hB⟩:=HX.out;have hba:=(bRf wr.heap.size wr).alloc (Nat.le_refl _) (.cells #[.string fs[k].nm,.int .i64 fs[k].kd,.int .i64 fs[k].ls,.int .i64 fs[k].ms,.slice wa fs[k].ws.length wcap,.string fs[k].to,.int .i64 fs[k].rl,.bool fs[k].mu,.bool fs[k].fx,.string fs[k].df,.string fs[k].wg] 165)
    have hsame:(Gate.jd fs o.vs k).set k o.vs[k]=Gate.jd fs o.vs k:=by
     have h1:=Gate.zeW HC.out k hlt;have hkl:k < (Gate.jd fs o.vs k).length:=by rw [Gate.zaB HC.out];exact hltv
     rw [List.getElem?_eq_getElem hkl,List.getElem?_eq_getElem hltv] at h1;rw [<- Option.some.inj h1,List.set_getElem_self]
    exact ⟨⟨k+1,by omega,by go_num,by rw [Gate.zcV HC.out k hlt,HV.out,hsame];exact ht.mono hba,ht'.mono hba,(hba.block _ (by omega)).trans hR,(hba.block _ hOz).trans hO,hB.alloc hB.size _⟩,zn hlt⟩
  ·have e:k=fs.length:=by omega
   subst e;rw [Gate.ziT HC.out] at ht;have hRc:∀ j,wr.cell? ⟨w.heap.size+1+1,j,none⟩=(#[.string ByteArray.empty,.string ByteArray.empty,.string ByteArray.empty,.slice none 0 0,.bool false,.slice none 0 0,.int .i64 0]:Array Value)[j]?:=fun j=>cell_of_block hR
   have hRf:∀ j,wr.frozen? ⟨w.heap.size+1+1,j,none⟩=false:=fun j=>zi hR
   have HX:Hid (zw (w.heap.size+1+1+1) wr a (Gate.zac fs o.vs)/\zw m wr a' o.hs/\Below w.heap.size w wr):=⟨ht,ht',hB⟩
   have HM:Hid (w.heap.size+1+1+1<=m/\∀ g,a=some g->g.block < m):=⟨HT.out.2.2.1,HT.out.2.1⟩
   clear ht ht' hB hR hO hf;go_wp2_with fail
   refine bodyPost_ret (v:=(.agg #[.string o.kd,.string o.nm,.string o.tm,.slice a o.vs.length dap,.bool o.en,.slice a' o.hs.length dap',.int .i64 o.vr])) (by simp [results,Tryz.results215,go_sem,hRc]) rfl ?_;obtain ⟨ht,ht',hB⟩:=HX.out;exact ⟨a,dap,a',dap',m,rfl,(jO ht _ (by omega) _ _ _ _ _ _ _).low (by omega),HM.out.2,by have:=HM.out.1;omega,jO ht' _ (by have:=HM.out.1;omega) _ _ _ _ _ _ _,zaM hB _ (by omega) _ _ _ _ _ _ _⟩
end Go.Proofs.YtghnakljnhnenaaGreat
