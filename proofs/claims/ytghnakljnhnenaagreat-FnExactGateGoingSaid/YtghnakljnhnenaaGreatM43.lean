import Derived.Test.YtghnakljnhnenaaGreatM42
set_option maxHeartbeats 8000000
namespace Go.Proofs.YtghnakljnhnenaaGreat
open Go.RowKit
structure zcf (w:World) (a:Option Addr) (s:List Bool):Prop where
 len:s.length<=maxLen
 cells:s ≠ []->∃ b off,a=some ⟨b,off,none⟩/\b < w.heap.size/\∀ i (h:i < s.length),w.cell? ⟨b,off+i,none⟩=some (.bool s[i])
theorem zcf.mono {w w':World} {a:Option Addr} {s:List Bool} (h:zcf w a s) (hb:Below w.heap.size w w'):zcf w' a s :=
 ⟨h.len,fun hne=>by
  obtain ⟨b,off,ha,hbs,hc⟩:=h.cells hne;exact ⟨b,off,ha,nLt hbs hb.size,fun i hi=>(hb.cell (p:=⟨b,off+i,none⟩) hbs).trans (hc i hi)⟩⟩
def bls (s:List Bool):List Value:=s.map Value.bool
theorem zeL {w:World} {lo:Nat} {v:Value} {s:List Bool} (h:w.ownsRow lo 4 1 v s.length (bls s)) (hl:s.length<=maxLen):∃ a cap,v = .slice a s.length cap/\zcf w a s:=by
 obtain ⟨a,cap,rfl⟩:=yV h;refine ⟨a,cap,rfl,hl,fun hne=>?_⟩;obtain ⟨_,⟨h0,h1⟩ | ⟨g,cp,cur,h0,h1⟩⟩:=id h
 ·exact absurd (List.length_eq_zero_iff.1 h1) hne
 ·cases h0
  refine ⟨g,0,rfl,(h.lt g rfl).2,fun i hi=>?_⟩;rw [Nat.zero_add,h.cellAt i (by omega)]
  simp [bls,hi]
namespace Gate
noncomputable def tied (l:Lw) (o p:Ob):Bool:=names l o p 1 || names l o p 3
noncomputable def zfD (l:Lw) (os:List Ob) (s:List Bool) (p:Ob) (k:Nat):Bool:=match os[k]? with | some o=>!(s.getD k false) && tied l o p | none=>false
noncomputable def zbg (l:Lw) (os:List Ob) (s:List Bool) (p:Ob) (k:Nat):Bool:=(List.range k).any (zfD l os s p)
noncomputable def stays (l:Lw) (os:List Ob) (s:List Bool) (p:Ob):Bool:=zbg l os s p os.length
theorem zle (l:Lw) (os:List Ob) (s:List Bool) (p:Ob) (k:Nat):zbg l os s p (k+1)=(zbg l os s p k || zfD l os s p k):=by
 unfold zbg;rw [List.range_succ,List.any_append];simp
theorem zkM {l:Lw} {os:List Ob} {s:List Bool} {p:Ob} {k:Nat} (h:k < os.length) (h':k < s.length):zfD l os s p k=(!s[k] && tied l os[k] p):=by
 unfold zfD;rw [List.getElem?_eq_getElem h];simp [List.getElem?_eq_getElem h']
theorem zmm {l:Lw} {os:List Ob} {s:List Bool} {p:Ob} {k:Nat} (h:k < os.length) (hs:zfD l os s p k=true):stays l os s p=true:=by
 unfold stays zbg;exact List.any_eq_true.2 ⟨k,List.mem_range.2 h,hs⟩
def endings (os:List Ob):List Bool:=os.map Ob.en
def zc0 (s:List Bool) (k:Nat):List Int:=if s.getD k false=true then [(k:Int)] else []
def yK (s:List Bool):Nat->List Int
 | 0=>[]
 | k+1=>yK s k ++ zc0 s k
def places (s:List Bool):List Int:=yK s s.length
theorem zcY (s:List Bool):∀ k,(yK s k).length<=k
 | 0=>Nat.le_refl _
 | k+1=>by
  have h:=zcY s k
  show (yK s k ++ zc0 s k).length<=_
  have h2:(zc0 s k).length<=1:=by unfold zc0;split <;> simp
  rw [List.length_append];omega
theorem zfE {s:List Bool} {k:Nat} (h:k < s.length) (hs:s[k]=true):yK s (k+1)=yK s k ++ [(k:Int)]:=by
 show yK s k ++ zc0 s k=_
 unfold zc0;simp [List.getElem?_eq_getElem h,hs]
theorem zhM {s:List Bool} {k:Nat} (h:k < s.length) (hs:s[k]=false):yK s (k+1)=yK s k:=by
 show yK s k ++ zc0 s k=_
 unfold zc0;simp [List.getElem?_eq_getElem h,hs]
end Gate
set_option maxRecDepth 20000 in
theorem zld (a:Option Addr) (cap:Nat) (s:List Bool) (w:World) (hs:zcf w a s) (hl:s.length<=1000) :
 Calls Tryz.prog 25 #[.slice a s.length cap] w fun e w'=>∃ v,e = .returned v/\w'.ownsRow w.heap.size 3 1 v (Gate.places s).length (ints (Gate.places s))/\Below w.heap.size w w':=by
 obtain ⟨i0,hi,hzi0,hz1',hz2⟩:=info_parts Tryz.zfS;have HS:Hid (zcf w a s):=hs;clear hs;go_enter Tryz.func25,Tryz.ntmps25;go_wp2_with fail
 have HR0:Hid ((w.alloc (.cells #[] 3)).ownsRow w.heap.size 3 1 (.slice (some ⟨w.heap.size,0,none⟩) 0 0) 0 (ints [])):=⟨rfl,.inr ⟨w.heap.size,0,#[],rfl,Nat.le_refl _,World.alloc_heap_new _ _,Nat.le_refl _,by simp [maxLen],rfl,rfl⟩⟩
 have HB0:Hid (Below w.heap.size w (w.alloc (.cells #[] 3))):=bAl _ _
 go_loopw [3,4] (fun v0 iv wr=>∃ (k:Nat) (v:Value),v=v0/\k<=s.length/\iv = .int .i64 k/\Hid (wr.ownsRow w.heap.size 3 1 v (Gate.yK s k).length (ints (Gate.yK s k))/\Below w.heap.size w wr)) (fun _ iv _=>s.length - (intOf iv).toNat)
 case atStart=>exact ⟨0,_,rfl,Nat.zero_le _,rfl,HR0.out,HB0.out⟩
 case round =>
  obtain ⟨k,v,hv,hk,rfl,HQ⟩:=hrel;subst hv;have hkn:k<=1000:=by omega
  by_cases hlt:k < s.length
  ·obtain ⟨sb,off,rfl,hsb,hc⟩:=HS.out.cells (by rintro rfl;simp at hlt)
   have hltI:(k:Int) < (s.length:Int):=by omega
   have hck:=(HQ.out.2.cell (p:=⟨sb,off+k,none⟩) hsb).trans (hc k hlt);have hsb':sb < wr.heap.size:=nLt hsb HQ.out.2.size;clear hc
   cases he:s[k] with
   | false =>
    rw [he] at hck;have HN:Hid (Gate.yK s (k+1)=Gate.yK s k):=Gate.zhM hlt he;go_wp2_with fail
    exact ⟨⟨k+1,_,rfl,by omega,by go_num,by rw [HN.out];exact HQ.out.1,HQ.out.2⟩,zn hlt⟩
   | true =>
    rw [he] at hck;have HN:Hid (Gate.yK s (k+1)=Gate.yK s k ++ [(k:Int)]):=Gate.zfE hlt he;have HLL:Hid ((Gate.yK s k).length<=1000):=by have:=Gate.zcY s k;show _<=_;omega
    go_wp2_with (at_builtin;refine wpList_append_own _ rfl (.tmp 16) (.tmp 18) 35 rfl w.heap.size 3 i0 (.int .i64 0) 1 8 Tryz.underlying35 hi hzi0 hz1' hz2 rfl (by decide) _ _ _ rfl (HQ.out.1.alloc _) ⟨wr.heap.size,0,none⟩ 1 1 [.int .i64 (k:Int)] rfl rfl (zca _ _ _) (by intro u hu;simp at hu;subst hu;rfl) (by have:=HLL.out;unfold maxLen;omega) (by have:=HLL.out;omega) (by have:=HQ.out.2.size;simp;omega) ?_;intro v' w4 hown' hgr _)
    have hgb:∀ g',v.ownBlock=some g'->w.heap.size<=g':=fun g' hg'=>(HQ.out.1.lt g' hg').1
    refine ⟨⟨k+1,_,rfl,by omega,by go_num,?_,zaQ HQ.out.2 HQ.out.2.size hgr hgb⟩,zn hlt⟩;rw [HN.out,List.length_append];have e1:ints (Gate.yK s k ++ [(k:Int)])=ints (Gate.yK s k) ++ [.int .i64 (k:Int)]:=by simp [ints]
    rw [e1];exact hown'
  ·have e:k=s.length:=by omega
   subst e;have HW:Hid (wr.ownsRow w.heap.size 3 1 v (Gate.places s).length (ints (Gate.places s))/\Below w.heap.size w wr):=HQ.out;clear HQ hlt hk;go_wp2_with fail
   go_ret;exact ⟨v,rfl,HW.out⟩
set_option maxRecDepth 20000 in
theorem zl9 (l:Lw) (la lb lc:Option Addr) (lca lcb lcc:Nat) (b:Bk) (a0 a1 a2 a3:Option Addr) (c0 c1 c2 c3:Nat) (sa:Option Addr) (scap:Nat) (s:List Bool) (i:Nat) (w:World) (hl:y9 w l la lb lc) (hb:y7 w b a0 a1 a2 a3) (hs:zcf w sa s) (hsl:s.length=b.os.length) (hi:i < b.os.length) (hw:b.os.length<=40/\∀ k (h:k < b.os.length),Gate.zx l.ss b.os[k]=true) (hfw:∀ i (h:i < b.os.length),b.os[i].vs.length<=1048576) :
 Calls Tryz.prog 63 #[.agg #[.slice la l.ss.length lca,.slice lb l.ms.length lcb,.slice lc l.ts.length lcc],.agg #[.int .i64 b.now,.int .i64 b.tick,.int .i64 b.given,.slice a0 b.os.length c0,.slice a1 b.gs.length c1,.slice a2 b.ls.length c2,.slice a3 b.ps.length c3],.slice sa s.length scap,.int .i64 (i:Int)] w fun e w'=>e = .returned (.bool (Gate.stays l b.os s b.os[i]))/\Below w.heap.size w w':=by
 have HK:Hid (y7 w b a0 a1 a2 a3):=hb;have HL:Hid (y9 w l la lb lc):=hl;have HO:Hid (b.os.length<=40/\∀ k (h:k < b.os.length),Gate.zx l.ss b.os[k]=true):=hw;have HW:Hid (∀ i (h:i < b.os.length),b.os[i].vs.length<=1048576):=hfw;have HS:Hid (zcf w sa s/\s.length=b.os.length):=⟨hs,hsl⟩
 clear hb hl hw hfw hs hsl;go_enter Tryz.func63,Tryz.ntmps63;go_wp2_with fail
 obtain ⟨hL0,hX0⟩:=qw w #[.slice la l.ss.length lca,.slice lb l.ms.length lcb,.slice lc l.ts.length lcc] #[.int .i64 b.now,.int .i64 b.tick,.int .i64 b.given,.slice a0 b.os.length c0,.slice a1 b.gs.length c1,.slice a2 b.ls.length c2,.slice a3 b.ps.length c3] 41 48;have HBi:Hid (Below w.heap.size w ((w.alloc (.cells #[.slice la l.ss.length lca,.slice lb l.ms.length lcb,.slice lc l.ts.length lcc] 41)).alloc (.cells #[.int .i64 b.now,.int .i64 b.tick,.int .i64 b.given,.slice a0 b.os.length c0,.slice a1 b.gs.length c1,.slice a2 b.ls.length c2,.slice a3 b.ps.length c3] 48))):=zA w _ _;obtain ⟨W0,hW0⟩:∃ W0,W0=(w.alloc (.cells #[.slice la l.ss.length lca,.slice lb l.ms.length lcb,.slice lc l.ts.length lcc] 41)).alloc (.cells #[.int .i64 b.now,.int .i64 b.tick,.int .i64 b.given,.slice a0 b.os.length c0,.slice a1 b.gs.length c1,.slice a2 b.ls.length c2,.slice a3 b.ps.length c3] 48):=⟨_,rfl⟩
 have hz0:w.heap.size+1 < W0.heap.size:=by rw [hW0];simp
 rw [<- hW0] at HBi hX0 hL0 ⊢;clear hW0;have hq0:=nSl hz0
 go_loopw [9] (fun iv wr=>∃ k:Nat,k<=b.os.length/\iv = .int .i64 k/\Hid (Gate.zbg l b.os s b.os[i] k=false/\Below W0.heap.size W0 wr)) (fun iv _=>b.os.length - (intOf iv).toNat)
 case atStart=>exact ⟨0,Nat.zero_le _,rfl,by simp [Gate.zbg],bRf _ _⟩
 case round =>
  obtain ⟨k,hk,rfl,HQ⟩:=hrel;have hkn:k<=40:=by have:=HO.out.1;omega
  have hX1:=za hX0 hz0 HQ.out.2;have hL1:=za hL0 hq0 HQ.out.2;have hz1:=nLt hz0 HQ.out.2.size;have hq1:=nLt hq0 HQ.out.2.size;have HBr:Hid (Below w.heap.size w wr):=HBi.out.trans (HQ.out.2.mono HBi.out.size)
  by_cases hlt:k < b.os.length
  ·have hls:k < s.length:=by rw [HS.out.2];exact hlt
   obtain ⟨sb,off,rfl,hsb,hc⟩:=HS.out.1.cells (by rintro rfl;simp at hls);have hltI:(k:Int) < (b.os.length:Int):=by omega
   have hltS:(k:Int) < (s.length:Int):=by omega
   have hck:=(HBr.out.cell (p:=⟨sb,off+k,none⟩) hsb).trans (hc k hls);have hsb':sb < wr.heap.size:=nLt hsb HBr.out.size;have HSu:Hid (Gate.zbg l b.os s b.os[i] (k+1)=(Gate.zbg l b.os s b.os[i] k || (!s[k] && Gate.tied l b.os[k] b.os[i]))):=by rw [Hid,Gate.zle,Gate.zkM hlt hls]
   have HFo:Hid ((!s[k] && Gate.tied l b.os[k] b.os[i])=true->Gate.stays l b.os s b.os[i]=true):=fun h=>Gate.zmm hlt (by rw [Gate.zkM hlt hls];exact h)
   clear hc
   cases he:s[k] with
   | true =>
    rw [he] at hck;have HN:Hid (Gate.zbg l b.os s b.os[i] (k+1)=false):=by rw [Hid,HSu.out,HQ.out.1,he];simp
    go_wp2_with fail
    exact ⟨⟨k+1,by omega,by go_num,HN.out,HQ.out.2⟩,zn hlt⟩
   | false =>
    rw [he] at hck;go_wp2_with fail
    refine (zhl l la lb lc lca lcb lcc b a0 a1 a2 a3 c0 c1 c2 c3 k i 1 wr (HL.out.mono HBr.out) (HK.out.mono HBr.out) hlt hi (HO.out.2 k hlt) (HW.out k hlt)).mono ?_;rintro e w2 ⟨rfl,hb2⟩;have hX2:=za hX1 hz1 hb2;have hL2:=za hL1 hq1 hb2;have hz2:=nLt hz1 hb2.size;have hq2:=nLt hq1 hb2.size;have HB2:Hid (Below W0.heap.size W0 w2):=HQ.out.2.trans (hb2.mono HQ.out.2.size);have HBw2:Hid (Below w.heap.size w w2):=HBi.out.trans (HB2.out.mono HBi.out.size);clear hb2 hX1 hL1 hz1 hq1 hck hsb'
    cases h1:Gate.names l b.os[k] b.os[i] 1 with
    | true =>
     have HF:Hid (Gate.stays l b.os s b.os[i]=true):=HFo.out (by unfold Gate.tied;rw [he,h1];rfl);go_wp2_with fail
     go_ret;exact ⟨ze HF.out.symm,HBw2.out⟩
    | false =>
     go_wp2_with fail
     refine (zhl l la lb lc lca lcb lcc b a0 a1 a2 a3 c0 c1 c2 c3 k i 3 w2 (HL.out.mono HBw2.out) (HK.out.mono HBw2.out) hlt hi (HO.out.2 k hlt) (HW.out k hlt)).mono ?_;rintro e w3 ⟨rfl,hb3⟩;have HB3:Hid (Below W0.heap.size W0 w3):=HB2.out.trans (hb3.mono HB2.out.size);have HBw3:Hid (Below w.heap.size w w3):=HBi.out.trans (HB3.out.mono HBi.out.size);clear hb3
     cases h3:Gate.names l b.os[k] b.os[i] 3 with
     | true =>
      have HF:Hid (Gate.stays l b.os s b.os[i]=true):=HFo.out (by unfold Gate.tied;rw [he,h3];simp);go_wp2_with fail
      go_ret;exact ⟨ze HF.out.symm,HBw3.out⟩
     | false =>
      have HN:Hid (Gate.zbg l b.os s b.os[i] (k+1)=false):=by rw [Hid,HSu.out,HQ.out.1,he];unfold Gate.tied;rw [h1,h3];rfl
      go_wp2_with fail
      exact ⟨⟨k+1,by omega,by go_num,HN.out,HB3.out⟩,zn hlt⟩
  ·have e:k=b.os.length:=by omega
   subst e;have HN:Hid (Gate.stays l b.os s b.os[i]=false):=HQ.out.1;clear HQ hlt hk;go_wp2_with fail
   go_ret;exact ⟨ze HN.out.symm,HBr.out⟩
theorem Tryz.zm4:(Tryz.prog.info? 4).map (fun i=>(i.zero,i.size,i.bytes))=some (some (.bool false),1,1):=by kernel_rfl
theorem zhP {w:World} {lo:Nat} {g n cap:Nat} {s:List Bool} (h:w.ownsRow lo 4 1 (.slice (some ⟨g,0,none⟩) n cap) n (bls s)) (i:Nat) (_hi:i < n) (v:Bool):(w.setCell ⟨g,i,none⟩ (.bool v)).ownsRow lo 4 1 (.slice (some ⟨g,0,none⟩) n cap) n (bls (s.set i v)):=by
 obtain ⟨hl,⟨h0,_⟩ | ⟨g',cp,cur,h0,h2,h3,h4,h5,h6,h7⟩⟩:=h
 ·cases h0
 ·cases h0
  refine ⟨by simpa [bls] using hl,.inr ⟨g,cap,cur.setIfInBounds i (.bool v),rfl,h2,zk h3 _,h4,h5,by simpa using h6,?_⟩⟩;rw [Array.toList_setIfInBounds,Nat.mul_one,List.take_set];rw [Nat.mul_one] at h7;rw [h7]
  simp [bls]
theorem zfU {w:World} {lo n:Nat} {e:TypeId} {v:Value} {xs:List Value} (h:w.ownsRow lo e 1 v n xs) (hn:0 < n):∃ g,v.ownBlock=some g:=by
 obtain ⟨_,⟨rfl,h0⟩ | ⟨g,cap,cur,rfl,_⟩⟩:=h
 ·omega
 ·exact ⟨g,rfl⟩
theorem zeT {w:World} {lo n g:Nat} {e:TypeId} {v:Value} {xs:List Value} (h:w.ownsRow lo e 1 v n xs) (hg:v.ownBlock=some g):∃ g cap,v = .slice (some ⟨g,0,none⟩) n cap:=by
 obtain ⟨_,⟨rfl,h0⟩ | ⟨g',cap,cur,rfl,_⟩⟩:=h
 ·cases hg
 ·exact ⟨g',cap,rfl⟩
namespace Gate
noncomputable def zaS (l:Lw) (os:List Ob) (t:List Bool) (i:Nat):List Bool:=match os[i]? with | some o=>if (t.getD i false && (decide (0 < o.hs.length) || stays l os t o))=true then t.set i false else t | none=>t
noncomputable def y5 (l:Lw) (os:List Ob) (s:List Bool):Nat->List Bool
 | 0=>s
 | i+1=>zaS l os (y5 l os s i) i
noncomputable def passes (l:Lw) (os:List Ob) (s:List Bool):Nat->List Bool
 | 0=>s
 | n+1=>y5 l os (passes l os s n) s.length
noncomputable def greatest (l:Lw) (os:List Ob) (s:List Bool):List Bool:=passes l os s (s.length+1)
theorem zjW (l:Lw) (os:List Ob) (t:List Bool) (i:Nat):(zaS l os t i).length=t.length:=by
 unfold zaS;split
 ·split <;> simp
 ·rfl
theorem zc7 (l:Lw) (os:List Ob) (s:List Bool):∀ i,(y5 l os s i).length=s.length
 | 0=>rfl
 | i+1=>(zjW _ _ _ _).trans (zc7 l os s i)
theorem za8 (l:Lw) (os:List Ob) (s:List Bool):∀ n,(passes l os s n).length=s.length
 | 0=>rfl
 | n+1=>(zc7 _ _ _ _).trans (za8 l os s n)
theorem zg1 {l:Lw} {os:List Ob} {t:List Bool} {i:Nat} (h:i < os.length) (h':i < t.length):zaS l os t i=if (t[i] && (decide (0 < os[i].hs.length) || stays l os t os[i]))=true then t.set i false else t:=by
 unfold zaS;rw [List.getElem?_eq_getElem h];simp [List.getElem?_eq_getElem h']
end Gate
set_option maxRecDepth 20000 in
theorem zk4 (b:Bk) (a0 a1 a2 a3:Option Addr) (c0 c1 c2 c3:Nat) (w:World) (hb:y7 w b a0 a1 a2 a3) (hl:b.os.length<=1000) :
 Calls Tryz.prog 27 #[.agg #[.int .i64 b.now,.int .i64 b.tick,.int .i64 b.given,.slice a0 b.os.length c0,.slice a1 b.gs.length c1,.slice a2 b.ls.length c2,.slice a3 b.ps.length c3]] w fun e w'=>∃ g cap,e = .returned (.slice (some ⟨g,0,none⟩) b.os.length cap)/\w'.ownsRow w.heap.size 4 1 (.slice (some ⟨g,0,none⟩) b.os.length cap) b.os.length (bls (Gate.endings b.os))/\Below w.heap.size w w':=by
 obtain ⟨i0,hi,hzi0,hz1',hz2⟩:=info_parts Tryz.zm4;have HK:Hid (y7 w b a0 a1 a2 a3):=hb;clear hb;go_enter Tryz.func27,Tryz.ntmps27;go_wp2_with fail
 obtain ⟨hX0,hR0⟩:=yh w (.cells #[.int .i64 b.now,.int .i64 b.tick,.int .i64 b.given,.slice a0 b.os.length c0,.slice a1 b.gs.length c1,.slice a2 b.ls.length c2,.slice a3 b.ps.length c3] 48) (.cells #[] 4);have HB0:Hid (Below w.heap.size w ((w.alloc (.cells #[.int .i64 b.now,.int .i64 b.tick,.int .i64 b.given,.slice a0 b.os.length c0,.slice a1 b.gs.length c1,.slice a2 b.ls.length c2,.slice a3 b.ps.length c3] 48)).alloc (.cells #[] 4))):=zA w _ _;obtain ⟨W0,hW0⟩:∃ W0,W0=(w.alloc (.cells #[.int .i64 b.now,.int .i64 b.tick,.int .i64 b.given,.slice a0 b.os.length c0,.slice a1 b.gs.length c1,.slice a2 b.ls.length c2,.slice a3 b.ps.length c3] 48)).alloc (.cells #[] 4):=⟨_,rfl⟩
 have hz0:w.heap.size+1 < W0.heap.size:=by rw [hW0];simp
 rw [<- hW0] at HB0 hX0 hR0 ⊢;clear hW0;have hX:=zaA hX0;have HR0:Hid (W0.ownsRow (w.heap.size+1) 4 1 (.slice (some ⟨w.heap.size+1,0,none⟩) 0 0) 0 (bls [])):=⟨rfl,.inr ⟨w.heap.size+1,0,#[],rfl,Nat.le_refl _,hR0,Nat.le_refl _,by simp [maxLen],rfl,rfl⟩⟩
 clear hX0 hR0
 go_loopw [3,4] (fun v0 iv wr=>∃ (k:Nat) (v:Value),v=v0/\k<=b.os.length/\iv = .int .i64 k/\Hid ((∃ g,v.ownBlock=some g)/\wr.ownsRow (w.heap.size+1) 4 1 v (Gate.endings (b.os.take k)).length (bls (Gate.endings (b.os.take k)))/\Below (w.heap.size+1) W0 wr)) (fun _ iv _=>b.os.length - (intOf iv).toNat)
 case atStart=>exact ⟨0,_,rfl,Nat.zero_le _,rfl,⟨_,rfl⟩,HR0.out,bRf _ _⟩
 case round =>
  obtain ⟨k,v,hv,hk,rfl,HQ⟩:=hrel;subst hv;have hkn:k<=1000:=by omega
  have hX1:∀ j,wr.cell? ⟨w.heap.size,j,none⟩=(#[.int .i64 b.now,.int .i64 b.tick,.int .i64 b.given,.slice a0 b.os.length c0,.slice a1 b.gs.length c1,.slice a2 b.ls.length c2,.slice a3 b.ps.length c3]:Array Value)[j]?:=fun j=>(HQ.out.2.2.cell (p:=⟨w.heap.size,j,none⟩) (Nat.lt_succ_self _)).trans (hX j)
  have hz1:w.heap.size < wr.heap.size:=by have:=HQ.out.2.2.size;omega
  have HBr:Hid (Below w.heap.size w wr):=HB0.out.trans (HQ.out.2.2.mono (Nat.le_succ _))
  by_cases hlt:k < b.os.length
  ·obtain ⟨ob,off,v0,v1,q0,q1,rfl,hob,_,_,_,d0,d1,d2,d3,d4,d5,d6⟩:=HK.out.os.load HBr.out k hlt
   have hltI:(k:Int) < (b.os.length:Int):=by omega
   have hob':ob < wr.heap.size:=nLt hob HBr.out.size;have HN:Hid (Gate.endings (b.os.take (k+1))=Gate.endings (b.os.take k) ++ [b.os[k].en]):=by unfold Hid Gate.endings;rw [tSe hlt,List.map_append];rfl
   have HLL:Hid ((Gate.endings (b.os.take k)).length<=1000):=by unfold Hid Gate.endings;rw [List.length_map,List.length_take];omega
   clear d0 d1 d2 d3 d5 d6
   go_wp2_with (at_builtin;refine wpList_append_own _ rfl (.tmp 13) (.tmp 20) 66 rfl (w.heap.size+1) 4 i0 (.bool false) 1 1 Tryz.underlying66 hi hzi0 hz1' hz2 rfl (by decide) _ _ _ rfl (HQ.out.2.1.alloc _) ⟨wr.heap.size,0,none⟩ 1 1 [.bool b.os[k].en] rfl rfl (zca _ _ _) (by intro u hu;simp at hu;subst hu;rfl) (by have:=HLL.out;unfold maxLen;omega) (by have:=HLL.out;omega) (by have:=HQ.out.2.2.size;simp;omega) ?_;intro v' w4 hown' hgr hnn)
   have hgb:∀ g',v.ownBlock=some g'->w.heap.size+1<=g':=fun g' hg'=>(HQ.out.2.1.lt g' hg').1
   refine ⟨⟨k+1,_,rfl,by omega,by go_num,?_,?_,zaQ HQ.out.2.2 (by omega) hgr hgb⟩,zn hlt⟩
   ·exact zfU hown' (by omega)
   ·rw [HN.out,List.length_append]
    have e1:bls (Gate.endings (b.os.take k) ++ [b.os[k].en])=bls (Gate.endings (b.os.take k)) ++ [.bool b.os[k].en]:=by simp [bls]
    rw [e1];exact hown'
  ·have e:k=b.os.length:=by omega
   subst e;have HE:Hid (wr.ownsRow (w.heap.size+1) 4 1 v (Gate.endings b.os).length (bls (Gate.endings b.os))/\(∃ g,v.ownBlock=some g)/\Below w.heap.size w wr):=by have:=HQ.out.2.1;rw [tOl (Nat.le_refl _)] at this;exact ⟨this,HQ.out.1,HBr.out⟩
   clear HQ hlt hk;have hel:(Gate.endings b.os).length=b.os.length:=by simp [Gate.endings]
   have HV:Hid (∃ g cap,v = .slice (some ⟨g,0,none⟩) b.os.length cap):=by
    obtain ⟨g,hg⟩:=HE.out.2.1;obtain ⟨g',cap,rfl⟩:=zeT HE.out.1 hg;exact ⟨g',cap,by rw [hel]⟩
   obtain ⟨g,cap,rfl⟩:=HV.out;have HBl:Hid (wr.ownsRow w.heap.size 4 1 (.slice (some ⟨g,0,none⟩) b.os.length cap) b.os.length (bls (Gate.endings b.os))):=by have h:=j3 HE.out.1 (Nat.le_succ w.heap.size);rw [hel] at h;exact h
   have HBe:Hid (Below w.heap.size w wr):=HBr.out;clear HV HE hel;go_wp2_with fail
   go_ret;exact ⟨g,cap,rfl,HBl.out,HBe.out⟩
theorem zk6 (b:Bk) (a0 a1 a2 a3:Option Addr) (c0 c1 c2 c3:Nat) (w:World) (hb:y7 w b a0 a1 a2 a3) (hl:b.os.length<=1000) :
 Calls Tryz.prog 27 #[.agg #[.int .i64 b.now,.int .i64 b.tick,.int .i64 b.given,.slice a0 b.os.length c0,.slice a1 b.gs.length c1,.slice a2 b.ls.length c2,.slice a3 b.ps.length c3]] w fun e w'=>∃ g cap,e = .returned (.slice (some ⟨g,0,none⟩) b.os.length cap)/\zcf w' (some ⟨g,0,none⟩) (Gate.endings b.os)/\Below w.heap.size w w':=by
 refine (zk4 b a0 a1 a2 a3 c0 c1 c2 c3 w hb hl).mono ?_;rintro e w' ⟨g,cap,he,ho,hB⟩;have hel:(Gate.endings b.os).length=b.os.length:=by simp [Gate.endings]
 obtain ⟨a,c,e1,hbl⟩:=zeL (s:=Gate.endings b.os) (by rw [hel];exact ho) (by rw [hel];unfold maxLen;omega);rw [hel] at e1
 cases e1
 exact ⟨g,cap,he,hbl,hB⟩
theorem zpp {w:World} {sb soff:Nat} {s:List Bool} (h:zcf w (some ⟨sb,soff,none⟩) s):∀ j u,(bls s)[j]?=some u->w.cell? ((⟨sb,soff,none⟩:Addr).add j)=some u:=by
 intro j u hu;unfold bls at hu;rw [List.getElem?_map] at hu
 cases hj:s[j]? with
 | none=>rw [hj] at hu;cases hu
 | some x =>
  rw [hj] at hu;obtain ⟨hlt,rfl⟩:=List.getElem?_eq_some_iff.1 hj;obtain ⟨b',off',e,_,hc⟩:=h.cells (by rintro rfl;simp at hlt)
  cases e
  cases hu
  have e1:(⟨sb,soff,none⟩:Addr).add j=⟨sb,soff+j,none⟩:=by
   unfold Addr.add;split
   ·rename_i h;subst h;simp
   ·rfl
  rw [e1];exact hc j hlt
theorem zpY {s:List Bool}:∀ u ∈ bls s,∃ b,u=Value.bool b:=by
 intro u hu;unfold bls at hu;obtain ⟨b,_,rfl⟩:=List.mem_map.1 hu;exact ⟨b,rfl⟩
set_option maxRecDepth 20000 in
theorem zjg (l:Lw) (la lb lc:Option Addr) (lca lcb lcc:Nat) (b:Bk) (a0 a1 a2 a3:Option Addr) (c0 c1 c2 c3:Nat) (sb soff scap:Nat) (s:List Bool) (w:World) (hl:y9 w l la lb lc) (hb:y7 w b a0 a1 a2 a3) (hs:zcf w (some ⟨sb,soff,none⟩) s) (hsl:s.length=b.os.length) (hw:b.os.length<=40/\∀ k (h:k < b.os.length),Gate.zx l.ss b.os[k]=true) (hfw:∀ i (h:i < b.os.length),b.os[i].vs.length<=1048576) :
 Calls Tryz.prog 26 #[.agg #[.slice la l.ss.length lca,.slice lb l.ms.length lcb,.slice lc l.ts.length lcc],.agg #[.int .i64 b.now,.int .i64 b.tick,.int .i64 b.given,.slice a0 b.os.length c0,.slice a1 b.gs.length c1,.slice a2 b.ls.length c2,.slice a3 b.ps.length c3],.slice (some ⟨sb,soff,none⟩) s.length scap] w fun e w'=>∃ a cap,e = .returned (.slice a s.length cap)/\zcf w' a (Gate.greatest l b.os s)/\Below w.heap.size w w':=by
 obtain ⟨i0,hi,hzi0,hz1',hz2⟩:=info_parts Tryz.zm4;have HK:Hid (y7 w b a0 a1 a2 a3):=hb;have HL:Hid (y9 w l la lb lc):=hl;have HO:Hid (b.os.length<=40/\∀ k (h:k < b.os.length),Gate.zx l.ss b.os[k]=true):=hw;have HW:Hid (∀ i (h:i < b.os.length),b.os[i].vs.length<=1048576):=hfw;have HSl:Hid (s.length=b.os.length):=hsl;have hsn:s.length<=40:=by omega
 obtain ⟨hL0,hX0,hR0⟩:=zo9 w (.cells #[.slice la l.ss.length lca,.slice lb l.ms.length lcb,.slice lc l.ts.length lcc] 41) (.cells #[.int .i64 b.now,.int .i64 b.tick,.int .i64 b.given,.slice a0 b.os.length c0,.slice a1 b.gs.length c1,.slice a2 b.ls.length c2,.slice a3 b.ps.length c3] 48) (.cells #[] 4);have hb3:=below3' w (.cells #[.slice la l.ss.length lca,.slice lb l.ms.length lcb,.slice lc l.ts.length lcc] 41) (.cells #[.int .i64 b.now,.int .i64 b.tick,.int .i64 b.given,.slice a0 b.os.length c0,.slice a1 b.gs.length c1,.slice a2 b.ls.length c2,.slice a3 b.ps.length c3] 48) (.cells #[] 4);have HNw:Hid (zcf (((w.alloc (.cells #[.slice la l.ss.length lca,.slice lb l.ms.length lcb,.slice lc l.ts.length lcc] 41)).alloc (.cells #[.int .i64 b.now,.int .i64 b.tick,.int .i64 b.given,.slice a0 b.os.length c0,.slice a1 b.gs.length c1,.slice a2 b.ls.length c2,.slice a3 b.ps.length c3] 48)).alloc (.cells #[] 4)) (some ⟨sb,soff,none⟩) s):=hs.mono hb3;have HB3:Hid (Below w.heap.size w (((w.alloc (.cells #[.slice la l.ss.length lca,.slice lb l.ms.length lcb,.slice lc l.ts.length lcc] 41)).alloc (.cells #[.int .i64 b.now,.int .i64 b.tick,.int .i64 b.given,.slice a0 b.os.length c0,.slice a1 b.gs.length c1,.slice a2 b.ls.length c2,.slice a3 b.ps.length c3] 48)).alloc (.cells #[] 4))):=hb3;have HBk:Hid ((((w.alloc (.cells #[.slice la l.ss.length lca,.slice lb l.ms.length lcb,.slice lc l.ts.length lcc] 41)).alloc (.cells #[.int .i64 b.now,.int .i64 b.tick,.int .i64 b.given,.slice a0 b.os.length c0,.slice a1 b.gs.length c1,.slice a2 b.ls.length c2,.slice a3 b.ps.length c3] 48)).alloc (.cells #[] 4)).heap[w.heap.size]?=some (.cells #[.slice la l.ss.length lca,.slice lb l.ms.length lcb,.slice lc l.ts.length lcc] 41)/\(((w.alloc (.cells #[.slice la l.ss.length lca,.slice lb l.ms.length lcb,.slice lc l.ts.length lcc] 41)).alloc (.cells #[.int .i64 b.now,.int .i64 b.tick,.int .i64 b.given,.slice a0 b.os.length c0,.slice a1 b.gs.length c1,.slice a2 b.ls.length c2,.slice a3 b.ps.length c3] 48)).alloc (.cells #[] 4)).heap[w.heap.size+1]?=some (.cells #[.int .i64 b.now,.int .i64 b.tick,.int .i64 b.given,.slice a0 b.os.length c0,.slice a1 b.gs.length c1,.slice a2 b.ls.length c2,.slice a3 b.ps.length c3] 48)):=⟨hL0,hX0⟩
 clear hb hl hw hfw hs hsl hL0 hX0 hb3;go_enter Tryz.func26,Tryz.ntmps26
 go_wp2_with (at_builtin;refine wpList_append_own _ rfl (.tmp 10) (.tmp 11) 66 rfl (w.heap.size+1+1) 4 i0 (.bool false) 1 1 Tryz.underlying66 hi hzi0 hz1' hz2 rfl (by decide) (.slice (some ⟨w.heap.size+1+1,0,none⟩) 0 0) 0 [] rfl ⟨rfl,.inr ⟨w.heap.size+1+1,0,#[],rfl,Nat.le_refl _,hR0,Nat.le_refl _,by simp [maxLen],rfl,rfl⟩⟩ ⟨sb,soff,none⟩ s.length scap (bls s) rfl (by simp [bls]) (zpp HNw.out) (by intro u hu;obtain ⟨x,rfl⟩:=zpY u hu;rfl) (by unfold maxLen;omega) (by omega) (by simp) ?_;intro v' w1 hown hgr hnn;simp only [Nat.zero_add,List.nil_append] at hown)
 have HB1:Hid (Below (w.heap.size+1+1) (((w.alloc (.cells #[.slice la l.ss.length lca,.slice lb l.ms.length lcb,.slice lc l.ts.length lcc] 41)).alloc (.cells #[.int .i64 b.now,.int .i64 b.tick,.int .i64 b.given,.slice a0 b.os.length c0,.slice a1 b.gs.length c1,.slice a2 b.ls.length c2,.slice a3 b.ps.length c3] 48)).alloc (.cells #[] 4)) w1):=(bRf _ _).grown hgr (by simp) (fun k hk=>by cases hk;exact Nat.le_refl _);have HL1:Hid (w1.heap[w.heap.size]?=some (.cells #[.slice la l.ss.length lca,.slice lb l.ms.length lcb,.slice lc l.ts.length lcc] 41)/\w1.heap[w.heap.size+1]?=some (.cells #[.int .i64 b.now,.int .i64 b.tick,.int .i64 b.given,.slice a0 b.os.length c0,.slice a1 b.gs.length c1,.slice a2 b.ls.length c2,.slice a3 b.ps.length c3] 48)):=⟨(HB1.out.block _ (by omega)).trans HBk.out.1,(HB1.out.block _ (by omega)).trans HBk.out.2⟩
 have HBw:Hid (Below w.heap.size w w1):=HB3.out.trans (HB1.out.mono (by omega));obtain ⟨a,cap,rfl⟩:=yV hown;have HR1:Hid (w1.ownsRow (w.heap.size+1+1) 4 1 (.slice a s.length cap) s.length (bls s)):=hown;have hz1:w.heap.size+1+1 < w1.heap.size:=by have:=HB1.out.size;simp at this;omega
 clear hown hgr hnn hR0 HB3 HBk HNw HB1;have HPl:Hid (∀ n,(Gate.passes l b.os s n).length=s.length):=Gate.za8 l b.os s;go_wp2_with fail
 go_loopw [8] (fun iv wr=>∃ n:Nat,n<=s.length+1/\iv = .int .i64 n/\Hid (wr.ownsRow (w.heap.size+1+1) 4 1 (.slice a s.length cap) s.length (bls (Gate.passes l b.os s n))/\Below (w.heap.size+1+1) w1 wr)) (fun iv _=>s.length+1 - (intOf iv).toNat)
 case atStart=>exact ⟨0,Nat.zero_le _,rfl,HR1.out,bRf _ _⟩
 case round =>
  obtain ⟨n,hn,rfl,HQ⟩:=hrel;obtain ⟨W2,hW2⟩:∃ W2,W2=wr:=⟨_,rfl⟩
  rw [<- hW2] at HQ ⊢;clear hW2;have hnn:n<=41:=by omega
  have HB2:Hid (Below w.heap.size w W2):=HBw.out.trans (HQ.out.2.mono (by omega));have hzW:w.heap.size+1+1 < W2.heap.size:=nLt hz1 HQ.out.2.size
  by_cases hle:n<=s.length
  ·have hleI:(n:Int)<=(s.length:Int):=by omega
   obtain ⟨t,ht⟩:∃ t,t=Gate.passes l b.os s n:=⟨_,rfl⟩
   have HT:Hid (t=Gate.passes l b.os s n):=ht;have htl:t.length=s.length:=by rw [ht];exact HPl.out n
   rw [<- ht] at HQ;clear ht;go_wp2_with fail
   go_loopw [9] (fun jv wi=>∃ i:Nat,i<=s.length/\jv = .int .i64 i/\Hid (wi.ownsRow (w.heap.size+1+1) 4 1 (.slice a s.length cap) s.length (bls (Gate.y5 l b.os t i))/\Below (w.heap.size+1+1) w1 wi)) (fun jv _=>s.length - (intOf jv).toNat)
   case atStart=>exact ⟨0,Nat.zero_le _,rfl,HQ.out.1,HQ.out.2⟩
   case round =>
    obtain ⟨i,hi',rfl,HR⟩:=hrel;have hin:i<=40:=by omega
    have HBi:Hid (Below w.heap.size w wr):=HBw.out.trans (HR.out.2.mono (by omega));have hzi:w.heap.size+1+1 < wr.heap.size:=nLt hz1 HR.out.2.size;have hyi:=nSl hzi;have hqi:=nSl hyi;have hX:=zaA ((HR.out.2.block _ (by omega)).trans HL1.out.2);have hLw:=zaA ((HR.out.2.block _ (by omega)).trans HL1.out.1);have HPt:Hid ((Gate.y5 l b.os t i).length=s.length):=(Gate.zc7 l b.os t i).trans htl
    by_cases hlt:i < s.length
    ·have hlo:i < b.os.length:=by have:=HSl.out;omega
     have hlp:i < (Gate.y5 l b.os t i).length:=by have:=HPt.out;omega
     have hltI:(i:Int) < (s.length:Int):=by omega
     have hloI:(i:Int) < (b.os.length:Int):=by omega
     obtain ⟨g,hg⟩:=zfU HR.out.1 (by omega);obtain ⟨g',cap',e'⟩:=zeT HR.out.1 hg
     cases e'
     clear hg;have hrow:=HR.out.1;have hcell:=hrow.cellAt i (by omega);obtain ⟨ai,ci,ei,hbl⟩:=zeL (s:=Gate.y5 l b.os t i) (by rw [HPt.out];exact HR.out.1) (by rw [HPt.out];unfold maxLen;omega);rw [HPt.out] at ei
     cases ei
     have hgl:=hrow.lt g' rfl;have HD:Hid (Gate.y5 l b.os t (i+1)=if ((Gate.y5 l b.os t i)[i] && (decide (0 < b.os[i].hs.length) || Gate.stays l b.os (Gate.y5 l b.os t i) b.os[i]))=true then (Gate.y5 l b.os t i).set i false else Gate.y5 l b.os t i):=Gate.zg1 hlo hlp;have HRw:Hid (wr.ownsRow (w.heap.size+1+1) 4 1 (.slice (some ⟨g',0,none⟩) s.length cap) s.length (bls (Gate.y5 l b.os t i))/\zcf wr (some ⟨g',0,none⟩) (Gate.y5 l b.os t i)/\w.heap.size+1+1<=g'/\g' < wr.heap.size/\Below (w.heap.size+1+1) w1 wr):=⟨hrow,hbl,hgl.1,hgl.2,HR.out.2⟩
     obtain ⟨p,hp⟩:∃ p,p=Gate.y5 l b.os t i:=⟨_,rfl⟩
     have hgz:=hgl.2;rw [<- hp] at HRw HPt;have hlp':i < p.length:=by rw [hp];exact hlp
     have hci:wr.cell? ⟨g',i,none⟩=some (.bool p[i]):=by
      obtain ⟨_,_,e1,_,hc⟩:=HRw.out.2.1.cells (by rintro rfl;simp at hlp')
      cases e1
      have:=hc i hlp'
      rwa [Nat.zero_add] at this
     have HPd:Hid (Gate.y5 l b.os t (i+1)=if (p[i] && (decide (0 < b.os[i].hs.length) || Gate.stays l b.os p b.os[i]))=true then p.set i false else p):=by subst hp;exact HD.out
     clear hp HD hrow hcell hbl hgl HR hlp
     cases hpi:p[i] with
     | false =>
      rw [hpi] at hci;have HN:Hid (Gate.y5 l b.os t (i+1)=p):=by rw [Hid,HPd.out,hpi];simp
      go_wp2_with fail
      exact ⟨⟨i+1,by omega,by go_num,by rw [HN.out];exact HRw.out.1,HRw.out.2.2.2.2⟩,zn hlt⟩
     | true =>
      rw [hpi] at hci;obtain ⟨ob,off,v0,v1,q0,q1,rfl,hob,_,_,_,d0,d1,d2,d3,d4,d5,d6⟩:=HK.out.os.load HBi.out i hlo;have hob':ob < wr.heap.size:=nLt hob HBi.out.size
      have hfz:∀ o,wr.frozen? ⟨g',o,none⟩=false:=fun o=>by
       obtain ⟨_,⟨h0,_⟩ | ⟨_,_,_,h0,_,h3,_⟩⟩:=HRw.out.1
       ·cases h0
       ·cases h0;exact zi h3
      clear d0 d1 d2 d3 d4 d6
      have HSet:Hid (∀ W,Below wr.heap.size wr W->(W.setCell ⟨g',i,none⟩ (.bool false)).ownsRow (w.heap.size+1+1) 4 1 (.slice (some ⟨g',0,none⟩) s.length cap) s.length (bls (p.set i false))/\Below (w.heap.size+1+1) w1 (W.setCell ⟨g',i,none⟩ (.bool false))/\W.cell? ⟨g',i,none⟩=some (.bool true)/\∀ o,W.frozen? ⟨g',o,none⟩=false):=fun W hW =>
       ⟨zhP (yO HRw.out.1 hW) i hlt false,(HRw.out.2.2.2.2.trans (hW.mono (by omega))).setCell (p:=⟨g',i,none⟩) HRw.out.2.2.1 _,(hW.cell (p:=⟨g',i,none⟩) HRw.out.2.2.2.1).trans hci,fun o=>by
        obtain ⟨_,⟨h0,_⟩ | ⟨_,_,_,h0,_,h3,_⟩⟩:=yO HRw.out.1 hW
        ·cases h0
        ·cases h0;exact zi h3⟩
      by_cases hh:0 < b.os[i].hs.length
      ·have hhI:(0:Int) < (b.os[i].hs.length:Int):=by omega
       have hhd:decide (0 < b.os[i].hs.length)=true:=decide_eq_true hh;have HN:Hid (Gate.y5 l b.os t (i+1)=p.set i false):=by rw [Hid,HPd.out,hpi,hhd];simp
       have HE:=(HSet.out wr (bRf _ _))
       have HE1:Hid _:=HE.1;have HE2:Hid _:=HE.2.1;clear HE;go_wp2_with fail
       exact ⟨⟨i+1,by omega,by go_num,by rw [HN.out];exact HE1.out,HE2.out⟩,zn hlt⟩
      ·have hhI:¬ (0:Int) < (b.os[i].hs.length:Int):=by omega
       have hhd:decide (0 < b.os[i].hs.length)=false:=decide_eq_false hh;have hst:=zl9 l la lb lc lca lcb lcc b (some ⟨ob,off,none⟩) a1 a2 a3 c0 c1 c2 c3 (some ⟨g',0,none⟩) cap p i wr (HL.out.mono HBi.out) (HK.out.mono HBi.out) HRw.out.2.1 (by rw [HPt.out];exact HSl.out) hlo HO.out HW.out;rw [HPt.out] at hst;go_wp2_with fail
       refine hst.mono ?_;rintro e w5 ⟨rfl,hb5⟩;have HE:=HSet.out w5 hb5;have hci5:=HE.2.2.1;have hfz5:=HE.2.2.2;have HE1:Hid _:=HE.1;have HE2:Hid _:=HE.2.1;have HB5:Hid (Below wr.heap.size wr w5):=hb5;have hgz5:=nLt hgz hb5.size;clear HE hb5 hst hci hfz d5 hob'
       cases hsy:Gate.stays l b.os p b.os[i] with
       | true =>
        have HN:Hid (Gate.y5 l b.os t (i+1)=p.set i false):=by rw [Hid,HPd.out,hpi,hsy];simp
        go_wp2_with fail
        exact ⟨⟨i+1,by omega,by go_num,by rw [HN.out];exact HE1.out,HE2.out⟩,zn hlt⟩
       | false =>
        have HN:Hid (Gate.y5 l b.os t (i+1)=p):=by rw [Hid,HPd.out,hpi,hsy,hhd];simp
        go_wp2_with fail
        exact ⟨⟨i+1,by omega,by go_num,by rw [HN.out];exact yO HRw.out.1 HB5.out,HRw.out.2.2.2.2.trans (HB5.out.mono (by have:=HRw.out.2.2.1;have:=HRw.out.2.2.2.1;omega))⟩,zn hlt⟩
    ·have e:i=s.length:=by omega
     subst e;have HN:Hid (Gate.y5 l b.os t s.length=Gate.passes l b.os s (n+1)):=by rw [Hid,HT.out];rfl
     rw [HN.out] at HR;clear hX hLw;go_wp2_with fail
     exact ⟨⟨n+1,by omega,by go_num,HR.out.1,HR.out.2⟩,by simp [intOf];omega⟩
  ·have e:n=s.length+1:=by omega
   subst e;have hleI:¬ ((s.length+1:Nat):Int)<=(s.length:Int):=by omega
   obtain ⟨ai,ci,ei,hbl⟩:=zeL (s:=Gate.greatest l b.os s) (by have h:=HPl.out (s.length+1);unfold Gate.greatest;rw [h];exact HQ.out.1) (by have h:=HPl.out (s.length+1);unfold Gate.greatest;rw [h];unfold maxLen;omega);have hgl:(Gate.greatest l b.os s).length=s.length:=HPl.out (s.length+1);rw [hgl] at ei;have HE:Hid (zcf W2 a (Gate.greatest l b.os s)):=by cases ei;exact hbl
   clear HQ hbl ei;go_wp2_with fail
   go_ret;exact ⟨a,⟨cap,rfl⟩,HE.out,HB2.out⟩
end Go.Proofs.YtghnakljnhnenaaGreat
namespace Go.Proofs.YtghnakljnhnenaaGreat
namespace Gate
def zfw (os:List Ob) (s:List Bool) (i:Nat):Prop:=∃ h:i < os.length,s.getD i false=false \/ 0 < os[i].hs.length
def zkz (l:Lw) (os:List Ob) (K:Nat->Prop):Prop:=∀ i j (hi:i < os.length) (hj:j < os.length),K i->tied l os[i] os[j]=true->K j
def zlc (l:Lw) (os:List Ob) (s:List Bool) (i:Nat):Prop:=∀ K:Nat->Prop,(∀ j,zfw os s j->K j)->zkz l os K->K i
theorem zkx {l:Lw} {os:List Ob} {t:List Bool} {p:Ob}:stays l os t p=true ↔ ∃ k,∃ h:k < os.length,t.getD k false=false/\tied l os[k] p=true:=by
 unfold stays zbg;rw [List.any_eq_true]
 constructor
 ·rintro ⟨k,hk,hs⟩
  have hk':=List.mem_range.1 hk;unfold zfD at hs;rw [List.getElem?_eq_getElem hk'] at hs;simp only [Bool.and_eq_true,Bool.not_eq_true'] at hs;exact ⟨k,hk',hs.1,hs.2⟩
 ·rintro ⟨k,hk,h1,h2⟩
  refine ⟨k,List.mem_range.2 hk,?_⟩;unfold zfD;rw [List.getElem?_eq_getElem hk];simp only [h1,h2,Bool.not_false,Bool.and_true]
theorem getD_set_ne {t:List Bool} {i j:Nat} (h:i ≠ j) (v:Bool):(t.set i v).getD j false=t.getD j false:=by
 simp [List.getD_eq_getElem?_getD,List.getElem?_set_ne h]
theorem zcK {t:List Bool} {i:Nat}:(t.set i false).getD i false=false:=by
 rw [List.getD_eq_getElem?_getD,List.getElem?_set,if_pos rfl]
 split <;> rfl
theorem zmP (l:Lw) (os:List Ob) (t:List Bool) (i j:Nat) (h:t.getD j false=false):(zaS l os t i).getD j false=false:=by
 unfold zaS
 split
 ·split
  ·by_cases e:i=j
   ·subst e;exact zcK
   ·rw [getD_set_ne e];exact h
  ·exact h
 ·exact h
theorem zho (l:Lw) (os:List Ob) (t:List Bool) (j:Nat) (h:t.getD j false=false):∀ i,(y5 l os t i).getD j false=false
 | 0=>h
 | i+1=>zmP l os _ i j (zho l os t j h i)
theorem zht (l:Lw) (os:List Ob) (s:List Bool) (j:Nat) (h:s.getD j false=false):∀ n,(passes l os s n).getD j false=false
 | 0=>h
 | n+1=>zho l os _ j (zht l os s j h n) _
def Sound (l:Lw) (os:List Ob) (s t:List Bool):Prop:=∀ i,i < os.length->t.getD i false=false->zlc l os s i
theorem Sound.start (l:Lw) (os:List Ob) (s:List Bool):Sound l os s s:=fun i hi h _ hr _=>hr i ⟨hi,Or.inl h⟩
theorem Sound.drop {l:Lw} {os:List Ob} {s t:List Bool} (h:Sound l os s t) (i:Nat):Sound l os s (zaS l os t i):=by
 intro j hj hd
 by_cases e:i=j
 ·subst e
  unfold zaS at hd;rw [List.getElem?_eq_getElem hj] at hd
  simp only at hd
  split at hd
  ·rename_i hc
   simp only [Bool.and_eq_true,Bool.or_eq_true,decide_eq_true_eq] at hc
   rcases hc.2 with h0 | h0
   ·exact fun _ hr _=>hr i ⟨hj,Or.inr h0⟩
   ·obtain ⟨k,hk,h1,h2⟩:=zkx.1 h0
    exact fun K hr hc=>hc k i hk hj (h k hk h1 K hr hc) h2
  ·exact h i hj hd
 ·have:t.getD j false=false:=by
   unfold zaS at hd
   split at hd
   ·split at hd
    ·rwa [getD_set_ne e] at hd
    ·exact hd
   ·exact hd
  exact h j hj this
theorem Sound.y5 {l:Lw} {os:List Ob} {s t:List Bool} (h:Sound l os s t):∀ i,Sound l os s (y5 l os t i)
 | 0=>h
 | i+1=>(Sound.y5 h i).drop i
theorem Sound.passes (l:Lw) (os:List Ob) (s:List Bool):∀ n,Sound l os s (passes l os s n)
 | 0=>Sound.start l os s
 | n+1=>(Sound.passes l os s n).y5 _
def inside (t:List Bool):Nat:=t.countP id
theorem zn3 {t:List Bool} {i:Nat} (h:i < t.length) (ht:t[i]=true):inside (t.set i false)+1=inside t:=by
 unfold inside;rw [List.countP_set h,ht]
 have:0 < t.countP id:=List.countP_pos_iff.2 ⟨t[i],List.getElem_mem h,by rw [ht];rfl⟩
 simp
 omega
theorem zlq (l:Lw) (os:List Ob) (t:List Bool) (i:Nat):zaS l os t i=t \/ inside (zaS l os t i)+1=inside t:=by
 unfold zaS
 split
 ·split
  ·rename_i hc
   simp only [Bool.and_eq_true] at hc
   have hi:i < t.length:=by
    rcases Nat.lt_or_ge i t.length with h | h
    ·exact h
    ·have h1:=hc.1;rw [List.getD_eq_getElem?_getD,List.getElem?_eq_none h] at h1;cases h1
   have ht:t[i]=true:=by have h1:=hc.1;rwa [List.getD_eq_getElem?_getD,List.getElem?_eq_getElem hi] at h1
   exact Or.inr (zn3 hi ht)
  ·exact Or.inl rfl
 ·exact Or.inl rfl
theorem zcq (l:Lw) (os:List Ob) (t:List Bool):∀ i,(∀ j,j<=i->y5 l os t j=t) \/ inside (y5 l os t i) < inside t
 | 0=>Or.inl fun j hj=>by
  have:j=0:=by omega
  subst this;rfl
 | i+1=>by
  have hd:=zlq l os (y5 l os t i) i
  rcases zcq l os t i with h | h
  ·rcases hd with e | e
   ·refine Or.inl fun j hj=>?_
    rcases Nat.lt_or_ge j (i+1) with hl | hg
    ·exact h j (by omega)
    ·have:j=i+1:=by omega
     subst this;exact e.trans (h i (Nat.le_refl _))
   ·refine Or.inr ?_
    show inside (zaS l os (y5 l os t i) i) < _
    rw [h i (Nat.le_refl _)] at e ⊢;omega
  ·refine Or.inr ?_
   show inside (zaS l os (y5 l os t i) i) < _
   rcases hd with e | e
   ·rw [e];exact h
   ·omega
theorem zhp (l:Lw) (os:List Ob) (s:List Bool):∀ n,(y5 l os (passes l os s n) s.length=passes l os s n) \/ inside (passes l os s (n+1))+(n+1)<=inside s
 | 0=>by
  rcases zcq l os s s.length with h | h
  ·exact Or.inl (h _ (Nat.le_refl _))
  ·exact Or.inr (by show inside (y5 l os s s.length)+1<=_;omega)
 | n+1=>by
  rcases zcq l os (passes l os s (n+1)) s.length with h | h
  ·exact Or.inl (h _ (Nat.le_refl _))
  ·rcases zhp l os s n with e | e
   ·refine Or.inl ?_
    have:passes l os s (n+1)=passes l os s n:=e
    rw [this];exact e
   ·exact Or.inr (by show inside (y5 l os (passes l os s (n+1)) s.length)+(n+1+1)<=_;omega)
theorem zoJ (s:List Bool):inside s<=s.length:=List.countP_le_length
theorem zfg (l:Lw) (os:List Ob) (s:List Bool):y5 l os (greatest l os s) s.length=greatest l os s:=by
 rcases zhp l os s (s.length+1) with h | h
 ·exact h
 ·have:=zoJ s;omega
theorem zkK {l:Lw} {os:List Ob} {t:List Bool} {n:Nat} (h:y5 l os t n=t) (i:Nat) (hi:i < n):zaS l os t i=t:=by
 rcases zcq l os t n with hc | hc
 ·have h1:=hc i (by omega)
  have h2:=hc (i+1) (by omega);have h3:y5 l os t (i+1)=zaS l os (y5 l os t i) i:=rfl;rw [h1] at h3;exact h3.symm.trans h2
 ·rw [h] at hc;omega
theorem zk7 (l:Lw) (os:List Ob) (s:List Bool) (hs:s.length=os.length) (i:Nat) (hi:i < os.length):(greatest l os s).getD i false=false ↔ zlc l os s i:=by
 refine ⟨fun h=>Sound.passes l os s _ i hi h,fun h=>?_⟩;refine h (fun j=>j < os.length->(greatest l os s).getD j false=false) (fun j hj _=>?_) (fun a c ha hc hK ht _=>?_) hi
 ·obtain ⟨hj,h0 | h0⟩:=hj
  ·exact zht l os s j h0 _
  ·have hr:=zkK (zfg l os s) j (by omega)
   cases hg:(greatest l os s).getD j false with
   | false=>rfl
   | true =>
    exfalso
    have hgl:j < (greatest l os s).length:=by unfold greatest;rw [za8];omega
    have hgj:(greatest l os s)[j]=true:=by rwa [List.getD_eq_getElem?_getD,List.getElem?_eq_getElem hgl] at hg
    rw [zg1 hj hgl,hgj,decide_eq_true h0] at hr;simp only [Bool.true_or,Bool.and_self,if_true] at hr;have h1:=congrArg (fun x=>x.getD j false) hr;simp only [zcK,hg] at h1
    cases h1
 ·have hr:=zkK (zfg l os s) c (by omega)
  cases hg:(greatest l os s).getD c false with
  | false=>rfl
  | true =>
   exfalso
   have hgl:c < (greatest l os s).length:=by unfold greatest;rw [za8];omega
   have hgj:(greatest l os s)[c]=true:=by rwa [List.getD_eq_getElem?_getD,List.getElem?_eq_getElem hgl] at hg
   have hst:stays l os (greatest l os s) os[c]=true:=zkx.2 ⟨a,ha,hK ha,ht⟩;rw [zg1 hc hgl,hgj,hst] at hr;simp only [Bool.or_true,Bool.and_self,if_true] at hr;have h1:=congrArg (fun x=>x.getD c false) hr;simp only [zcK,hg] at h1
   cases h1
end Gate
end Go.Proofs.YtghnakljnhnenaaGreat
namespace Go.Proofs.YtghnakljnhnenaaGreat
namespace Gate
theorem zpX {ss:List Shp} (hs:zQ ss=true) (v:ByteArray) (k:Nat) (f:Fld) (hf:(shapeOf ss v).fs[k]?=some f) (h4:f.kd=4):1<=f.rl/\f.rl<=3:=by
 cases hk:zF ss v with
 | false =>
  rw [zge ss v hk] at hf
  simp [zb2] at hf
 | true =>
  obtain ⟨i,hi,he⟩:=zc4 hk;rw [he] at hf;unfold zQ at hs;rw [Bool.and_eq_true] at hs;have h1:=ze6 hi hs.2;unfold yR at h1;rw [Bool.and_eq_true,getD_at ss i _ hi] at h1;have h2:=h1.2;unfold yU at h2;rw [Bool.and_eq_true] at h2;obtain ⟨hk',rfl⟩:=List.getElem?_eq_some_iff.1 hf;have h3:=ze6 hk' h2.2;rw [zgB _ _ _ hk'] at h3;unfold yF zZ at h3;rw [h4] at h3
  simp at h3
  exact h3.2.1.2.1.1.2
theorem zn9 {ss:List Shp} (hs:zQ ss=true) (v:ByteArray) (vs:List ByteArray) (n:Nat) (x:Lk) (hx:x ∈ qH (shapeOf ss v).fs vs n):1<=x.rl/\x.rl<=3:=by
 unfold qH at hx;rw [List.mem_flatMap] at hx;obtain ⟨k,_,hx⟩:=hx;unfold zeF at hx
 split at hx
 ·rename_i f u hf hv
  split at hx
  ·rename_i h
   have:=zpX hs v k f hf h.1.1
   simp only [List.mem_singleton] at hx;subst hx;exact this
  ·simp at hx
 ·simp at hx
theorem zmO {l:Lw} (hs:zQ l.ss=true) (o p:Ob):tied l o p=true ↔ ∃ x ∈ qH (shapeOf l.ss o.kd).fs o.vs (shapeOf l.ss o.kd).fs.length,x.rl ≠ 2/\jL x.to x.nm p=true:=by
 unfold tied names jG;rw [Bool.or_eq_true,List.any_eq_true,List.any_eq_true]
 constructor
 ·rintro (⟨x,hx,h⟩ | ⟨x,hx,h⟩)
  ·rw [Bool.and_eq_true,decide_eq_true_eq] at h
   exact ⟨x,hx,by omega,h.2⟩
  ·rw [Bool.and_eq_true,decide_eq_true_eq] at h
   exact ⟨x,hx,by omega,h.2⟩
 ·rintro ⟨x,hx,h2,hp⟩
  have hr:=zn9 hs _ _ _ x hx
  rcases (by omega:x.rl=1 \/ x.rl=3) with h | h
  ·exact Or.inl ⟨x,hx,by rw [h,hp];rfl⟩
  ·exact Or.inr ⟨x,hx,by rw [h,hp];rfl⟩
end Gate
end Go.Proofs.YtghnakljnhnenaaGreat
