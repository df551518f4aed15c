import Derived.Test.YtjnpjkigofldlaaGreatM43
import Derived.Test.YtjnpjkigofldlaaGreatM47
import Derived.Test.YtjnpjkigofldlaaGreatM46
set_option maxRecDepth 20000
set_option maxHeartbeats 8000000
namespace Go.Proofs.YtjnpjkigofldlaaGreat
open Go.RowKit
variable {i k lo n:Nat}{w:World}{s t:List Bool}{v:Value}{l:Lw}{os:List Ob}{p:Ob}{A:Nat->Prop}{S S':Nat->Bool}
theorem zbn (l:Lw)(b:Bk):qG l b=(zcv l&&((within b.now 0 1000000&&(within b.tick 0 1000000&&within b.given 0 b.now))&&(zM l b&&(yK b&&jM l b)))):=rfl
theorem zfA (n lo hi:Int)(w:World):Calls Tryz.prog 63 #[.i n,.i lo,.i hi] w fun e w'=>e=.returned (.bool (within n lo hi))/\w'=w:=zah n lo hi w
theorem zrU {n lo hi:Int}(h:within n lo hi=true):lo<=n/\n<=hi:=by unfold within at h;simpa using h
theorem zll (l:Lw)(la lb lc:OA)(lca lcb lcc:Nat)(b:Bk)(a0 a1 a2 a3:OA)(c0 c1 c2 c3:Nat)(w:World)(hl:qp w l la lb lc)(hb:qj w b a0 a1 a2 a3)(hh:zb1 w a0 b.os)(hbf:b.Few)(hz:qK b.os<=1048576) :
 Calls Tryz.prog 22 #[.agg (l.cells la lb lc lca lcb lcc),.agg (b.cells a0 a1 a2 a3 c0 c1 c2 c3)] w fun e w'=>e=.returned (.bool (qG l b))/\Bw w w':=by
 have HK:=hid hb;have HL:=hid hl;have HH:=hid hh;have HF:Hid (b.Few/\qK b.os<=1048576):=⟨hbf,hz⟩
 clear hb hl hh hbf hz;unfold Lw.cells Bk.cells;go_in;go_wp2_with fail
 obtain⟨hL0,hX0⟩:=qB w (lC l la lb lc lca lcb lcc) (bC b a0 a1 a2 a3 c0 c1 c2 c3) 47 40;have HBi:Hid (Bw w ((w.alloc (.cells (lC l la lb lc lca lcb lcc) 47)).alloc (.cells (bC b a0 a1 a2 a3 c0 c1 c2 c3) 40))):=zo w _ _;obtain⟨W0,hW0⟩:=xN ((w.alloc (.cells (lC l la lb lc lca lcb lcc) 47)).alloc (.cells (bC b a0 a1 a2 a3 c0 c1 c2 c3) 40));have hz0:w.heap.size+1<W0.heap.size:=by rw[hW0];simp
 rw[<- hW0]at HBi hX0 hL0 ⊢;clear hW0;refine(zlQ l la lb lc lca lcb lcc _ (HL.o.mono HBi.o)).mono ?_;rintro e w1⟨rfl,hb0⟩;have hX1:=za hX0 hz0 hb0;have hL1:=za hL0 (nSl hz0) hb0;have hz1:=nLt hz0 hb0.size;have HBi:=hid (HBi.o.trans (hb0.mono HBi.o.size));clear hb0 hX0 hL0 hz0;have hy1:=nSl hz1
 by_cases t:zcv l=true
 rotate_left
 ·have HN:Hid (qG l b=false):=by rw[Hid,zbn,bFi t];simp
  rw[bFi t];clear t;go_wp2
  go_ret;exact⟨ze HN.o.symm,HBi.o⟩
 have HT0:=hid t;rw[t];clear t;go_wp2_with fail
 have HM:Hid (yj l.ss l.ms=true):=by have t:=HT0.o;unfold zcv at t;simp only[Bool.and_eq_true]at t;exact t.1
 refine(zfA b.now (0) (1000000) _).mono ?_;rintro e w2⟨rfl,rfl⟩;have hX2:=hX1;have hL2:=hL1;have hz2:=hz1;clear hX1 hL1 hz1;have hy2:=nSl hz2;have hcv:within b.now 0 1000000=within b.now 0 1000000:=rfl;clear hcv
 by_cases t:within b.now 0 1000000=true
 rotate_left
 ·have HN:Hid (qG l b=false):=by rw[Hid,zbn,HT0.o,bFi t];simp
  rw[bFi t];clear t;go_wp2
  go_ret;exact⟨ze HN.o.symm,HBi.o⟩
 have HT1:=hid t;rw[t];clear t;go_wp2_with fail
 refine(zfA b.tick (0) (1000000) _).mono ?_;rintro e w3⟨rfl,rfl⟩;have hX3:=hX2;have hL3:=hL2;have hz3:=hz2;clear hX2 hL2 hz2;have hy3:=nSl hz3;have hcv:within b.tick 0 1000000=within b.tick 0 1000000:=rfl;clear hcv
 by_cases t:within b.tick 0 1000000=true
 rotate_left
 ·have HN:Hid (qG l b=false):=by rw[Hid,zbn,HT0.o,HT1.o,bFi t];simp
  rw[bFi t];clear t;go_wp2
  go_ret;exact⟨ze HN.o.symm,HBi.o⟩
 have HT2:=hid t;rw[t];clear t;go_wp2_with fail
 refine(zfA b.given (0) (b.now) _).mono ?_;rintro e w4⟨rfl,rfl⟩;have hX4:=hX3;have hL4:=hL3;have hz4:=hz3;clear hX3 hL3 hz3;have hy4:=nSl hz4;have hcv:within b.given 0 b.now=within b.given 0 b.now:=rfl;clear hcv
 by_cases t:within b.given 0 b.now=true
 rotate_left
 ·have HN:Hid (qG l b=false):=by rw[Hid,zbn,HT0.o,HT1.o,HT2.o,bFi t];simp
  rw[bFi t];clear t;go_wp2
  go_ret;exact⟨ze HN.o.symm,HBi.o⟩
 have HT3:=hid t;rw[t];clear t;go_wp2_with fail
 refine(zjk l la lb lc lca lcb lcc b a0 a1 a2 a3 c0 c1 c2 c3 _ (HL.o.mono HBi.o) (HK.o.mono HBi.o) (HH.o.mono HBi.o) HM.o HF.o.1.os.2).mono ?_;rintro e w5⟨rfl,hb4⟩;have hX5:=za hX4 hz4 hb4;have hL5:=za hL4 (nSl hz4) hb4;have hz5:=nLt hz4 hb4.size;have HBi:=hid (HBi.o.trans (hb4.mono HBi.o.size));clear hb4 hX4 hL4 hz4;have hy5:=nSl hz5
 by_cases t:zM l b=true
 rotate_left
 ·have HN:Hid (qG l b=false):=by rw[Hid,zbn,HT0.o,HT1.o,HT2.o,HT3.o,bFi t];simp
  rw[bFi t];clear t;go_wp2
  go_ret;exact⟨ze HN.o.symm,HBi.o⟩
 have HT4:=hid t;rw[t];clear t;go_wp2_with fail
 refine(zln b a0 a1 a2 a3 c0 c1 c2 c3 _ (HK.o.mono HBi.o)).mono ?_;rintro e w6⟨rfl,hb5⟩;have hX6:=za hX5 hz5 hb5;have hL6:=za hL5 (nSl hz5) hb5;have hz6:=nLt hz5 hb5.size;have HBi:=hid (HBi.o.trans (hb5.mono HBi.o.size));clear hb5 hX5 hL5 hz5;have hy6:=nSl hz6
 by_cases t:yK b=true
 rotate_left
 ·have HN:Hid (qG l b=false):=by rw[Hid,zbn,HT0.o,HT1.o,HT2.o,HT3.o,HT4.o,bFi t];simp
  rw[bFi t];clear t;go_wp2
  go_ret;exact⟨ze HN.o.symm,HBi.o⟩
 have HT5:=hid t;rw[t];clear t;go_wp2_with fail
 refine(znZ l la lb lc lca lcb lcc b a0 a1 a2 a3 c0 c1 c2 c3 _ (HL.o.mono HBi.o) (HK.o.mono HBi.o) (zrU HT2.o) HF.o.2).mono ?_;rintro e w7⟨rfl,hb6⟩;have hX7:=za hX6 hz6 hb6;have hL7:=za hL6 (nSl hz6) hb6;have hz7:=nLt hz6 hb6.size;have HBi:=hid (HBi.o.trans (hb6.mono HBi.o.size));clear hb6 hX6 hL6 hz6;have hy7:=nSl hz7;have HN:Hid (jM l b=qG l b):=by rw[Hid,zbn,HT0.o,HT1.o,HT2.o,HT3.o,HT4.o,HT5.o];rfl
 rw[HN.o];go_wp2
 go_ret;exact⟨rfl,HBi.o⟩
structure zcG (w:World)(a:OA)(s:List Bool):Prop where
 len:s.length<=maxLen
 cells:s≠[]->∃b off,a=some (aD b off)/\b<w.heap.size/\∀i (h:i<s.length),w.cell? (aD b (off+i))=some (.bool s[i])
theorem zcG.mono {w':World}{a:OA}(h:zcG w a s)(hb:Bw w w'):zcG w' a s:=
 ⟨h.len,fun hne=>by
  obtain⟨b,off,ha,hbs,hc⟩:=h.cells hne;exact⟨b,off,ha,nLt hbs hb.size,fun i hi=>(hb.cell (p:=(aD b (off+i))) hbs).trans (hc i hi)⟩⟩
def bls (s:List Bool):List Value:=s.map Value.bool
theorem zfG (h:w.ownsRow lo 4 1 v s.length (bls s))(hl:s.length<=maxLen):∃a cap,v=.l a s.length cap/\zcG w a s:=by
 obtain⟨a,cap,rfl⟩:=yY h;refine⟨a,cap,rfl,hl,fun hne=>?_⟩;obtain⟨_,⟨h0,h1⟩|⟨g,cp,cur,h0,h1⟩⟩:=id h
 ·exact absurd (List.length_eq_zero_iff.1 h1) hne
 ·cases h0
  refine⟨g,0,rfl,(h.lt g rfl).2,fun i hi=>?_⟩;rw[Nat.zero_add,h.cellAt i (by omega)]
  simp[bls,hi]
noncomputable def tied (l:Lw)(o p:Ob):Bool:=names l o p 1||names l o p 3
noncomputable def zgF (l:Lw)(os:List Ob)(s:List Bool)(p:Ob)(k:Nat):Bool:=match os[k]? with|some o=>!(s.getD k false)&&tied l o p|none=>false
noncomputable def zbe (l:Lw)(os:List Ob)(s:List Bool)(p:Ob)(k:Nat):Bool:=(List.range k).any (zgF l os s p)
noncomputable def stays (l:Lw)(os:List Ob)(s:List Bool)(p:Ob):Bool:=zbe l os s p os.length
theorem znp (l:Lw)(os:List Ob)(s:List Bool)(p:Ob)(k:Nat):zbe l os s p (k+1)=(zbe l os s p k||zgF l os s p k):=by
 unfold zbe;rw[List.range_succ,List.any_append];simp
theorem zmM (h:k<os.length)(h':k<s.length):zgF l os s p k=(!s[k]&&tied l os[k] p):=by
 unfold zgF;rw[List.getElem?_eq_getElem h];simp[List.getElem?_eq_getElem h']
theorem zqf (h:k<os.length)(hs:zgF l os s p k=true):stays l os s p=true:=by
 unfold stays zbe;exact List.any_eq_true.2 ⟨k,List.mem_range.2 h,hs⟩
def endings (os:List Ob):List Bool:=os.map Ob.en
def zbS (s:List Bool)(k:Nat):List Int:=if s.getD k false=true then [(k:Int)] else []
def yE (s:List Bool):Nat->List Int
 | 0=>[]
 | k+1=>yE s k++zbS s k
def places (s:List Bool):List Int:=yE s s.length
theorem zdA (s:List Bool):∀k,(yE s k).length<=k
 | 0=>Nat.le_refl _
 | k+1=>by
  have h:=zdA s k
  show(yE s k++zbS s k).length<=_
  have h2:(zbS s k).length<=1:=by unfold zbS;split <;> simp
  rw[List.length_append];omega
theorem zeH (h:k<s.length)(hs:s[k]=true):yE s (k+1)=yE s k++[(k:Int)]:=by
 show yE s k++zbS s k=_
 unfold zbS;simp[List.getElem?_eq_getElem h,hs]
theorem zfp (h:k<s.length)(hs:s[k]=false):yE s (k+1)=yE s k:=by
 show yE s k++zbS s k=_
 unfold zbS;simp[List.getElem?_eq_getElem h,hs]
theorem zqd (l:Lw)(la lb lc:OA)(lca lcb lcc:Nat)(b:Bk)(a0 a1 a2 a3:OA)(c0 c1 c2 c3:Nat)(sa:OA)(scap:Nat)(s:List Bool)(i:Nat)(w:World)(hl:qp w l la lb lc)(hb:qj w b a0 a1 a2 a3)(hs:zcG w sa s)(hsl:s.length=b.os.length)(hi:i<b.os.length)(hw:b.os.length<=40/\∀k (h:k<b.os.length),zq l.ss b.os[k]=true)(hfw:∀i (h:i<b.os.length),b.os[i].vs.length<=1048576) :
 Calls Tryz.prog 129 #[.agg (lC l la lb lc lca lcb lcc),.agg (bC b a0 a1 a2 a3 c0 c1 c2 c3),.l sa s.length scap,.i (i:Int)] w fun e w'=>e=.returned (.bool (stays l b.os s b.os[i]))/\Bw w w':=by
 have HK:=hid hb;have HL:=hid hl;have HO:=hid hw;have HW:=hid hfw;have HS:Hid (zcG w sa s/\s.length=b.os.length):=⟨hs,hsl⟩
 clear hb hl hw hfw hs hsl;go_in;go_wp2_with fail
 obtain⟨hL0,hX0⟩:=qB w (lC l la lb lc lca lcb lcc) (bC b a0 a1 a2 a3 c0 c1 c2 c3) 47 40;have HBi:Hid (Bw w ((w.alloc (.cells (lC l la lb lc lca lcb lcc) 47)).alloc (.cells (bC b a0 a1 a2 a3 c0 c1 c2 c3) 40))):=zo w _ _;obtain⟨W0,hW0⟩:=xN ((w.alloc (.cells (lC l la lb lc lca lcb lcc) 47)).alloc (.cells (bC b a0 a1 a2 a3 c0 c1 c2 c3) 40));have hz0:w.heap.size+1<W0.heap.size:=by rw[hW0];simp
 rw[<- hW0]at HBi hX0 hL0 ⊢;clear hW0;have hq0:=nSl hz0
 go_loopw [9] (fun iv wr=>∃k:Nat,k<=b.os.length/\iv=.i k/\Hid (zbe l b.os s b.os[i] k=false/\Bw W0 wr)) (fun iv _=>b.os.length-(intOf iv).toNat)
 case atStart=>exact⟨0,Nat.zero_le _,rfl,by simp[zbe],bRf _ _⟩
 case round=>
  obtain⟨k,hk,rfl,HQ⟩:=hrel;have hkn:k<=40:=by have:=HO.o.1;omega
  have hX1:=za hX0 hz0 HQ.o.2;have hL1:=za hL0 hq0 HQ.o.2;have hz1:=nLt hz0 HQ.o.2.size;have hq1:=nLt hq0 HQ.o.2.size;have HBr:=hid (HBi.o.trans (HQ.o.2.mono HBi.o.size))
  by_cases hlt:k<b.os.length
  ·have hls:k<s.length:=by rw[HS.o.2];exact hlt
   obtain⟨sb,off,rfl,hsb,hc⟩:=HS.o.1.cells (by rintro rfl;simp at hls);have hltI:(k:Int)<(b.os.length:Int):=by omega
   have hltS:(k:Int)<(s.length:Int):=by omega
   have hck:=(HBr.o.cell (p:=(aD sb (off+k))) hsb).trans (hc k hls);have hsb':=nLt hsb HBr.o.size;have HSu:Hid (zbe l b.os s b.os[i] (k+1)=(zbe l b.os s b.os[i] k||(!s[k]&&tied l b.os[k] b.os[i]))):=by rw[Hid,znp,zmM hlt hls]
   have HFo:Hid ((!s[k]&&tied l b.os[k] b.os[i])=true->stays l b.os s b.os[i]=true):=fun h=>zqf hlt (by rw[zmM hlt hls];exact h)
   clear hc
   cases he:s[k] with
   | true=>
    rw[he]at hck;have HN:Hid (zbe l b.os s b.os[i] (k+1)=false):=by rw[Hid,HSu.o,HQ.o.1,he];simp
    go_wp2
    exact⟨⟨k+1,by omega,by go_num,HN.o,HQ.o.2⟩,zi hlt⟩
   | false=>
    rw[he]at hck;go_wp2_with fail
    refine(zfI l la lb lc lca lcb lcc b a0 a1 a2 a3 c0 c1 c2 c3 k i 1 wr (HL.o.mono HBr.o) (HK.o.mono HBr.o) hlt hi (HO.o.2 k hlt) (HW.o k hlt)).mono ?_;rintro e w2⟨rfl,hb2⟩;have hX2:=za hX1 hz1 hb2;have hL2:=za hL1 hq1 hb2;have hz2:=nLt hz1 hb2.size;have hq2:=nLt hq1 hb2.size;have HB2:=hid (HQ.o.2.trans (hb2.mono HQ.o.2.size));have HBw2:=hid (HBi.o.trans (HB2.o.mono HBi.o.size));clear hb2 hX1 hL1 hz1 hq1 hck hsb'
    cases h1:names l b.os[k] b.os[i] 1 with
    | true=>
     have HF:Hid (stays l b.os s b.os[i]=true):=HFo.o (by unfold tied;rw[he,h1];rfl);go_wp2
     go_ret;exact⟨ze HF.o.symm,HBw2.o⟩
    | false=>
     go_wp2_with fail
     refine(zfI l la lb lc lca lcb lcc b a0 a1 a2 a3 c0 c1 c2 c3 k i 3 w2 (HL.o.mono HBw2.o) (HK.o.mono HBw2.o) hlt hi (HO.o.2 k hlt) (HW.o k hlt)).mono ?_;rintro e w3⟨rfl,hb3⟩;have HB3:=hid (HB2.o.trans (hb3.mono HB2.o.size));have HBw3:=hid (HBi.o.trans (HB3.o.mono HBi.o.size));clear hb3
     cases h3:names l b.os[k] b.os[i] 3 with
     | true=>
      have HF:Hid (stays l b.os s b.os[i]=true):=HFo.o (by unfold tied;rw[he,h3];simp);go_wp2
      go_ret;exact⟨ze HF.o.symm,HBw3.o⟩
     | false=>
      have HN:Hid (zbe l b.os s b.os[i] (k+1)=false):=by rw[Hid,HSu.o,HQ.o.1,he];unfold tied;rw[h1,h3];rfl
      go_wp2
      exact⟨⟨k+1,by omega,by go_num,HN.o,HB3.o⟩,zi hlt⟩
  ·have e:k=b.os.length:=by omega
   subst e;have HN:=hid HQ.o.1;clear HQ hlt hk;go_wp2
   go_ret;exact⟨ze HN.o.symm,HBr.o⟩
theorem Tryz.zpA:(Tryz.prog.info? 4).map (fun i=>(i.zero,i.size,i.bytes))=some (some (.bool false),1,1):=by kernel_rfl
theorem zjV {g cap:Nat}(h:w.ownsRow lo 4 1 (.l (some (aD g 0)) n cap) n (bls s))(i:Nat)(_hi:i<n)(v:Bool):(w.setCell (aD g i) (.bool v)).ownsRow lo 4 1 (.l (some (aD g 0)) n cap) n (bls (s.set i v)):=by
 obtain⟨hl,⟨h0,_⟩|⟨g',cp,cur,h0,h2,h3,h4,h5,h6,h7⟩⟩:=h
 ·cases h0
 ·cases h0
  refine⟨by simpa[bls] using hl,.inr ⟨g,cap,cur.setIfInBounds i (.bool v),rfl,h2,zh h3 _,h4,h5,by simpa using h6,?_⟩⟩;rw[Array.toList_setIfInBounds,Nat.mul_one,List.take_set];rw[Nat.mul_one]at h7;rw[h7]
  simp[bls]
theorem zha {e:TypeId}{xs:List Value}(h:w.ownsRow lo e 1 v n xs)(hn:0<n):∃g,v.ownBlock=some g:=by
 obtain⟨_,⟨rfl,h0⟩|⟨g,cap,cur,rfl,_⟩⟩:=h
 ·omega
 ·exact⟨g,rfl⟩
theorem zfx {g:Nat}{e:TypeId}{xs:List Value}(h:w.ownsRow lo e 1 v n xs)(hg:v.ownBlock=some g):∃g cap,v=.l (some (aD g 0)) n cap:=by
 obtain⟨_,⟨rfl,h0⟩|⟨g',cap,cur,rfl,_⟩⟩:=h
 ·cases hg
 ·exact⟨g',cap,rfl⟩
noncomputable def zaV (l:Lw)(os:List Ob)(t:List Bool)(i:Nat):List Bool:=match os[i]? with|some o=>if (t.getD i false&&(decide (0<o.hs.length)||stays l os t o))=true then t.set i false else t|none=>t
noncomputable def y9 (l:Lw)(os:List Ob)(s:List Bool):Nat->List Bool
 | 0=>s
 | i+1=>zaV l os (y9 l os s i) i
noncomputable def passes (l:Lw)(os:List Ob)(s:List Bool):Nat->List Bool
 | 0=>s
 | n+1=>y9 l os (passes l os s n) s.length
noncomputable def greatest (l:Lw)(os:List Ob)(s:List Bool):List Bool:=passes l os s (s.length+1)
theorem zl3 (l:Lw)(os:List Ob)(t:List Bool)(i:Nat):(zaV l os t i).length=t.length:=by
 unfold zaV;split
 ·split <;> simp
 ·rfl
theorem zdP (l:Lw)(os:List Ob)(s:List Bool):∀i,(y9 l os s i).length=s.length
 | 0=>rfl
 | i+1=>(zl3 _ _ _ _).trans (zdP l os s i)
theorem zbb (l:Lw)(os:List Ob)(s:List Bool):∀n,(passes l os s n).length=s.length
 | 0=>rfl
 | n+1=>(zdP _ _ _ _).trans (zbb l os s n)
theorem ziG (h:i<os.length)(h':i<t.length):zaV l os t i=if (t[i]&&(decide (0<os[i].hs.length)||stays l os t os[i]))=true then t.set i false else t:=by
 unfold zaV;rw[List.getElem?_eq_getElem h];simp[List.getElem?_eq_getElem h']
theorem znv (b:Bk)(a0 a1 a2 a3:OA)(c0 c1 c2 c3:Nat)(w:World)(hb:qj w b a0 a1 a2 a3)(hl:b.os.length<=1000) :
 Calls Tryz.prog 69 #[.agg (bC b a0 a1 a2 a3 c0 c1 c2 c3)] w fun e w'=>∃g cap,e=.returned (.l (some (aD g 0)) b.os.length cap)/\w'.ownsRow w.heap.size 4 1 (.l (some (aD g 0)) b.os.length cap) b.os.length (bls (endings b.os))/\Bw w w':=by
 obtain⟨i0,hi,hzi0,hz1',hz2⟩:=info_parts Tryz.zpA;have HK:Hid (qj w b a0 a1 a2 a3):=hb;clear hb;go_in;go_wp2_with fail
 obtain⟨hX0,hR0⟩:=zK w (.cells (bC b a0 a1 a2 a3 c0 c1 c2 c3) 40) (.cells #[] 4);have HB0:Hid (Bw w ((w.alloc (.cells (bC b a0 a1 a2 a3 c0 c1 c2 c3) 40)).alloc (.cells #[] 4))):=zo w _ _;obtain⟨W0,hW0⟩:=xN ((w.alloc (.cells (bC b a0 a1 a2 a3 c0 c1 c2 c3) 40)).alloc (.cells #[] 4));have hz0:w.heap.size+1<W0.heap.size:=by rw[hW0];simp
 rw[<- hW0]at HB0 hX0 hR0 ⊢;clear hW0;have hX:=yP hX0;have HR0:Hid (W0.ownsRow (w.heap.size+1) 4 1 (.l (some (aD (w.heap.size+1) 0)) 0 0) 0 (bls [])):=⟨rfl,.inr ⟨w.heap.size+1,0,#[],rfl,Nat.le_refl _,hR0,Nat.le_refl _,by simp[maxLen],rfl,rfl⟩⟩
 clear hX0 hR0
 go_loopw [3,4] (fun v0 iv wr=>∃(k:Nat) (v:Value),v=v0/\k<=b.os.length/\iv=.i k/\Hid ((∃g,v.ownBlock=some g)/\wr.ownsRow (w.heap.size+1) 4 1 v (endings (b.os.take k)).length (bls (endings (b.os.take k)))/\Below (w.heap.size+1) W0 wr)) (fun _ iv _=>b.os.length-(intOf iv).toNat)
 case atStart=>exact⟨0,_,rfl,Nat.zero_le _,rfl,⟨_,rfl⟩,HR0.o,bRf _ _⟩
 case round=>
  obtain⟨k,v,hv,hk,rfl,HQ⟩:=hrel;subst hv;have hkn:k<=1000:=by omega
  have hX1:∀j,wr.cell? (aD w.heap.size j)=(bC b a0 a1 a2 a3 c0 c1 c2 c3)[j]?:=fun j=>(HQ.o.2.2.cell (p:=(aD w.heap.size j)) (Nat.lt_succ_self _)).trans (hX j)
  have hz1:w.heap.size<wr.heap.size:=by have:=HQ.o.2.2.size;omega
  have HBr:=hid (HB0.o.trans (HQ.o.2.2.mono (Nat.le_succ _)))
  by_cases hlt:k<b.os.length
  ·obtain⟨ob,off,v0,v1,q0,q1,rfl,hob,_,_,_,d0,d1,d2,d3,d4,d5,d6⟩:=HK.o.os.load HBr.o k hlt
   have hltI:(k:Int)<(b.os.length:Int):=by omega
   have hob':=nLt hob HBr.o.size;have HN:Hid (endings (b.os.take (k+1))=endings (b.os.take k)++[b.os[k].en]):=by unfold Hid endings;rw[tSe hlt,List.map_append];rfl
   have HLL:Hid ((endings (b.os.take k)).length<=1000):=by unfold Hid endings;rw[List.length_map,List.length_take];omega
   clear d0 d1 d2 d3 d5 d6
   go_wp2_with (at_builtin;refine wpList_append_own _ rfl (.tmp 13) (.tmp 20) 117 rfl (w.heap.size+1) 4 i0 (.bool false) 1 1 Tryz.underlying117 hi hzi0 hz1' hz2 rfl (by decide) _ _ _ rfl (HQ.o.2.1.alloc _) (aD wr.heap.size 0) 1 1 [.bool b.os[k].en] rfl rfl (zbA _ _ _) (by intro u hu;simp at hu;subst hu;rfl) (by have:=HLL.o;unfold maxLen;omega) (by have:=HLL.o;omega) (by have:=HQ.o.2.2.size;simp;omega) ?_;intro v' w4 hown' hgr hnn)
   have hgb:∀g',v.ownBlock=some g'->w.heap.size+1<=g':=fun g' hg'=>(HQ.o.2.1.lt g' hg').1
   refine⟨⟨k+1,_,rfl,by omega,by go_num,?_,?_,zar HQ.o.2.2 (by omega) hgr hgb⟩,zi hlt⟩
   ·exact zha hown' (by omega)
   ·rw[HN.o,List.length_append]
    have e1:bls (endings (b.os.take k)++[b.os[k].en])=bls (endings (b.os.take k))++[.bool b.os[k].en]:=by simp[bls]
    rw[e1];exact hown'
  ·have e:k=b.os.length:=by omega
   subst e;have HE:Hid (wr.ownsRow (w.heap.size+1) 4 1 v (endings b.os).length (bls (endings b.os))/\(∃g,v.ownBlock=some g)/\Bw w wr):=by have:=HQ.o.2.1;rw[tOl (Nat.le_refl _)]at this;exact⟨this,HQ.o.1,HBr.o⟩
   clear HQ hlt hk;have hel:(endings b.os).length=b.os.length:=by simp[endings]
   have HV:Hid (∃g cap,v=.l (some (aD g 0)) b.os.length cap):=by
    obtain⟨g,hg⟩:=HE.o.2.1;obtain⟨g',cap,rfl⟩:=zfx HE.o.1 hg;exact⟨g',cap,by rw[hel]⟩
   obtain⟨g,cap,rfl⟩:=HV.o;have HBl:Hid (wr.ownsRow w.heap.size 4 1 (.l (some (aD g 0)) b.os.length cap) b.os.length (bls (endings b.os))):=by have h:=jU HE.o.1 (Nat.le_succ w.heap.size);rw[hel]at h;exact h
   have HBe:=hid HBr.o;clear HV HE hel;go_wp2
   go_ret;exact⟨g,cap,rfl,HBl.o,HBe.o⟩
theorem zow (b:Bk)(a0 a1 a2 a3:OA)(c0 c1 c2 c3:Nat)(w:World)(hb:qj w b a0 a1 a2 a3)(hl:b.os.length<=1000) :
 Calls Tryz.prog 69 #[.agg (bC b a0 a1 a2 a3 c0 c1 c2 c3)] w fun e w'=>∃g cap,e=.returned (.l (some (aD g 0)) b.os.length cap)/\zcG w' (some (aD g 0)) (endings b.os)/\Bw w w':=by
 refine(znv b a0 a1 a2 a3 c0 c1 c2 c3 w hb hl).mono ?_;rintro e w'⟨g,cap,he,ho,hB⟩;have hel:(endings b.os).length=b.os.length:=by simp[endings]
 obtain⟨a,c,e1,hbl⟩:=zfG (s:=endings b.os) (by rw[hel];exact ho) (by rw[hel];unfold maxLen;omega);rw[hel]at e1
 cases e1
 exact⟨g,cap,he,hbl,hB⟩
theorem zs4 {sb soff:Nat}(h:zcG w (some (aD sb soff)) s):∀j u,(bls s)[j]?=some u->w.cell? (((aD sb soff):Addr).add j)=some u:=by
 intro j u hu;unfold bls at hu;rw[List.getElem?_map]at hu
 cases hj:s[j]? with
 | none=>rw[hj]at hu;cases hu
 | some x=>
  rw[hj]at hu;obtain⟨hlt,rfl⟩:=List.getElem?_eq_some_iff.1 hj;obtain⟨b',off',e,_,hc⟩:=h.cells (by rintro rfl;simp at hlt)
  cases e
  cases hu
  have e1:((aD sb soff):Addr).add j=(aD sb (soff+j)):=by
   unfold Addr.add;split
   ·rename_i h;subst h;simp
   ·rfl
  rw[e1];exact hc j hlt
theorem ztS:∀u∈bls s,∃b,u=Value.bool b:=by
 intro u hu;unfold bls at hu;obtain⟨b,_,rfl⟩:=List.mem_map.1 hu;exact⟨b,rfl⟩
theorem zkS (l:Lw)(la lb lc:OA)(lca lcb lcc:Nat)(b:Bk)(a0 a1 a2 a3:OA)(c0 c1 c2 c3:Nat)(sb soff scap:Nat)(s:List Bool)(w:World)(hl:qp w l la lb lc)(hb:qj w b a0 a1 a2 a3)(hs:zcG w (some (aD sb soff)) s)(hsl:s.length=b.os.length)(hw:b.os.length<=40/\∀k (h:k<b.os.length),zq l.ss b.os[k]=true)(hfw:∀i (h:i<b.os.length),b.os[i].vs.length<=1048576) :
 Calls Tryz.prog 68 #[.agg (lC l la lb lc lca lcb lcc),.agg (bC b a0 a1 a2 a3 c0 c1 c2 c3),.l (some (aD sb soff)) s.length scap] w fun e w'=>∃a cap,e=.returned (.l a s.length cap)/\zcG w' a (greatest l b.os s)/\Bw w w'/\∀g,a=some g->w.heap.size<=g.block:=by
 obtain⟨i0,hi,hzi0,hz1',hz2⟩:=info_parts Tryz.zpA;have HK:=hid hb;have HL:=hid hl;have HO:=hid hw;have HW:=hid hfw;have HSl:=hid hsl;have hsn:s.length<=40:=by omega
 obtain⟨hL0,hX0,hR0⟩:=zmi w (.cells (lC l la lb lc lca lcb lcc) 47) (.cells (bC b a0 a1 a2 a3 c0 c1 c2 c3) 40) (.cells #[] 4);have hb3:=below3' w (.cells (lC l la lb lc lca lcb lcc) 47) (.cells (bC b a0 a1 a2 a3 c0 c1 c2 c3) 40) (.cells #[] 4);have HNw:=hid (hs.mono hb3);have HB3:=hid hb3;have HBk:=yB hL0 hX0;clear hb hl hw hfw hs hsl hL0 hX0 hb3;go_in
 go_wp2_with (at_builtin;refine wpList_append_own _ rfl (.tmp 10) (.tmp 11) 117 rfl (w.heap.size+1+1) 4 i0 (.bool false) 1 1 Tryz.underlying117 hi hzi0 hz1' hz2 rfl (by decide) (.l (some (aD (w.heap.size+1+1) 0)) 0 0) 0 [] rfl ⟨rfl,.inr ⟨w.heap.size+1+1,0,#[],rfl,Nat.le_refl _,hR0,Nat.le_refl _,by simp[maxLen],rfl,rfl⟩⟩ (aD sb soff) s.length scap (bls s) rfl (by simp[bls]) (zs4 HNw.o) (by intro u hu;obtain⟨x,rfl⟩:=ztS u hu;rfl) (by unfold maxLen;omega) (by omega) (by simp) ?_;intro v' w1 hown hgr hnn;simp only[Nat.zero_add,List.nil_append]at hown)
 have HB1:Hid (Below (w.heap.size+1+1) (((w.alloc (.cells (lC l la lb lc lca lcb lcc) 47)).alloc (.cells (bC b a0 a1 a2 a3 c0 c1 c2 c3) 40)).alloc (.cells #[] 4)) w1):=(bRf _ _).grown hgr (by simp) (fun k hk=>by cases hk;exact Nat.le_refl _);have HL1:Hid (w1.heap[w.heap.size]?=some (.cells (lC l la lb lc lca lcb lcc) 47)/\w1.heap[w.heap.size+1]?=some (.cells (bC b a0 a1 a2 a3 c0 c1 c2 c3) 40)):=⟨(HB1.o.block _ (by omega)).trans HBk.o.1,(HB1.o.block _ (by omega)).trans HBk.o.2⟩
 have HBw:Hid (Bw w w1):=HB3.o.trans (HB1.o.mono (by omega));obtain⟨a,cap,rfl⟩:=yY hown;have HR1:=hid hown;have hz1:w.heap.size+1+1<w1.heap.size:=by have:=HB1.o.size;simp at this;omega
 clear hown hgr hnn hR0 HB3 HBk HNw HB1;have HPl:=hid (zbb l b.os s);go_wp2
 go_loopw [8] (fun iv wr=>∃n:Nat,n<=s.length+1/\iv=.i n/\Hid (wr.ownsRow (w.heap.size+1+1) 4 1 (.l a s.length cap) s.length (bls (passes l b.os s n))/\Below (w.heap.size+1+1) w1 wr)) (fun iv _=>s.length+1-(intOf iv).toNat)
 case atStart=>exact⟨0,Nat.zero_le _,rfl,HR1.o,bRf _ _⟩
 case round=>
  obtain⟨n,hn,rfl,HQ⟩:=hrel;obtain⟨W2,hW2⟩:=xN (wr);rw[<- hW2]at HQ ⊢;clear hW2;have hnn:n<=41:=by omega
  have HB2:Hid (Bw w W2):=HBw.o.trans (HQ.o.2.mono (by omega));have hzW:=nLt hz1 HQ.o.2.size
  by_cases hle:n<=s.length
  ·have hleI:(n:Int)<=(s.length:Int):=by omega
   obtain⟨t,ht⟩:=xN (passes l b.os s n);have HT:=hid ht;have htl:t.length=s.length:=by rw[ht];exact HPl.o n
   rw[<- ht]at HQ;clear ht;go_wp2
   go_loopw [9] (fun jv wi=>∃i:Nat,i<=s.length/\jv=.i i/\Hid (wi.ownsRow (w.heap.size+1+1) 4 1 (.l a s.length cap) s.length (bls (y9 l b.os t i))/\Below (w.heap.size+1+1) w1 wi)) (fun jv _=>s.length-(intOf jv).toNat)
   case atStart=>exact⟨0,Nat.zero_le _,rfl,HQ.o.1,HQ.o.2⟩
   case round=>
    obtain⟨i,hi',rfl,HR⟩:=hrel;have hin:i<=40:=by omega
    have HBi:Hid (Bw w wr):=HBw.o.trans (HR.o.2.mono (by omega));have hzi:=nLt hz1 HR.o.2.size;have hyi:=nSl hzi;have hqi:=nSl hyi;have hX:=yP ((HR.o.2.block _ (by omega)).trans HL1.o.2);have hLw:=yP ((HR.o.2.block _ (by omega)).trans HL1.o.1);have HPt:Hid ((y9 l b.os t i).length=s.length):=(zdP l b.os t i).trans htl
    by_cases hlt:i<s.length
    ·have hlo:i<b.os.length:=by have:=HSl.o;omega
     have hlp:i<(y9 l b.os t i).length:=by have:=HPt.o;omega
     have hltI:(i:Int)<(s.length:Int):=by omega
     have hloI:(i:Int)<(b.os.length:Int):=by omega
     obtain⟨g,hg⟩:=zha HR.o.1 (by omega);obtain⟨g',cap',e'⟩:=zfx HR.o.1 hg
     cases e'
     clear hg;have hrow:=HR.o.1;have hcell:=hrow.cellAt i (by omega);obtain⟨ai,ci,ei,hbl⟩:=zfG (s:=y9 l b.os t i) (by rw[HPt.o];exact HR.o.1) (by rw[HPt.o];unfold maxLen;omega);rw[HPt.o]at ei
     cases ei
     have hgl:=hrow.lt g' rfl;have HD:Hid (y9 l b.os t (i+1)=if ((y9 l b.os t i)[i]&&(decide (0<b.os[i].hs.length)||stays l b.os (y9 l b.os t i) b.os[i]))=true then (y9 l b.os t i).set i false else y9 l b.os t i):=ziG hlo hlp;have HRw:=zkq hrow hbl hgl.1 hgl.2 HR.o.2;obtain⟨p,hp⟩:=xN (y9 l b.os t i);have hgz:=hgl.2;rw[<- hp]at HRw HPt;have hlp':i<p.length:=by rw[hp];exact hlp
     have hci:wr.cell? (aD g' i)=some (.bool p[i]):=by
      obtain⟨_,_,e1,_,hc⟩:=HRw.o.2.1.cells (by rintro rfl;simp at hlp')
      cases e1
      have:=hc i hlp'
      rwa [Nat.zero_add]at this
     have HPd:Hid (y9 l b.os t (i+1)=if (p[i]&&(decide (0<b.os[i].hs.length)||stays l b.os p b.os[i]))=true then p.set i false else p):=by subst hp;exact HD.o
     clear hp HD hrow hcell hbl hgl HR hlp
     cases hpi:p[i] with
     | false=>
      rw[hpi]at hci;have HN:Hid (y9 l b.os t (i+1)=p):=by rw[Hid,HPd.o,hpi];simp
      go_wp2
      exact⟨⟨i+1,by omega,by go_num,by rw[HN.o];exact HRw.o.1,HRw.o.2.2.2.2⟩,zi hlt⟩
     | true=>
      rw[hpi]at hci;obtain⟨ob,off,v0,v1,q0,q1,rfl,hob,_,_,_,d0,d1,d2,d3,d4,d5,d6⟩:=HK.o.os.load HBi.o i hlo;have hob':=nLt hob HBi.o.size
      have hfz:∀o,wr.frozen? (aD g' o)=false:=fun o=>by
       obtain⟨_,⟨h0,_⟩|⟨_,_,_,h0,_,h3,_⟩⟩:=HRw.o.1
       ·cases h0
       ·cases h0;exact zf h3
      clear d0 d1 d2 d3 d4 d6
      have HSet:Hid (∀W,Bw wr W->(W.setCell (aD g' i) (.bool false)).ownsRow (w.heap.size+1+1) 4 1 (.l (some (aD g' 0)) s.length cap) s.length (bls (p.set i false))/\Below (w.heap.size+1+1) w1 (W.setCell (aD g' i) (.bool false))/\W.cell? (aD g' i)=some (.bool true)/\∀o,W.frozen? (aD g' o)=false):=fun W hW=>
       ⟨zjV (yc HRw.o.1 hW) i hlt false,(HRw.o.2.2.2.2.trans (hW.mono (by omega))).setCell (p:=(aD g' i)) HRw.o.2.2.1 _,(hW.cell (p:=(aD g' i)) HRw.o.2.2.2.1).trans hci,fun o=>by
        obtain⟨_,⟨h0,_⟩|⟨_,_,_,h0,_,h3,_⟩⟩:=yc HRw.o.1 hW
        ·cases h0
        ·cases h0;exact zf h3⟩
      by_cases hh:0<b.os[i].hs.length
      ·have hhI:(0:Int)<(b.os[i].hs.length:Int):=by omega
       have hhd:=decide_eq_true hh;have HN:Hid (y9 l b.os t (i+1)=p.set i false):=by rw[Hid,HPd.o,hpi,hhd];simp
       have HE:=(HSet.o wr (bRf _ _))
       have HE1:=hid HE.1;have HE2:=hid HE.2.1;clear HE;go_wp2
       exact⟨⟨i+1,by omega,by go_num,by rw[HN.o];exact HE1.o,HE2.o⟩,zi hlt⟩
      ·have hhI:¬(0:Int)<(b.os[i].hs.length:Int):=by omega
       have hhd:=decide_eq_false hh;have hst:=zqd l la lb lc lca lcb lcc b (some (aD ob off)) a1 a2 a3 c0 c1 c2 c3 (some (aD g' 0)) cap p i wr (HL.o.mono HBi.o) (HK.o.mono HBi.o) HRw.o.2.1 (by rw[HPt.o];exact HSl.o) hlo HO.o HW.o;rw[HPt.o]at hst;go_wp2_with fail
       refine hst.mono ?_;rintro e w5⟨rfl,hb5⟩;have HE:=HSet.o w5 hb5;have hci5:=HE.2.2.1;have hfz5:=HE.2.2.2;have HE1:=hid HE.1;have HE2:=hid HE.2.1;have HB5:Hid (Bw wr w5):=hb5;have hgz5:=nLt hgz hb5.size;clear HE hb5 hst hci hfz d5 hob'
       cases hsy:stays l b.os p b.os[i] with
       | true=>
        have HN:Hid (y9 l b.os t (i+1)=p.set i false):=by rw[Hid,HPd.o,hpi,hsy];simp
        go_wp2
        exact⟨⟨i+1,by omega,by go_num,by rw[HN.o];exact HE1.o,HE2.o⟩,zi hlt⟩
       | false=>
        have HN:Hid (y9 l b.os t (i+1)=p):=by rw[Hid,HPd.o,hpi,hsy,hhd];simp
        go_wp2
        exact⟨⟨i+1,by omega,by go_num,by rw[HN.o];exact yc HRw.o.1 HB5.o,HRw.o.2.2.2.2.trans (HB5.o.mono (by have:=HRw.o.2.2.1;have:=HRw.o.2.2.2.1;omega))⟩,zi hlt⟩
    ·have e:i=s.length:=by omega
     subst e;have HN:Hid (y9 l b.os t s.length=passes l b.os s (n+1)):=by rw[Hid,HT.o];rfl
     rw[HN.o]at HR;clear hX hLw;go_wp2
     exact⟨⟨n+1,by omega,by go_num,HR.o.1,HR.o.2⟩,by simp[intOf];omega⟩
  ·have e:n=s.length+1:=by omega
   subst e;have hleI:¬((s.length+1:Nat):Int)<=(s.length:Int):=by omega
   obtain⟨ai,ci,ei,hbl⟩:=zfG (s:=greatest l b.os s) (by have h:=HPl.o (s.length+1);unfold greatest;rw[h];exact HQ.o.1) (by have h:=HPl.o (s.length+1);unfold greatest;rw[h];unfold maxLen;omega);have hgl:(greatest l b.os s).length=s.length:=HPl.o (s.length+1);rw[hgl]at ei;have HE:Hid (zcG W2 a (greatest l b.os s)/\∀g,a=some g->w.heap.size<=g.block):=⟨by cases ei;exact hbl,fun g hg=>by subst hg;have:=(HQ.o.1.lt g.block rfl).1;omega⟩
   clear HQ hbl ei;go_wp2
   go_ret;exact⟨a,⟨cap,rfl⟩,HE.o.1,HB2.o,HE.o.2⟩
def zix (os:List Ob)(s:List Bool)(i:Nat):Prop:=∃h:i<os.length,s.getD i false=false \/ 0<os[i].hs.length
def zmt (l:Lw)(os:List Ob)(K:Nat->Prop):Prop:=∀i j (hi:i<os.length) (hj:j<os.length),K i->tied l os[i] os[j]=true->K j
def zn6 (l:Lw)(os:List Ob)(s:List Bool)(i:Nat):Prop:=∀K:Nat->Prop,(∀j,zix os s j->K j)->zmt l os K->K i
theorem zmy:stays l os t p=true↔∃k,∃h:k<os.length,t.getD k false=false/\tied l os[k] p=true:=by
 unfold stays zbe;rw[List.any_eq_true]
 constructor
 ·rintro⟨k,hk,hs⟩
  have hk':=List.mem_range.1 hk;unfold zgF at hs;rw[List.getElem?_eq_getElem hk']at hs;simp only[Bool.and_eq_true,Bool.not_eq_true']at hs;exact⟨k,hk',hs.1,hs.2⟩
 ·rintro⟨k,hk,h1,h2⟩
  refine⟨k,List.mem_range.2 hk,?_⟩;unfold zgF;rw[List.getElem?_eq_getElem hk];simp only[h1,h2,Bool.not_false,Bool.and_true]
theorem getD_set_ne {j:Nat}(h:i≠j)(v:Bool):(t.set i v).getD j false=t.getD j false:=by
 simp[List.getD_eq_getElem?_getD,List.getElem?_set_ne h]
theorem zdh:(t.set i false).getD i false=false:=by
 rw[List.getD_eq_getElem?_getD,List.getElem?_set,if_pos rfl]
 split <;> rfl
theorem zpd (l:Lw)(os:List Ob)(t:List Bool)(i j:Nat)(h:t.getD j false=false):(zaV l os t i).getD j false=false:=by
 unfold zaV
 split
 ·split
  ·by_cases e:i=j
   ·subst e;exact zdh
   ·rw[getD_set_ne e];exact h
  ·exact h
 ·exact h
theorem zjc (l:Lw)(os:List Ob)(t:List Bool)(j:Nat)(h:t.getD j false=false):∀i,(y9 l os t i).getD j false=false
 | 0=>h
 | i+1=>zpd l os _ i j (zjc l os t j h i)
theorem ziU (l:Lw)(os:List Ob)(s:List Bool)(j:Nat)(h:s.getD j false=false):∀n,(passes l os s n).getD j false=false
 | 0=>h
 | n+1=>zjc l os _ j (ziU l os s j h n) _
def Sound (l:Lw)(os:List Ob)(s t:List Bool):Prop:=∀i,i<os.length->t.getD i false=false->zn6 l os s i
theorem Sound.start (l:Lw)(os:List Ob)(s:List Bool):Sound l os s s:=fun i hi h _ hr _=>hr i ⟨hi,Or.inl h⟩
theorem Sound.drop (h:Sound l os s t)(i:Nat):Sound l os s (zaV l os t i):=by
 intro j hj hd
 by_cases e:i=j
 ·subst e
  unfold zaV at hd;rw[List.getElem?_eq_getElem hj]at hd
  simp only at hd
  split at hd
  ·rename_i hc
   simp only[Bool.and_eq_true,Bool.or_eq_true,decide_eq_true_eq]at hc
   rcases hc.2 with h0|h0
   ·exact fun _ hr _=>hr i ⟨hj,Or.inr h0⟩
   ·obtain⟨k,hk,h1,h2⟩:=zmy.1 h0
    exact fun K hr hc=>hc k i hk hj (h k hk h1 K hr hc) h2
  ·exact h i hj hd
 ·have:t.getD j false=false:=by
   unfold zaV at hd
   split at hd
   ·split at hd
    ·rwa [getD_set_ne e]at hd
    ·exact hd
   ·exact hd
  exact h j hj this
theorem Sound.y9 {l:Lw}{os:List Ob}{s t:List Bool}(h:Sound l os s t):∀i,Sound l os s (y9 l os t i)
 | 0=>h
 | i+1=>(Sound.y9 h i).drop i
theorem Sound.passes (l:Lw)(os:List Ob)(s:List Bool):∀n,Sound l os s (passes l os s n)
 | 0=>Sound.start l os s
 | n+1=>(Sound.passes l os s n).y9 _
def inside (t:List Bool):Nat:=t.countP id
theorem zqM (h:i<t.length)(ht:t[i]=true):inside (t.set i false)+1=inside t:=by
 unfold inside;rw[List.countP_set h,ht]
 have:0<t.countP id:=List.countP_pos_iff.2 ⟨t[i],List.getElem_mem h,by rw[ht];rfl⟩
 simp
 omega
theorem znW (l:Lw)(os:List Ob)(t:List Bool)(i:Nat):zaV l os t i=t \/ inside (zaV l os t i)+1=inside t:=by
 unfold zaV
 split
 ·split
  ·rename_i hc
   simp only[Bool.and_eq_true]at hc
   have hi:i<t.length:=by
    rcases Nat.lt_or_ge i t.length with h|h
    ·exact h
    ·have h1:=hc.1;rw[List.getD_eq_getElem?_getD,List.getElem?_eq_none h]at h1;cases h1
   have ht:t[i]=true:=by have h1:=hc.1;rwa [List.getD_eq_getElem?_getD,List.getElem?_eq_getElem hi]at h1
   exact Or.inr (zqM hi ht)
  ·exact Or.inl rfl
 ·exact Or.inl rfl
theorem zcI (l:Lw)(os:List Ob)(t:List Bool):∀i,(∀j,j<=i->y9 l os t j=t) \/ inside (y9 l os t i)<inside t
 | 0=>Or.inl fun j hj=>by
  have:j=0:=by omega
  subst this;rfl
 | i+1=>by
  have hd:=znW l os (y9 l os t i) i
  rcases zcI l os t i with h|h
  ·rcases hd with e|e
   ·refine Or.inl fun j hj=>?_
    rcases Nat.lt_or_ge j (i+1) with hl|hg
    ·exact h j (by omega)
    ·have:j=i+1:=by omega
     subst this;exact e.trans (h i (Nat.le_refl _))
   ·refine Or.inr ?_
    show inside (zaV l os (y9 l os t i) i)<_
    rw[h i (Nat.le_refl _)]at e ⊢;omega
  ·refine Or.inr ?_
   show inside (zaV l os (y9 l os t i) i)<_
   rcases hd with e|e
   ·rw[e];exact h
   ·omega
theorem zjh (l:Lw)(os:List Ob)(s:List Bool):∀n,(y9 l os (passes l os s n) s.length=passes l os s n) \/ inside (passes l os s (n+1))+(n+1)<=inside s
 | 0=>by
  rcases zcI l os s s.length with h|h
  ·exact Or.inl (h _ (Nat.le_refl _))
  ·exact Or.inr (by show inside (y9 l os s s.length)+1<=_;omega)
 | n+1=>by
  rcases zcI l os (passes l os s (n+1)) s.length with h|h
  ·exact Or.inl (h _ (Nat.le_refl _))
  ·rcases zjh l os s n with e|e
   ·refine Or.inl ?_
    have:passes l os s (n+1)=passes l os s n:=e
    rw[this];exact e
   ·exact Or.inr (by show inside (y9 l os (passes l os s (n+1)) s.length)+(n+1+1)<=_;omega)
theorem zrR (s:List Bool):inside s<=s.length:=List.countP_le_length
theorem zgl (l:Lw)(os:List Ob)(s:List Bool):y9 l os (greatest l os s) s.length=greatest l os s:=by
 rcases zjh l os s (s.length+1) with h|h
 ·exact h
 ·have:=zrR s;omega
theorem znh (h:y9 l os t n=t)(i:Nat)(hi:i<n):zaV l os t i=t:=by
 rcases zcI l os t n with hc|hc
 ·have h1:=hc i (by omega)
  have h2:=hc (i+1) (by omega);have h3:y9 l os t (i+1)=zaV l os (y9 l os t i) i:=rfl;rw[h1]at h3;exact h3.symm.trans h2
 ·rw[h]at hc;omega
theorem zn4 (l:Lw)(os:List Ob)(s:List Bool)(hs:s.length=os.length)(i:Nat)(hi:i<os.length):(greatest l os s).getD i false=false↔zn6 l os s i:=by
 refine⟨fun h=>Sound.passes l os s _ i hi h,fun h=>?_⟩;refine h (fun j=>j<os.length->(greatest l os s).getD j false=false) (fun j hj _=>?_) (fun a c ha hc hK ht _=>?_) hi
 ·obtain⟨hj,h0|h0⟩:=hj
  ·exact ziU l os s j h0 _
  ·have hr:=znh (zgl l os s) j (by omega)
   cases hg:(greatest l os s).getD j false with
   | false=>rfl
   | true=>
    exfalso
    have hgl:j<(greatest l os s).length:=by unfold greatest;rw[zbb];omega
    have hgj:(greatest l os s)[j]=true:=by rwa [List.getD_eq_getElem?_getD,List.getElem?_eq_getElem hgl]at hg
    rw[ziG hj hgl,hgj,decide_eq_true h0]at hr;simp only[Bool.true_or,Bool.and_self,if_true]at hr;have h1:=congrArg (fun x=>x.getD j false) hr;simp only[zdh,hg]at h1
    cases h1
 ·have hr:=znh (zgl l os s) c (by omega)
  cases hg:(greatest l os s).getD c false with
  | false=>rfl
  | true=>
   exfalso
   have hgl:c<(greatest l os s).length:=by unfold greatest;rw[zbb];omega
   have hgj:(greatest l os s)[c]=true:=by rwa [List.getD_eq_getElem?_getD,List.getElem?_eq_getElem hgl]at hg
   have hst:stays l os (greatest l os s) os[c]=true:=zmy.2 ⟨a,ha,hK ha,ht⟩;rw[ziG hc hgl,hgj,hst]at hr;simp only[Bool.or_true,Bool.and_self,if_true]at hr;have h1:=congrArg (fun x=>x.getD c false) hr;simp only[zdh,hg]at h1
   cases h1
theorem ztU {ss:List Shp}(hs:zQ ss=true)(v:BA)(k:Nat)(f:Fld)(hf:(shapeOf ss v).fs[k]?=some f)(h4:f.kd=4):1<=f.rl/\f.rl<=3:=by
 cases hk:zF ss v with
 | false=>
  rw[zej ss v hk]at hf
  simp[zbg]at hf
 | true=>
  obtain⟨i,hi,he⟩:=zdn hk;rw[he]at hf;unfold zQ at hs;rw[Bool.and_eq_true]at hs;have h1:=zgn hi hs.2;unfold yR at h1;rw[Bool.and_eq_true,getD_at ss i _ hi]at h1;have h2:=h1.2;unfold yS at h2;rw[Bool.and_eq_true]at h2;obtain⟨hk',rfl⟩:=List.getElem?_eq_some_iff.1 hf;have h3:=zgn hk' h2.2;rw[zhn _ _ _ hk']at h3;unfold zau qE at h3;rw[h4]at h3
  simp at h3
  exact h3.2.1.2.1.1.2
theorem zqs {ss:List Shp}(hs:zQ ss=true)(v:BA)(vs:List BA)(n:Nat)(x:Lk)(hx:x∈yt (shapeOf ss v).fs vs n):1<=x.rl/\x.rl<=3:=by
 unfold yt at hx;rw[List.mem_flatMap]at hx;obtain⟨k,_,hx⟩:=hx;unfold zdk at hx
 split at hx
 ·rename_i f u hf hv
  split at hx
  ·rename_i h
   have:=ztU hs v k f hf h.1.1
   simp only[List.mem_singleton]at hx;subst hx;exact this
  ·simp at hx
 ·simp at hx
theorem zpP (hs:zQ l.ss=true)(o p:Ob):tied l o p=true↔∃x∈yt (shapeOf l.ss o.kd).fs o.vs (shapeOf l.ss o.kd).fs.length,x.rl≠2/\jC x.to x.nm p=true:=by
 unfold tied names zaQ;rw[Bool.or_eq_true,List.any_eq_true,List.any_eq_true]
 constructor
 ·rintro(⟨x,hx,h⟩|⟨x,hx,h⟩)
  ·rw[Bool.and_eq_true,decide_eq_true_eq]at h
   exact⟨x,hx,by omega,h.2⟩
  ·rw[Bool.and_eq_true,decide_eq_true_eq]at h
   exact⟨x,hx,by omega,h.2⟩
 ·rintro⟨x,hx,h2,hp⟩
  have hr:=zqs hs _ _ _ x hx
  rcases(by omega:x.rl=1 \/ x.rl=3) with h|h
  ·exact Or.inl ⟨x,hx,by rw[h,hp];rfl⟩
  ·exact Or.inr ⟨x,hx,by rw[h,hp];rfl⟩
structure Keeps (l:Lw)(os:List Ob)(A:Nat->Prop)(S S':Nat->Bool):Prop where
 le:∀j,S j=true->S' j=true
 tie:∀j k (hj:j<os.length) (hk:k<os.length),S' j=true->S j=false->tied l os[j] os[k]=true->S' k=true
 least:∀R:Nat->Prop,zmt l os R->(∀j,A j->R j)->∀j,S' j=true->S j=true \/ R j
theorem Keeps.refl (l:Lw)(os:List Ob)(A:Nat->Prop)(S:Nat->Bool):Keeps l os A S S:=
 ⟨fun _ h=>h,fun _ _ _ _ h h' _=>absurd (h.symm.trans h') (by decide),fun _ _ _ _ h=>Or.inl h⟩
theorem Keeps.wider {B:Nat->Prop}(h:Keeps l os A S S')(hAB:∀j,A j->B j):Keeps l os B S S':=
 ⟨h.le,h.tie,fun R hR hB=>h.least R hR (fun j hj=>hB j (hAB j hj))⟩
theorem Keeps.trans {S'':Nat->Bool}(h:Keeps l os A S S')(k:Keeps l os A S' S''):Keeps l os A S S'':=by
 refine⟨fun j hj=>k.le j (h.le j hj),fun j m hj hm hS'' hS ht=>?_,fun R hR hA j hj=>?_⟩
 ·cases hS':S' j with
  | true=>exact k.le m (h.tie j m hj hm hS' hS ht)
  | false=>exact k.tie j m hj hm hS'' hS' ht
 ·rcases k.least R hR hA j hj with h1|h1
  ·exact h.least R hR hA j h1
  ·exact Or.inr h1
def zak (S:Nat->Bool)(i:Nat):Nat->Bool:=fun j=>S j||decide (j=i)
def zhX (l:Lw)(os:List Ob)(i:Nat)(j:Nat):Prop:=∃(hi:i<os.length) (hj:j<os.length),tied l os[i] os[j]=true
theorem Keeps.close (h:Keeps l os (zhX l os i) (zak S i) S')(hall:∀j,zhX l os i j->S' j=true):Keeps l os (·=i) S S':=by
 refine⟨fun j hj=>h.le j (by simp[zak,hj]),fun j k hj hk hS' hS ht=>?_,fun R hR hA j hj=>?_⟩
 ·by_cases e:j=i
  ·subst e
   exact hall k ⟨hj,hk,ht⟩
  ·exact h.tie j k hj hk hS' (by simp[zak,hS,e]) ht
 ·have hi:R i:=hA i rfl
  rcases h.least R hR (fun m hm=>hR i m hm.1 hm.2.1 hi hm.2.2) j hj with h1|h1
  ·simp only[zak,Bool.or_eq_true,decide_eq_true_eq]at h1
   rcases h1 with h1|rfl
   ·exact Or.inl h1
   ·exact Or.inr hi
  ·exact Or.inr h1
theorem Keeps.has (h:Keeps l os A (zak S i) S'):S' i=true:=h.le i (by simp[zak])
def lacks (S:Nat->Bool)(n:Nat):Nat:=(List.range n).countP fun j=>!S j
theorem zpE (h:∀j,S j=true->S' j=true)(n:Nat):lacks S' n<=lacks S n:=by
 unfold lacks;refine List.countP_mono_left (fun j _ hj=>?_)
 cases hS:S j with
 | false=>rfl
 | true=>rw[h j hS]at hj;cases hj
theorem zql (hi:i<n)(hS:S i=false):lacks (zak S i) n<lacks S n:=by
 induction n with
 | zero=>omega
 | succ n ih=>
  unfold lacks at ih ⊢;rw[List.range_succ,List.countP_append,List.countP_append]
  by_cases e:i=n
  ·subst e
   have h1:(List.range i).countP (fun j=>!zak S i j)<=(List.range i).countP (fun j=>!S j):=zpE (S:=S) (S':=zak S i) (fun j hj=>by simp[zak,hj]) i;have h2:[i].countP (fun j=>!zak S i j)=0:=by simp[zak]
   have h3:[i].countP (fun j=>!S j)=1:=by simp[hS]
   omega
  ·have h1:=ih (by omega)
   have h2:[n].countP (fun j=>!zak S i j)=[n].countP (fun j=>!S j):=by
    have:zak S i n=S n:=by unfold zak;rw[decide_eq_false (fun h=>e h.symm)];simp
    simp[this]
   omega
structure zbH (l:Lw)(os:List Ob)(s:List Bool)(k:Nat)(S:Nat->Bool):Prop where
 root:∀j,j<k->zix os s j->S j=true
 tie:∀i j (hi:i<os.length) (hj:j<os.length),S i=true->tied l os[i] os[j]=true->S j=true
 least:∀j,S j=true->zn6 l os s j
theorem zbH.start (l:Lw)(os:List Ob)(s:List Bool):zbH l os s 0 (fun _=>false):=
 ⟨fun _ h=>by omega,fun _ _ _ _ h _=>absurd h Bool.false_ne_true,fun _ h=>absurd h Bool.false_ne_true⟩
theorem zbH.skip (h:zbH l os s k S)(hn:¬zix os s k):zbH l os s (k+1) S:=by
 refine⟨fun j hj hr=>?_,h.tie,h.least⟩
 by_cases e:j=k
 ·subst e;exact absurd hr hn
 ·exact h.root j (by omega) hr
theorem zbH.next (h:zbH l os s k S)(hr:zix os s k)(hg:Keeps l os (·=k) S S')(hk:S' k=true):zbH l os s (k+1) S':=by
 refine⟨fun j hj hj'=>?_,fun i j hi hj hS ht=>?_,fun j hj K hK hc=>?_⟩
 ·by_cases e:j=k
  ·subst e;exact hk
  ·exact hg.le j (h.root j (by omega) hj')
 ·cases hS0:S i with
  | true=>exact hg.le j (h.tie i j hi hj hS0 ht)
  | false=>exact hg.tie i j hi hj hS hS0 ht
 ·rcases hg.least K hc (fun m hm=>by subst hm;exact hK m hr) j hj with h1|h1
  ·exact h.least j h1 K hK hc
  ·exact h1
theorem zbH.all (h:zbH l os s os.length S)(i:Nat):S i=true↔zn6 l os s i:=by
 refine⟨h.least i,fun hk=>?_⟩;exact hk (fun j=>S j=true) (fun j hj=>h.root j hj.1 hj) (fun a c ha hc hS ht=>h.tie a c ha hc hS ht)
theorem zbH.part (h:zbH l os s os.length S)(hs:s.length=os.length)(i:Nat)(hi:i<os.length):(greatest l os s).getD i false=!S i:=by
 have h1:=(zn4 l os s hs i hi).trans (h.all i).symm
 generalize (greatest l os s).getD i false=g at h1 ⊢
 generalize S i=x at h1 ⊢
 revert h1
 cases g <;> cases x <;> decide
end Go.Proofs.YtjnpjkigofldlaaGreat
namespace Go.Proofs.YtjnpjkigofldlaaGreat
open Go.RowKit Go.Shelf
variable {l:Lw}{os:List Ob}{r:Nat}{S:Nat->Bool}
def zdx (os:List Ob):Prop:=∀i j (hi:i<os.length) (hj:j<os.length),os[i].kd=os[j].kd->os[i].nm=os[j].nm->i=j
theorem zdx.of {b:Bk}(h:zM l b=true):zdx b.os:=by
 unfold zM at h;simp only[Bool.and_eq_true,decide_eq_true_eq]at h;have hr:=(zkg _ _).1 h.2.1;intro i j hi hj e1 e2
 have hz:∀i j (hi:i<b.os.length) (hj:j<b.os.length),i<j->b.os[i].kd=b.os[j].kd->b.os[i].nm=b.os[j].nm->False:=by
  intro i j hi hj hlt e1 e2;have h1:=zcS (key:=zbG) (fun a b c h h'=>zlC h h') hr j hj i hlt;have h2:zbG b.os[i] b.os[j]=0:=by unfold zbG;rw[zfX];exact⟨e1,e2⟩
  omega
 rcases Nat.lt_trichotomy i j with h1|h1|h1
 ·exact(hz i j hi hj h1 e1 e2).elim
 ·exact h1
 ·exact(hz j i hj hi h1 e1.symm e2.symm).elim
theorem zqo {b:Bk}(h:zM l b=true)(i:Nat)(hi:i<b.os.length)(x:Lk)(hx:x∈yt (shapeOf l.ss b.os[i].kd).fs b.os[i].vs (shapeOf l.ss b.os[i].kd).fs.length):∃j,∃hj:j<b.os.length,b.os[j].kd=x.to/\b.os[j].nm=x.nm:=by
 unfold zM at h;simp only[Bool.and_eq_true,decide_eq_true_eq]at h;have h1:=List.all_eq_true.1 h.2.2 _ (List.getElem_mem hi);unfold yL at h1;simp only[Bool.and_eq_true]at h1;have h2:=h1.2.2.2;unfold zaD at h2;have h3:=List.all_eq_true.1 h2 x hx;obtain⟨p,hp,h4⟩:=List.any_eq_true.1 h3;obtain⟨j,hj,rfl⟩:=List.mem_iff_getElem.1 hp;unfold jC at h4;simp only[Bool.and_eq_true,decide_eq_true_eq]at h4;exact⟨j,hj,h4.1,h4.2⟩
structure zcZ (l:Lw)(os:List Ob):Prop where
 few:os.length<=40
 one:zdx os
 name:∀i (hi:i<os.length) (x:Lk),x∈yt (shapeOf l.ss os[i].kd).fs os[i].vs (shapeOf l.ss os[i].kd).fs.length->∃j,∃hj:j<os.length,os[j].kd=x.to/\os[j].nm=x.nm
 sh:zQ l.ss=true
 whole:∀i (hi:i<os.length),zq l.ss os[i]=true
theorem zcZ.cnt (h:zcZ l os)(i:Nat)(hi:i<os.length):os[i].vs.length=(shapeOf l.ss os[i].kd).fs.length:=by
 have h1:=h.whole i hi;unfold zq at h1;simp only[Bool.and_eq_true,decide_eq_true_eq]at h1;exact h1.2
def zad (os:List Ob)(r:Nat)(S:Nat->Bool)(W:World):Prop:=∃f,zH W r f/\∀j (h:j<os.length),(f os[j].kd os[j].nm).isSome=S j
theorem zad.new (os:List Ob)(w:World):zad os w.heap.size (fun _=>false) (w.alloc (.map #[] 0)):=⟨_,zH.new w,fun _ _=>rfl⟩
theorem zad.mono {w w':World}(h:zad os r S w)(hb:Bw w w'):zad os r S w':=by
 obtain⟨f,h1,h2⟩:=h;exact⟨f,h1.mono hb,h2⟩
theorem zta (hu:zdx os){f:BA->BA->Option Int}(hf:∀j (h:j<os.length),(f os[j].kd os[j].nm).isSome=S j)(i:Nat)(hi:i<os.length)(v:Int)(j:Nat)(hj:j<os.length) :
 (if os[j].kd=os[i].kd/\os[j].nm=os[i].nm then some v else f os[j].kd os[j].nm).isSome=zak S i j:=by
 unfold zak
 by_cases e:j=i
 ·subst e
  simp
 ·rw[if_neg (fun h=>e (hu j i hj hi h.1 h.2)),hf j hj,decide_eq_false e,Bool.or_false]
theorem zeA.but {B:Nat}{w w':World}(h:zeA r w w'):But r B w w':=⟨h.os,h.tape,h.output,Nat.le_of_eq h.size.symm,fun k _ hk=>h.out k hk⟩
theorem znA {β:Type}{B:Nat}(hr:r<B)(S:β->Nat->Bool):OwnFrom B (fun s W=>zad os r (S s) W):=by
 rintro s W W' row⟨f,hf,h⟩ hg hrow;exact⟨f,zon (β:=Unit) hr (fun _=>f) () W W' row hf hg hrow,h⟩
def zbV (os:List Ob)(S:Nat->Bool)(xs:List Lk):Prop:=∀x∈xs,x.rl≠2->∀j (h:j<os.length),os[j].kd=x.to->os[j].nm=x.nm->S j=true
theorem zbV.nil (os:List Ob)(S:Nat->Bool):zbV os S []:=fun x hx=>by cases hx
theorem zbV.snoc {S':Nat->Bool}{xs:List Lk}(h:zbV os S xs)(hS:∀j,S j=true->S' j=true)(x:Lk)(hx:x.rl≠2->∀j (h:j<os.length),os[j].kd=x.to->os[j].nm=x.nm->S' j=true):zbV os S' (xs++[x]):=by
 intro y hy h2 j hj e1 e2
 rcases List.mem_append.1 hy with hy|hy
 ·exact hS j (h y hy h2 j hj e1 e2)
 ·simp only[List.mem_singleton]at hy
  subst hy;exact hx h2 j hj e1 e2
theorem zbV.all (hs:zQ l.ss=true){i:Nat}(hi:i<os.length)(h:zbV os S (yt (shapeOf l.ss os[i].kd).fs os[i].vs (shapeOf l.ss os[i].kd).fs.length))(j:Nat)(ht:zhX l os i j):S j=true:=by
 obtain⟨_,hj,ht⟩:=ht;obtain⟨x,hx,h2,hp⟩:=(zpP hs _ _).1 ht;unfold jC at hp;simp only[Bool.and_eq_true,decide_eq_true_eq]at hp;exact h x hx h2 j hj hp.1 hp.2
theorem zpO (hs:zQ l.ss=true){i j:Nat}(hi:i<os.length)(hj:j<os.length)(x:Lk)(hx:x∈yt (shapeOf l.ss os[i].kd).fs os[i].vs (shapeOf l.ss os[i].kd).fs.length)(h2:x.rl≠2)(e1:os[j].kd=x.to)(e2:os[j].nm=x.nm):zhX l os i j:=
 ⟨hi,hj,(zpP hs _ _).2 ⟨x,hx,h2,by unfold jC;simp[e1,e2]⟩⟩
theorem ze8 (l:Lw)(os:List Ob)(s:List Bool):(greatest l os s).length=s.length:=zbb l os s _
noncomputable def zdH (l:Lw)(os:List Ob):List Int:=places (greatest l os (endings os))
end Go.Proofs.YtjnpjkigofldlaaGreat
