import Derived.Test.YtnapmdofidgliaaGreatM50
set_option maxHeartbeats 8000000
namespace Go.Proofs.YtnapmdofidgliaaGreat
open Go.RowKit
structure zew (w:World)(a:Option Addr)(s:List Bool):Prop where
 len:s.length<=maxLen
 cells:s≠[]->∃b off,a=some ⟨b,off,none⟩/\b<w.heap.size/\∀i (h:i<s.length),w.cell? ⟨b,off+i,none⟩=some (.bool s[i])
theorem zew.mono {w w':World}{a:Option Addr}{s:List Bool}(h:zew w a s)(hb:Below w.heap.size w w'):zew w' a s:=
 ⟨h.len,fun hne=>by
  obtain⟨b,off,ha,hbs,hc⟩:=h.cells hne;exact⟨b,off,ha,nLt hbs hb.size,fun i hi=>(hb.cell (p:=⟨b,off+i,none⟩) hbs).trans (hc i hi)⟩⟩
def bls (s:List Bool):List Value:=s.map Value.bool
theorem ze6 {w:World}{lo:Nat}{v:Value}{s:List Bool}(h:w.ownsRow lo 4 1 v s.length (bls s))(hl:s.length<=maxLen):∃a cap,v=.slice a s.length cap/\zew w a s:=by
 obtain⟨a,cap,rfl⟩:=yY h;refine⟨a,cap,rfl,hl,fun hne=>?_⟩;obtain⟨_,⟨h0,h1⟩|⟨g,cp,cur,h0,h1⟩⟩:=id h
 ·exact absurd (List.length_eq_zero_iff.1 h1) hne
 ·cases h0
  refine⟨g,0,rfl,(h.lt g rfl).2,fun i hi=>?_⟩;rw[Nat.zero_add,h.cellAt i (by omega)]
  simp[bls,hi]
noncomputable def tied (l:Lw)(o p:Ob):Bool:=names l o p 1||names l o p 3
noncomputable def zfS (l:Lw)(os:List Ob)(s:List Bool)(p:Ob)(k:Nat):Bool:=match os[k]? with|some o=>!(s.getD k false)&&tied l o p|none=>false
noncomputable def zbo (l:Lw)(os:List Ob)(s:List Bool)(p:Ob)(k:Nat):Bool:=(List.range k).any (zfS l os s p)
noncomputable def stays (l:Lw)(os:List Ob)(s:List Bool)(p:Ob):Bool:=zbo l os s p os.length
theorem zlT (l:Lw)(os:List Ob)(s:List Bool)(p:Ob)(k:Nat):zbo l os s p (k+1)=(zbo l os s p k||zfS l os s p k):=by
 unfold zbo;rw[List.range_succ,List.any_append];simp
theorem zlu {l:Lw}{os:List Ob}{s:List Bool}{p:Ob}{k:Nat}(h:k<os.length)(h':k<s.length):zfS l os s p k=(!s[k]&&tied l os[k] p):=by
 unfold zfS;rw[List.getElem?_eq_getElem h];simp[List.getElem?_eq_getElem h']
theorem zm3 {l:Lw}{os:List Ob}{s:List Bool}{p:Ob}{k:Nat}(h:k<os.length)(hs:zfS l os s p k=true):stays l os s p=true:=by
 unfold stays zbo;exact List.any_eq_true.2 ⟨k,List.mem_range.2 h,hs⟩
def endings (os:List Ob):List Bool:=os.map Ob.en
def zdf (s:List Bool)(k:Nat):List Int:=if s.getD k false=true then [(k:Int)] else []
def qK (s:List Bool):Nat->List Int
 | 0=>[]
 | k+1=>qK s k++zdf s k
def places (s:List Bool):List Int:=qK s s.length
theorem zdh (s:List Bool):∀k,(qK s k).length<=k
 | 0=>Nat.le_refl _
 | k+1=>by
  have h:=zdh s k
  show(qK s k++zdf s k).length<=_
  have h2:(zdf s k).length<=1:=by unfold zdf;split <;> simp
  rw[List.length_append];omega
theorem zgC {s:List Bool}{k:Nat}(h:k<s.length)(hs:s[k]=true):qK s (k+1)=qK s k++[(k:Int)]:=by
 show qK s k++zdf s k=_
 unfold zdf;simp[List.getElem?_eq_getElem h,hs]
theorem zh6 {s:List Bool}{k:Nat}(h:k<s.length)(hs:s[k]=false):qK s (k+1)=qK s k:=by
 show qK s k++zdf s k=_
 unfold zdf;simp[List.getElem?_eq_getElem h,hs]
set_option maxRecDepth 20000 in
theorem zmt (a:Option Addr)(cap:Nat)(s:List Bool)(w:World)(hs:zew w a s)(hl:s.length<=1000) :
 Calls Tryz.prog 27 #[.slice a s.length cap] w fun e w'=>∃v,e=.returned v/\w'.ownsRow w.heap.size 3 1 v (places s).length (ints (places s))/\Below w.heap.size w w':=by
 obtain⟨i0,hi,hzi0,hz1',hz2⟩:=info_parts Tryz.zfu;have HS:Hid (zew w a s):=hs;clear hs;go_enter Tryz.func27,Tryz.ntmps27;go_wp2_with fail
 have HR0:Hid ((w.alloc (.cells #[] 3)).ownsRow w.heap.size 3 1 (.slice (some ⟨w.heap.size,0,none⟩) 0 0) 0 (ints [])):=⟨rfl,.inr ⟨w.heap.size,0,#[],rfl,Nat.le_refl _,World.alloc_heap_new _ _,Nat.le_refl _,by simp[maxLen],rfl,rfl⟩⟩
 have HB0:Hid (Below w.heap.size w (w.alloc (.cells #[] 3))):=bAl _ _
 go_loopw [3,4] (fun v0 iv wr=>∃(k:Nat) (v:Value),v=v0/\k<=s.length/\iv=.int .i64 k/\Hid (wr.ownsRow w.heap.size 3 1 v (qK s k).length (ints (qK s k))/\Below w.heap.size w wr)) (fun _ iv _=>s.length-(intOf iv).toNat)
 case atStart=>exact⟨0,_,rfl,Nat.zero_le _,rfl,HR0.out,HB0.out⟩
 case round=>
  obtain⟨k,v,hv,hk,rfl,HQ⟩:=hrel;subst hv;have hkn:k<=1000:=by omega
  by_cases hlt:k<s.length
  ·obtain⟨sb,off,rfl,hsb,hc⟩:=HS.out.cells (by rintro rfl;simp at hlt)
   have hltI:(k:Int)<(s.length:Int):=by omega
   have hck:=(HQ.out.2.cell (p:=⟨sb,off+k,none⟩) hsb).trans (hc k hlt);have hsb':=nLt hsb HQ.out.2.size;clear hc
   cases he:s[k] with
   | false=>
    rw[he]at hck;have HN:=hid (zh6 hlt he);go_wp2_with fail
    exact⟨⟨k+1,_,rfl,by omega,by go_num,by rw[HN.out];exact HQ.out.1,HQ.out.2⟩,zm hlt⟩
   | true=>
    rw[he]at hck;have HN:=hid (zgC hlt he);have HLL:Hid ((qK s k).length<=1000):=by have:=zdh s k;show _<=_;omega
    go_wp2_with (at_builtin;refine wpList_append_own _ rfl (.tmp 16) (.tmp 18) 35 rfl w.heap.size 3 i0 (.int .i64 0) 1 8 Tryz.underlying35 hi hzi0 hz1' hz2 rfl (by decide) _ _ _ rfl (HQ.out.1.alloc _) ⟨wr.heap.size,0,none⟩ 1 1 [.int .i64 (k:Int)] rfl rfl (zci _ _ _) (by intro u hu;simp at hu;subst hu;rfl) (by have:=HLL.out;unfold maxLen;omega) (by have:=HLL.out;omega) (by have:=HQ.out.2.size;simp;omega) ?_;intro v' w4 hown' hgr _)
    have hgb:∀g',v.ownBlock=some g'->w.heap.size<=g':=fun g' hg'=>(HQ.out.1.lt g' hg').1
    refine⟨⟨k+1,_,rfl,by omega,by go_num,?_,zaQ HQ.out.2 HQ.out.2.size hgr hgb⟩,zm hlt⟩;rw[HN.out,List.length_append];have e1:ints (qK s k++[(k:Int)])=ints (qK s k)++[.int .i64 (k:Int)]:=by simp[ints]
    rw[e1];exact hown'
  ·have e:k=s.length:=by omega
   subst e;have HW:=hid HQ.out;clear HQ hlt hk;go_wp2_with fail
   go_ret;exact⟨v,rfl,HW.out⟩
set_option maxRecDepth 20000 in
theorem zm2 (l:Lw)(la lb lc:Option Addr)(lca lcb lcc:Nat)(b:Bk)(a0 a1 a2 a3:Option Addr)(c0 c1 c2 c3:Nat)(sa:Option Addr)(scap:Nat)(s:List Bool)(i:Nat)(w:World)(hl:jh w l la lb lc)(hb:jk w b a0 a1 a2 a3)(hs:zew w sa s)(hsl:s.length=b.os.length)(hi:i<b.os.length)(hw:b.os.length<=40/\∀k (h:k<b.os.length),zy l.ss b.os[k]=true)(hfw:∀i (h:i<b.os.length),b.os[i].vs.length<=1048576) :
 Calls Tryz.prog 66 #[.agg #[.slice la l.ss.length lca,.slice lb l.ms.length lcb,.slice lc l.ts.length lcc],.agg #[.int .i64 b.now,.int .i64 b.tick,.int .i64 b.given,.slice a0 b.os.length c0,.slice a1 b.gs.length c1,.slice a2 b.ls.length c2,.slice a3 b.ps.length c3],.slice sa s.length scap,.int .i64 (i:Int)] w fun e w'=>e=.returned (.bool (stays l b.os s b.os[i]))/\Below w.heap.size w w':=by
 have HK:=hid hb;have HL:=hid hl;have HO:=hid hw;have HW:=hid hfw;have HS:Hid (zew w sa s/\s.length=b.os.length):=⟨hs,hsl⟩
 clear hb hl hw hfw hs hsl;go_enter Tryz.func66,Tryz.ntmps66;go_wp2_with fail
 obtain⟨hL0,hX0⟩:=qx w #[.slice la l.ss.length lca,.slice lb l.ms.length lcb,.slice lc l.ts.length lcc] #[.int .i64 b.now,.int .i64 b.tick,.int .i64 b.given,.slice a0 b.os.length c0,.slice a1 b.gs.length c1,.slice a2 b.ls.length c2,.slice a3 b.ps.length c3] 41 48;have HBi:Hid (Below w.heap.size w ((w.alloc (.cells #[.slice la l.ss.length lca,.slice lb l.ms.length lcb,.slice lc l.ts.length lcc] 41)).alloc (.cells #[.int .i64 b.now,.int .i64 b.tick,.int .i64 b.given,.slice a0 b.os.length c0,.slice a1 b.gs.length c1,.slice a2 b.ls.length c2,.slice a3 b.ps.length c3] 48))):=zw w _ _;obtain⟨W0,hW0⟩:∃W0,W0=(w.alloc (.cells #[.slice la l.ss.length lca,.slice lb l.ms.length lcb,.slice lc l.ts.length lcc] 41)).alloc (.cells #[.int .i64 b.now,.int .i64 b.tick,.int .i64 b.given,.slice a0 b.os.length c0,.slice a1 b.gs.length c1,.slice a2 b.ls.length c2,.slice a3 b.ps.length c3] 48):=⟨_,rfl⟩
 have hz0:w.heap.size+1<W0.heap.size:=by rw[hW0];simp
 rw[<- hW0]at HBi hX0 hL0 ⊢;clear hW0;have hq0:=nSl hz0
 go_loopw [9] (fun iv wr=>∃k:Nat,k<=b.os.length/\iv=.int .i64 k/\Hid (zbo l b.os s b.os[i] k=false/\Below W0.heap.size W0 wr)) (fun iv _=>b.os.length-(intOf iv).toNat)
 case atStart=>exact⟨0,Nat.zero_le _,rfl,by simp[zbo],bRf _ _⟩
 case round=>
  obtain⟨k,hk,rfl,HQ⟩:=hrel;have hkn:k<=40:=by have:=HO.out.1;omega
  have hX1:=za hX0 hz0 HQ.out.2;have hL1:=za hL0 hq0 HQ.out.2;have hz1:=nLt hz0 HQ.out.2.size;have hq1:=nLt hq0 HQ.out.2.size;have HBr:=hid (HBi.out.trans (HQ.out.2.mono HBi.out.size))
  by_cases hlt:k<b.os.length
  ·have hls:k<s.length:=by rw[HS.out.2];exact hlt
   obtain⟨sb,off,rfl,hsb,hc⟩:=HS.out.1.cells (by rintro rfl;simp at hls);have hltI:(k:Int)<(b.os.length:Int):=by omega
   have hltS:(k:Int)<(s.length:Int):=by omega
   have hck:=(HBr.out.cell (p:=⟨sb,off+k,none⟩) hsb).trans (hc k hls);have hsb':=nLt hsb HBr.out.size;have HSu:Hid (zbo l b.os s b.os[i] (k+1)=(zbo l b.os s b.os[i] k||(!s[k]&&tied l b.os[k] b.os[i]))):=by rw[Hid,zlT,zlu hlt hls]
   have HFo:Hid ((!s[k]&&tied l b.os[k] b.os[i])=true->stays l b.os s b.os[i]=true):=fun h=>zm3 hlt (by rw[zlu hlt hls];exact h)
   clear hc
   cases he:s[k] with
   | true=>
    rw[he]at hck;have HN:Hid (zbo l b.os s b.os[i] (k+1)=false):=by rw[Hid,HSu.out,HQ.out.1,he];simp
    go_wp2_with fail
    exact⟨⟨k+1,by omega,by go_num,HN.out,HQ.out.2⟩,zm hlt⟩
   | false=>
    rw[he]at hck;go_wp2_with fail
    refine(zeM l la lb lc lca lcb lcc b a0 a1 a2 a3 c0 c1 c2 c3 k i 1 wr (HL.out.mono HBr.out) (HK.out.mono HBr.out) hlt hi (HO.out.2 k hlt) (HW.out k hlt)).mono ?_;rintro e w2⟨rfl,hb2⟩;have hX2:=za hX1 hz1 hb2;have hL2:=za hL1 hq1 hb2;have hz2:=nLt hz1 hb2.size;have hq2:=nLt hq1 hb2.size;have HB2:=hid (HQ.out.2.trans (hb2.mono HQ.out.2.size));have HBw2:=hid (HBi.out.trans (HB2.out.mono HBi.out.size));clear hb2 hX1 hL1 hz1 hq1 hck hsb'
    cases h1:names l b.os[k] b.os[i] 1 with
    | true=>
     have HF:Hid (stays l b.os s b.os[i]=true):=HFo.out (by unfold tied;rw[he,h1];rfl);go_wp2_with fail
     go_ret;exact⟨ze HF.out.symm,HBw2.out⟩
    | false=>
     go_wp2_with fail
     refine(zeM l la lb lc lca lcb lcc b a0 a1 a2 a3 c0 c1 c2 c3 k i 3 w2 (HL.out.mono HBw2.out) (HK.out.mono HBw2.out) hlt hi (HO.out.2 k hlt) (HW.out k hlt)).mono ?_;rintro e w3⟨rfl,hb3⟩;have HB3:=hid (HB2.out.trans (hb3.mono HB2.out.size));have HBw3:=hid (HBi.out.trans (HB3.out.mono HBi.out.size));clear hb3
     cases h3:names l b.os[k] b.os[i] 3 with
     | true=>
      have HF:Hid (stays l b.os s b.os[i]=true):=HFo.out (by unfold tied;rw[he,h3];simp);go_wp2_with fail
      go_ret;exact⟨ze HF.out.symm,HBw3.out⟩
     | false=>
      have HN:Hid (zbo l b.os s b.os[i] (k+1)=false):=by rw[Hid,HSu.out,HQ.out.1,he];unfold tied;rw[h1,h3];rfl
      go_wp2_with fail
      exact⟨⟨k+1,by omega,by go_num,HN.out,HB3.out⟩,zm hlt⟩
  ·have e:k=b.os.length:=by omega
   subst e;have HN:=hid HQ.out.1;clear HQ hlt hk;go_wp2_with fail
   go_ret;exact⟨ze HN.out.symm,HBr.out⟩
theorem Tryz.znF:(Tryz.prog.info? 4).map (fun i=>(i.zero,i.size,i.bytes))=some (some (.bool false),1,1):=by kernel_rfl
theorem zex {w:World}{lo:Nat}{g n cap:Nat}{s:List Bool}(h:w.ownsRow lo 4 1 (.slice (some ⟨g,0,none⟩) n cap) n (bls s))(i:Nat)(_hi:i<n)(v:Bool):(w.setCell ⟨g,i,none⟩ (.bool v)).ownsRow lo 4 1 (.slice (some ⟨g,0,none⟩) n cap) n (bls (s.set i v)):=by
 obtain⟨hl,⟨h0,_⟩|⟨g',cp,cur,h0,h2,h3,h4,h5,h6,h7⟩⟩:=h
 ·cases h0
 ·cases h0
  refine⟨by simpa[bls] using hl,.inr ⟨g,cap,cur.setIfInBounds i (.bool v),rfl,h2,zk h3 _,h4,h5,by simpa using h6,?_⟩⟩;rw[Array.toList_setIfInBounds,Nat.mul_one,List.take_set];rw[Nat.mul_one]at h7;rw[h7]
  simp[bls]
theorem zg6 {w:World}{lo n:Nat}{e:TypeId}{v:Value}{xs:List Value}(h:w.ownsRow lo e 1 v n xs)(hn:0<n):∃g,v.ownBlock=some g:=by
 obtain⟨_,⟨rfl,h0⟩|⟨g,cap,cur,rfl,_⟩⟩:=h
 ·omega
 ·exact⟨g,rfl⟩
theorem zeT {w:World}{lo n g:Nat}{e:TypeId}{v:Value}{xs:List Value}(h:w.ownsRow lo e 1 v n xs)(hg:v.ownBlock=some g):∃g cap,v=.slice (some ⟨g,0,none⟩) n cap:=by
 obtain⟨_,⟨rfl,h0⟩|⟨g',cap,cur,rfl,_⟩⟩:=h
 ·cases hg
 ·exact⟨g',cap,rfl⟩
noncomputable def zaU (l:Lw)(os:List Ob)(t:List Bool)(i:Nat):List Bool:=match os[i]? with|some o=>if (t.getD i false&&(decide (0<o.hs.length)||stays l os t o))=true then t.set i false else t|none=>t
noncomputable def qj (l:Lw)(os:List Ob)(s:List Bool):Nat->List Bool
 | 0=>s
 | i+1=>zaU l os (qj l os s i) i
noncomputable def passes (l:Lw)(os:List Ob)(s:List Bool):Nat->List Bool
 | 0=>s
 | n+1=>qj l os (passes l os s n) s.length
noncomputable def greatest (l:Lw)(os:List Ob)(s:List Bool):List Bool:=passes l os s (s.length+1)
theorem zkB (l:Lw)(os:List Ob)(t:List Bool)(i:Nat):(zaU l os t i).length=t.length:=by
 unfold zaU;split
 ·split <;> simp
 ·rfl
theorem zds (l:Lw)(os:List Ob)(s:List Bool):∀i,(qj l os s i).length=s.length
 | 0=>rfl
 | i+1=>(zkB _ _ _ _).trans (zds l os s i)
theorem za9 (l:Lw)(os:List Ob)(s:List Bool):∀n,(passes l os s n).length=s.length
 | 0=>rfl
 | n+1=>(zds _ _ _ _).trans (za9 l os s n)
theorem zhI {l:Lw}{os:List Ob}{t:List Bool}{i:Nat}(h:i<os.length)(h':i<t.length):zaU l os t i=if (t[i]&&(decide (0<os[i].hs.length)||stays l os t os[i]))=true then t.set i false else t:=by
 unfold zaU;rw[List.getElem?_eq_getElem h];simp[List.getElem?_eq_getElem h']
set_option maxRecDepth 20000 in
theorem zmd (b:Bk)(a0 a1 a2 a3:Option Addr)(c0 c1 c2 c3:Nat)(w:World)(hb:jk w b a0 a1 a2 a3)(hl:b.os.length<=1000) :
 Calls Tryz.prog 25 #[.agg #[.int .i64 b.now,.int .i64 b.tick,.int .i64 b.given,.slice a0 b.os.length c0,.slice a1 b.gs.length c1,.slice a2 b.ls.length c2,.slice a3 b.ps.length c3]] w fun e w'=>∃g cap,e=.returned (.slice (some ⟨g,0,none⟩) b.os.length cap)/\w'.ownsRow w.heap.size 4 1 (.slice (some ⟨g,0,none⟩) b.os.length cap) b.os.length (bls (endings b.os))/\Below w.heap.size w w':=by
 obtain⟨i0,hi,hzi0,hz1',hz2⟩:=info_parts Tryz.znF;have HK:Hid (jk w b a0 a1 a2 a3):=hb;clear hb;go_enter Tryz.func25,Tryz.ntmps25;go_wp2_with fail
 obtain⟨hX0,hR0⟩:=zT w (.cells #[.int .i64 b.now,.int .i64 b.tick,.int .i64 b.given,.slice a0 b.os.length c0,.slice a1 b.gs.length c1,.slice a2 b.ls.length c2,.slice a3 b.ps.length c3] 48) (.cells #[] 4);have HB0:Hid (Below w.heap.size w ((w.alloc (.cells #[.int .i64 b.now,.int .i64 b.tick,.int .i64 b.given,.slice a0 b.os.length c0,.slice a1 b.gs.length c1,.slice a2 b.ls.length c2,.slice a3 b.ps.length c3] 48)).alloc (.cells #[] 4))):=zw w _ _;obtain⟨W0,hW0⟩:∃W0,W0=(w.alloc (.cells #[.int .i64 b.now,.int .i64 b.tick,.int .i64 b.given,.slice a0 b.os.length c0,.slice a1 b.gs.length c1,.slice a2 b.ls.length c2,.slice a3 b.ps.length c3] 48)).alloc (.cells #[] 4):=⟨_,rfl⟩
 have hz0:w.heap.size+1<W0.heap.size:=by rw[hW0];simp
 rw[<- hW0]at HB0 hX0 hR0 ⊢;clear hW0;have hX:=zaj hX0;have HR0:Hid (W0.ownsRow (w.heap.size+1) 4 1 (.slice (some ⟨w.heap.size+1,0,none⟩) 0 0) 0 (bls [])):=⟨rfl,.inr ⟨w.heap.size+1,0,#[],rfl,Nat.le_refl _,hR0,Nat.le_refl _,by simp[maxLen],rfl,rfl⟩⟩
 clear hX0 hR0
 go_loopw [3,4] (fun v0 iv wr=>∃(k:Nat) (v:Value),v=v0/\k<=b.os.length/\iv=.int .i64 k/\Hid ((∃g,v.ownBlock=some g)/\wr.ownsRow (w.heap.size+1) 4 1 v (endings (b.os.take k)).length (bls (endings (b.os.take k)))/\Below (w.heap.size+1) W0 wr)) (fun _ iv _=>b.os.length-(intOf iv).toNat)
 case atStart=>exact⟨0,_,rfl,Nat.zero_le _,rfl,⟨_,rfl⟩,HR0.out,bRf _ _⟩
 case round=>
  obtain⟨k,v,hv,hk,rfl,HQ⟩:=hrel;subst hv;have hkn:k<=1000:=by omega
  have hX1:∀j,wr.cell? ⟨w.heap.size,j,none⟩=(#[.int .i64 b.now,.int .i64 b.tick,.int .i64 b.given,.slice a0 b.os.length c0,.slice a1 b.gs.length c1,.slice a2 b.ls.length c2,.slice a3 b.ps.length c3]:Array Value)[j]?:=fun j=>(HQ.out.2.2.cell (p:=⟨w.heap.size,j,none⟩) (Nat.lt_succ_self _)).trans (hX j)
  have hz1:w.heap.size<wr.heap.size:=by have:=HQ.out.2.2.size;omega
  have HBr:=hid (HB0.out.trans (HQ.out.2.2.mono (Nat.le_succ _)))
  by_cases hlt:k<b.os.length
  ·obtain⟨ob,off,v0,v1,q0,q1,rfl,hob,_,_,_,d0,d1,d2,d3,d4,d5,d6⟩:=HK.out.os.load HBr.out k hlt
   have hltI:(k:Int)<(b.os.length:Int):=by omega
   have hob':=nLt hob HBr.out.size;have HN:Hid (endings (b.os.take (k+1))=endings (b.os.take k)++[b.os[k].en]):=by unfold Hid endings;rw[tSe hlt,List.map_append];rfl
   have HLL:Hid ((endings (b.os.take k)).length<=1000):=by unfold Hid endings;rw[List.length_map,List.length_take];omega
   clear d0 d1 d2 d3 d5 d6
   go_wp2_with (at_builtin;refine wpList_append_own _ rfl (.tmp 13) (.tmp 20) 65 rfl (w.heap.size+1) 4 i0 (.bool false) 1 1 Tryz.underlying65 hi hzi0 hz1' hz2 rfl (by decide) _ _ _ rfl (HQ.out.2.1.alloc _) ⟨wr.heap.size,0,none⟩ 1 1 [.bool b.os[k].en] rfl rfl (zci _ _ _) (by intro u hu;simp at hu;subst hu;rfl) (by have:=HLL.out;unfold maxLen;omega) (by have:=HLL.out;omega) (by have:=HQ.out.2.2.size;simp;omega) ?_;intro v' w4 hown' hgr hnn)
   have hgb:∀g',v.ownBlock=some g'->w.heap.size+1<=g':=fun g' hg'=>(HQ.out.2.1.lt g' hg').1
   refine⟨⟨k+1,_,rfl,by omega,by go_num,?_,?_,zaQ HQ.out.2.2 (by omega) hgr hgb⟩,zm hlt⟩
   ·exact zg6 hown' (by omega)
   ·rw[HN.out,List.length_append]
    have e1:bls (endings (b.os.take k)++[b.os[k].en])=bls (endings (b.os.take k))++[.bool b.os[k].en]:=by simp[bls]
    rw[e1];exact hown'
  ·have e:k=b.os.length:=by omega
   subst e;have HE:Hid (wr.ownsRow (w.heap.size+1) 4 1 v (endings b.os).length (bls (endings b.os))/\(∃g,v.ownBlock=some g)/\Below w.heap.size w wr):=by have:=HQ.out.2.1;rw[tOl (Nat.le_refl _)]at this;exact⟨this,HQ.out.1,HBr.out⟩
   clear HQ hlt hk;have hel:(endings b.os).length=b.os.length:=by simp[endings]
   have HV:Hid (∃g cap,v=.slice (some ⟨g,0,none⟩) b.os.length cap):=by
    obtain⟨g,hg⟩:=HE.out.2.1;obtain⟨g',cap,rfl⟩:=zeT HE.out.1 hg;exact⟨g',cap,by rw[hel]⟩
   obtain⟨g,cap,rfl⟩:=HV.out;have HBl:Hid (wr.ownsRow w.heap.size 4 1 (.slice (some ⟨g,0,none⟩) b.os.length cap) b.os.length (bls (endings b.os))):=by have h:=zaq HE.out.1 (Nat.le_succ w.heap.size);rw[hel]at h;exact h
   have HBe:=hid HBr.out;clear HV HE hel;go_wp2_with fail
   go_ret;exact⟨g,cap,rfl,HBl.out,HBe.out⟩
theorem zqu {w:World}{sb soff:Nat}{s:List Bool}(h:zew w (some ⟨sb,soff,none⟩) s):∀j u,(bls s)[j]?=some u->w.cell? ((⟨sb,soff,none⟩:Addr).add j)=some u:=by
 intro j u hu;unfold bls at hu;rw[List.getElem?_map]at hu
 cases hj:s[j]? with
 | none=>rw[hj]at hu;cases hu
 | some x=>
  rw[hj]at hu;obtain⟨hlt,rfl⟩:=List.getElem?_eq_some_iff.1 hj;obtain⟨b',off',e,_,hc⟩:=h.cells (by rintro rfl;simp at hlt)
  cases e
  cases hu
  have e1:(⟨sb,soff,none⟩:Addr).add j=⟨sb,soff+j,none⟩:=by
   unfold Addr.add;split
   ·rename_i h;subst h;simp
   ·rfl
  rw[e1];exact hc j hlt
theorem zqS {s:List Bool}:∀u∈bls s,∃b,u=Value.bool b:=by
 intro u hu;unfold bls at hu;obtain⟨b,_,rfl⟩:=List.mem_map.1 hu;exact⟨b,rfl⟩
set_option maxRecDepth 20000 in
theorem zjW (l:Lw)(la lb lc:Option Addr)(lca lcb lcc:Nat)(b:Bk)(a0 a1 a2 a3:Option Addr)(c0 c1 c2 c3:Nat)(sb soff scap:Nat)(s:List Bool)(w:World)(hl:jh w l la lb lc)(hb:jk w b a0 a1 a2 a3)(hs:zew w (some ⟨sb,soff,none⟩) s)(hsl:s.length=b.os.length)(hw:b.os.length<=40/\∀k (h:k<b.os.length),zy l.ss b.os[k]=true)(hfw:∀i (h:i<b.os.length),b.os[i].vs.length<=1048576) :
 Calls Tryz.prog 28 #[.agg #[.slice la l.ss.length lca,.slice lb l.ms.length lcb,.slice lc l.ts.length lcc],.agg #[.int .i64 b.now,.int .i64 b.tick,.int .i64 b.given,.slice a0 b.os.length c0,.slice a1 b.gs.length c1,.slice a2 b.ls.length c2,.slice a3 b.ps.length c3],.slice (some ⟨sb,soff,none⟩) s.length scap] w fun e w'=>∃a cap,e=.returned (.slice a s.length cap)/\zew w' a (greatest l b.os s)/\Below w.heap.size w w':=by
 obtain⟨i0,hi,hzi0,hz1',hz2⟩:=info_parts Tryz.znF;have HK:=hid hb;have HL:=hid hl;have HO:=hid hw;have HW:=hid hfw;have HSl:=hid hsl;have hsn:s.length<=40:=by omega
 obtain⟨hL0,hX0,hR0⟩:=zpC w (.cells #[.slice la l.ss.length lca,.slice lb l.ms.length lcb,.slice lc l.ts.length lcc] 41) (.cells #[.int .i64 b.now,.int .i64 b.tick,.int .i64 b.given,.slice a0 b.os.length c0,.slice a1 b.gs.length c1,.slice a2 b.ls.length c2,.slice a3 b.ps.length c3] 48) (.cells #[] 4);have hb3:=below3' w (.cells #[.slice la l.ss.length lca,.slice lb l.ms.length lcb,.slice lc l.ts.length lcc] 41) (.cells #[.int .i64 b.now,.int .i64 b.tick,.int .i64 b.given,.slice a0 b.os.length c0,.slice a1 b.gs.length c1,.slice a2 b.ls.length c2,.slice a3 b.ps.length c3] 48) (.cells #[] 4);have HNw:=hid (hs.mono hb3);have HB3:=hid hb3;have HBk:=jC hL0 hX0;clear hb hl hw hfw hs hsl hL0 hX0 hb3;go_enter Tryz.func28,Tryz.ntmps28
 go_wp2_with (at_builtin;refine wpList_append_own _ rfl (.tmp 10) (.tmp 11) 65 rfl (w.heap.size+1+1) 4 i0 (.bool false) 1 1 Tryz.underlying65 hi hzi0 hz1' hz2 rfl (by decide) (.slice (some ⟨w.heap.size+1+1,0,none⟩) 0 0) 0 [] rfl ⟨rfl,.inr ⟨w.heap.size+1+1,0,#[],rfl,Nat.le_refl _,hR0,Nat.le_refl _,by simp[maxLen],rfl,rfl⟩⟩ ⟨sb,soff,none⟩ s.length scap (bls s) rfl (by simp[bls]) (zqu HNw.out) (by intro u hu;obtain⟨x,rfl⟩:=zqS u hu;rfl) (by unfold maxLen;omega) (by omega) (by simp) ?_;intro v' w1 hown hgr hnn;simp only[Nat.zero_add,List.nil_append]at hown)
 have HB1:Hid (Below (w.heap.size+1+1) (((w.alloc (.cells #[.slice la l.ss.length lca,.slice lb l.ms.length lcb,.slice lc l.ts.length lcc] 41)).alloc (.cells #[.int .i64 b.now,.int .i64 b.tick,.int .i64 b.given,.slice a0 b.os.length c0,.slice a1 b.gs.length c1,.slice a2 b.ls.length c2,.slice a3 b.ps.length c3] 48)).alloc (.cells #[] 4)) w1):=(bRf _ _).grown hgr (by simp) (fun k hk=>by cases hk;exact Nat.le_refl _);have HL1:Hid (w1.heap[w.heap.size]?=some (.cells #[.slice la l.ss.length lca,.slice lb l.ms.length lcb,.slice lc l.ts.length lcc] 41)/\w1.heap[w.heap.size+1]?=some (.cells #[.int .i64 b.now,.int .i64 b.tick,.int .i64 b.given,.slice a0 b.os.length c0,.slice a1 b.gs.length c1,.slice a2 b.ls.length c2,.slice a3 b.ps.length c3] 48)):=⟨(HB1.out.block _ (by omega)).trans HBk.out.1,(HB1.out.block _ (by omega)).trans HBk.out.2⟩
 have HBw:Hid (Below w.heap.size w w1):=HB3.out.trans (HB1.out.mono (by omega));obtain⟨a,cap,rfl⟩:=yY hown;have HR1:=hid hown;have hz1:w.heap.size+1+1<w1.heap.size:=by have:=HB1.out.size;simp at this;omega
 clear hown hgr hnn hR0 HB3 HBk HNw HB1;have HPl:=hid (za9 l b.os s);go_wp2_with fail
 go_loopw [8] (fun iv wr=>∃n:Nat,n<=s.length+1/\iv=.int .i64 n/\Hid (wr.ownsRow (w.heap.size+1+1) 4 1 (.slice a s.length cap) s.length (bls (passes l b.os s n))/\Below (w.heap.size+1+1) w1 wr)) (fun iv _=>s.length+1-(intOf iv).toNat)
 case atStart=>exact⟨0,Nat.zero_le _,rfl,HR1.out,bRf _ _⟩
 case round=>
  obtain⟨n,hn,rfl,HQ⟩:=hrel;obtain⟨W2,hW2⟩:∃W2,W2=wr:=⟨_,rfl⟩
  rw[<- hW2]at HQ ⊢;clear hW2;have hnn:n<=41:=by omega
  have HB2:Hid (Below w.heap.size w W2):=HBw.out.trans (HQ.out.2.mono (by omega));have hzW:=nLt hz1 HQ.out.2.size
  by_cases hle:n<=s.length
  ·have hleI:(n:Int)<=(s.length:Int):=by omega
   obtain⟨t,ht⟩:∃t,t=passes l b.os s n:=⟨_,rfl⟩
   have HT:=hid ht;have htl:t.length=s.length:=by rw[ht];exact HPl.out n
   rw[<- ht]at HQ;clear ht;go_wp2_with fail
   go_loopw [9] (fun jv wi=>∃i:Nat,i<=s.length/\jv=.int .i64 i/\Hid (wi.ownsRow (w.heap.size+1+1) 4 1 (.slice a s.length cap) s.length (bls (qj l b.os t i))/\Below (w.heap.size+1+1) w1 wi)) (fun jv _=>s.length-(intOf jv).toNat)
   case atStart=>exact⟨0,Nat.zero_le _,rfl,HQ.out.1,HQ.out.2⟩
   case round=>
    obtain⟨i,hi',rfl,HR⟩:=hrel;have hin:i<=40:=by omega
    have HBi:Hid (Below w.heap.size w wr):=HBw.out.trans (HR.out.2.mono (by omega));have hzi:=nLt hz1 HR.out.2.size;have hyi:=nSl hzi;have hqi:=nSl hyi;have hX:=zaj ((HR.out.2.block _ (by omega)).trans HL1.out.2);have hLw:=zaj ((HR.out.2.block _ (by omega)).trans HL1.out.1);have HPt:Hid ((qj l b.os t i).length=s.length):=(zds l b.os t i).trans htl
    by_cases hlt:i<s.length
    ·have hlo:i<b.os.length:=by have:=HSl.out;omega
     have hlp:i<(qj l b.os t i).length:=by have:=HPt.out;omega
     have hltI:(i:Int)<(s.length:Int):=by omega
     have hloI:(i:Int)<(b.os.length:Int):=by omega
     obtain⟨g,hg⟩:=zg6 HR.out.1 (by omega);obtain⟨g',cap',e'⟩:=zeT HR.out.1 hg
     cases e'
     clear hg;have hrow:=HR.out.1;have hcell:=hrow.cellAt i (by omega);obtain⟨ai,ci,ei,hbl⟩:=ze6 (s:=qj l b.os t i) (by rw[HPt.out];exact HR.out.1) (by rw[HPt.out];unfold maxLen;omega);rw[HPt.out]at ei
     cases ei
     have hgl:=hrow.lt g' rfl;have HD:Hid (qj l b.os t (i+1)=if ((qj l b.os t i)[i]&&(decide (0<b.os[i].hs.length)||stays l b.os (qj l b.os t i) b.os[i]))=true then (qj l b.os t i).set i false else qj l b.os t i):=zhI hlo hlp;have HRw:=zpx hrow hbl hgl.1 hgl.2 HR.out.2;obtain⟨p,hp⟩:∃p,p=qj l b.os t i:=⟨_,rfl⟩
     have hgz:=hgl.2;rw[<- hp]at HRw HPt;have hlp':i<p.length:=by rw[hp];exact hlp
     have hci:wr.cell? ⟨g',i,none⟩=some (.bool p[i]):=by
      obtain⟨_,_,e1,_,hc⟩:=HRw.out.2.1.cells (by rintro rfl;simp at hlp')
      cases e1
      have:=hc i hlp'
      rwa [Nat.zero_add]at this
     have HPd:Hid (qj l b.os t (i+1)=if (p[i]&&(decide (0<b.os[i].hs.length)||stays l b.os p b.os[i]))=true then p.set i false else p):=by subst hp;exact HD.out
     clear hp HD hrow hcell hbl hgl HR hlp
     cases hpi:p[i] with
     | false=>
      rw[hpi]at hci;have HN:Hid (qj l b.os t (i+1)=p):=by rw[Hid,HPd.out,hpi];simp
      go_wp2_with fail
      exact⟨⟨i+1,by omega,by go_num,by rw[HN.out];exact HRw.out.1,HRw.out.2.2.2.2⟩,zm hlt⟩
     | true=>
      rw[hpi]at hci;obtain⟨ob,off,v0,v1,q0,q1,rfl,hob,_,_,_,d0,d1,d2,d3,d4,d5,d6⟩:=HK.out.os.load HBi.out i hlo;have hob':=nLt hob HBi.out.size
      have hfz:∀o,wr.frozen? ⟨g',o,none⟩=false:=fun o=>by
       obtain⟨_,⟨h0,_⟩|⟨_,_,_,h0,_,h3,_⟩⟩:=HRw.out.1
       ·cases h0
       ·cases h0;exact zh h3
      clear d0 d1 d2 d3 d4 d6
      have HSet:Hid (∀W,Below wr.heap.size wr W->(W.setCell ⟨g',i,none⟩ (.bool false)).ownsRow (w.heap.size+1+1) 4 1 (.slice (some ⟨g',0,none⟩) s.length cap) s.length (bls (p.set i false))/\Below (w.heap.size+1+1) w1 (W.setCell ⟨g',i,none⟩ (.bool false))/\W.cell? ⟨g',i,none⟩=some (.bool true)/\∀o,W.frozen? ⟨g',o,none⟩=false):=fun W hW=>
       ⟨zex (yF HRw.out.1 hW) i hlt false,(HRw.out.2.2.2.2.trans (hW.mono (by omega))).setCell (p:=⟨g',i,none⟩) HRw.out.2.2.1 _,(hW.cell (p:=⟨g',i,none⟩) HRw.out.2.2.2.1).trans hci,fun o=>by
        obtain⟨_,⟨h0,_⟩|⟨_,_,_,h0,_,h3,_⟩⟩:=yF HRw.out.1 hW
        ·cases h0
        ·cases h0;exact zh h3⟩
      by_cases hh:0<b.os[i].hs.length
      ·have hhI:(0:Int)<(b.os[i].hs.length:Int):=by omega
       have hhd:=decide_eq_true hh;have HN:Hid (qj l b.os t (i+1)=p.set i false):=by rw[Hid,HPd.out,hpi,hhd];simp
       have HE:=(HSet.out wr (bRf _ _))
       have HE1:=hid HE.1;have HE2:=hid HE.2.1;clear HE;go_wp2_with fail
       exact⟨⟨i+1,by omega,by go_num,by rw[HN.out];exact HE1.out,HE2.out⟩,zm hlt⟩
      ·have hhI:¬(0:Int)<(b.os[i].hs.length:Int):=by omega
       have hhd:=decide_eq_false hh;have hst:=zm2 l la lb lc lca lcb lcc b (some ⟨ob,off,none⟩) a1 a2 a3 c0 c1 c2 c3 (some ⟨g',0,none⟩) cap p i wr (HL.out.mono HBi.out) (HK.out.mono HBi.out) HRw.out.2.1 (by rw[HPt.out];exact HSl.out) hlo HO.out HW.out;rw[HPt.out]at hst;go_wp2_with fail
       refine hst.mono ?_;rintro e w5⟨rfl,hb5⟩;have HE:=HSet.out w5 hb5;have hci5:=HE.2.2.1;have hfz5:=HE.2.2.2;have HE1:=hid HE.1;have HE2:=hid HE.2.1;have HB5:Hid (Below wr.heap.size wr w5):=hb5;have hgz5:=nLt hgz hb5.size;clear HE hb5 hst hci hfz d5 hob'
       cases hsy:stays l b.os p b.os[i] with
       | true=>
        have HN:Hid (qj l b.os t (i+1)=p.set i false):=by rw[Hid,HPd.out,hpi,hsy];simp
        go_wp2_with fail
        exact⟨⟨i+1,by omega,by go_num,by rw[HN.out];exact HE1.out,HE2.out⟩,zm hlt⟩
       | false=>
        have HN:Hid (qj l b.os t (i+1)=p):=by rw[Hid,HPd.out,hpi,hsy,hhd];simp
        go_wp2_with fail
        exact⟨⟨i+1,by omega,by go_num,by rw[HN.out];exact yF HRw.out.1 HB5.out,HRw.out.2.2.2.2.trans (HB5.out.mono (by have:=HRw.out.2.2.1;have:=HRw.out.2.2.2.1;omega))⟩,zm hlt⟩
    ·have e:i=s.length:=by omega
     subst e;have HN:Hid (qj l b.os t s.length=passes l b.os s (n+1)):=by rw[Hid,HT.out];rfl
     rw[HN.out]at HR;clear hX hLw;go_wp2_with fail
     exact⟨⟨n+1,by omega,by go_num,HR.out.1,HR.out.2⟩,by simp[intOf];omega⟩
  ·have e:n=s.length+1:=by omega
   subst e;have hleI:¬((s.length+1:Nat):Int)<=(s.length:Int):=by omega
   obtain⟨ai,ci,ei,hbl⟩:=ze6 (s:=greatest l b.os s) (by have h:=HPl.out (s.length+1);unfold greatest;rw[h];exact HQ.out.1) (by have h:=HPl.out (s.length+1);unfold greatest;rw[h];unfold maxLen;omega);have hgl:(greatest l b.os s).length=s.length:=HPl.out (s.length+1);rw[hgl]at ei;have HE:Hid (zew W2 a (greatest l b.os s)):=by cases ei;exact hbl
   clear HQ hbl ei;go_wp2_with fail
   go_ret;exact⟨a,⟨cap,rfl⟩,HE.out,HB2.out⟩
end Go.Proofs.YtnapmdofidgliaaGreat
namespace Go.Proofs.YtnapmdofidgliaaGreat
theorem zbl (l:Lw)(os:List Ob)(s:List Bool):(greatest l os s).length=s.length:=za9 l os s _
end Go.Proofs.YtnapmdofidgliaaGreat
namespace Go.Proofs.YtnapmdofidgliaaGreat
def zf5 (os:List Ob)(s:List Bool)(i:Nat):Prop:=∃h:i<os.length,s.getD i false=false \/ 0<os[i].hs.length
def zly (l:Lw)(os:List Ob)(K:Nat->Prop):Prop:=∀i j (hi:i<os.length) (hj:j<os.length),K i->tied l os[i] os[j]=true->K j
def zlM (l:Lw)(os:List Ob)(s:List Bool)(i:Nat):Prop:=∀K:Nat->Prop,(∀j,zf5 os s j->K j)->zly l os K->K i
theorem zlr {l:Lw}{os:List Ob}{t:List Bool}{p:Ob}:stays l os t p=true↔∃k,∃h:k<os.length,t.getD k false=false/\tied l os[k] p=true:=by
 unfold stays zbo;rw[List.any_eq_true]
 constructor
 ·rintro⟨k,hk,hs⟩
  have hk':=List.mem_range.1 hk;unfold zfS at hs;rw[List.getElem?_eq_getElem hk']at hs;simp only[Bool.and_eq_true,Bool.not_eq_true']at hs;exact⟨k,hk',hs.1,hs.2⟩
 ·rintro⟨k,hk,h1,h2⟩
  refine⟨k,List.mem_range.2 hk,?_⟩;unfold zfS;rw[List.getElem?_eq_getElem hk];simp only[h1,h2,Bool.not_false,Bool.and_true]
theorem getD_set_ne {t:List Bool}{i j:Nat}(h:i≠j)(v:Bool):(t.set i v).getD j false=t.getD j false:=by
 simp[List.getD_eq_getElem?_getD,List.getElem?_set_ne h]
theorem zcQ {t:List Bool}{i:Nat}:(t.set i false).getD i false=false:=by
 rw[List.getD_eq_getElem?_getD,List.getElem?_set,if_pos rfl]
 split <;> rfl
theorem zn5 (l:Lw)(os:List Ob)(t:List Bool)(i j:Nat)(h:t.getD j false=false):(zaU l os t i).getD j false=false:=by
 unfold zaU
 split
 ·split
  ·by_cases e:i=j
   ·subst e;exact zcQ
   ·rw[getD_set_ne e];exact h
  ·exact h
 ·exact h
theorem zin (l:Lw)(os:List Ob)(t:List Bool)(j:Nat)(h:t.getD j false=false):∀i,(qj l os t i).getD j false=false
 | 0=>h
 | i+1=>zn5 l os _ i j (zin l os t j h i)
theorem zim (l:Lw)(os:List Ob)(s:List Bool)(j:Nat)(h:s.getD j false=false):∀n,(passes l os s n).getD j false=false
 | 0=>h
 | n+1=>zin l os _ j (zim l os s j h n) _
def Sound (l:Lw)(os:List Ob)(s t:List Bool):Prop:=∀i,i<os.length->t.getD i false=false->zlM l os s i
theorem Sound.start (l:Lw)(os:List Ob)(s:List Bool):Sound l os s s:=fun i hi h _ hr _=>hr i ⟨hi,Or.inl h⟩
theorem Sound.drop {l:Lw}{os:List Ob}{s t:List Bool}(h:Sound l os s t)(i:Nat):Sound l os s (zaU l os t i):=by
 intro j hj hd
 by_cases e:i=j
 ·subst e
  unfold zaU at hd;rw[List.getElem?_eq_getElem hj]at hd
  simp only at hd
  split at hd
  ·rename_i hc
   simp only[Bool.and_eq_true,Bool.or_eq_true,decide_eq_true_eq]at hc
   rcases hc.2 with h0|h0
   ·exact fun _ hr _=>hr i ⟨hj,Or.inr h0⟩
   ·obtain⟨k,hk,h1,h2⟩:=zlr.1 h0
    exact fun K hr hc=>hc k i hk hj (h k hk h1 K hr hc) h2
  ·exact h i hj hd
 ·have:t.getD j false=false:=by
   unfold zaU at hd
   split at hd
   ·split at hd
    ·rwa [getD_set_ne e]at hd
    ·exact hd
   ·exact hd
  exact h j hj this
theorem Sound.qj {l:Lw}{os:List Ob}{s t:List Bool}(h:Sound l os s t):∀i,Sound l os s (qj l os t i)
 | 0=>h
 | i+1=>(Sound.qj h i).drop i
theorem Sound.passes (l:Lw)(os:List Ob)(s:List Bool):∀n,Sound l os s (passes l os s n)
 | 0=>Sound.start l os s
 | n+1=>(Sound.passes l os s n).qj _
def inside (t:List Bool):Nat:=t.countP id
theorem zoD {t:List Bool}{i:Nat}(h:i<t.length)(ht:t[i]=true):inside (t.set i false)+1=inside t:=by
 unfold inside;rw[List.countP_set h,ht]
 have:0<t.countP id:=List.countP_pos_iff.2 ⟨t[i],List.getElem_mem h,by rw[ht];rfl⟩
 simp
 omega
theorem zmb (l:Lw)(os:List Ob)(t:List Bool)(i:Nat):zaU l os t i=t \/ inside (zaU l os t i)+1=inside t:=by
 unfold zaU
 split
 ·split
  ·rename_i hc
   simp only[Bool.and_eq_true]at hc
   have hi:i<t.length:=by
    rcases Nat.lt_or_ge i t.length with h|h
    ·exact h
    ·have h1:=hc.1;rw[List.getD_eq_getElem?_getD,List.getElem?_eq_none h]at h1;cases h1
   have ht:t[i]=true:=by have h1:=hc.1;rwa [List.getD_eq_getElem?_getD,List.getElem?_eq_getElem hi]at h1
   exact Or.inr (zoD hi ht)
  ·exact Or.inl rfl
 ·exact Or.inl rfl
theorem zcB (l:Lw)(os:List Ob)(t:List Bool):∀i,(∀j,j<=i->qj l os t j=t) \/ inside (qj l os t i)<inside t
 | 0=>Or.inl fun j hj=>by
  have:j=0:=by omega
  subst this;rfl
 | i+1=>by
  have hd:=zmb l os (qj l os t i) i
  rcases zcB l os t i with h|h
  ·rcases hd with e|e
   ·refine Or.inl fun j hj=>?_
    rcases Nat.lt_or_ge j (i+1) with hl|hg
    ·exact h j (by omega)
    ·have:j=i+1:=by omega
     subst this;exact e.trans (h i (Nat.le_refl _))
   ·refine Or.inr ?_
    show inside (zaU l os (qj l os t i) i)<_
    rw[h i (Nat.le_refl _)]at e ⊢;omega
  ·refine Or.inr ?_
   show inside (zaU l os (qj l os t i) i)<_
   rcases hd with e|e
   ·rw[e];exact h
   ·omega
theorem zh1 (l:Lw)(os:List Ob)(s:List Bool):∀n,(qj l os (passes l os s n) s.length=passes l os s n) \/ inside (passes l os s (n+1))+(n+1)<=inside s
 | 0=>by
  rcases zcB l os s s.length with h|h
  ·exact Or.inl (h _ (Nat.le_refl _))
  ·exact Or.inr (by show inside (qj l os s s.length)+1<=_;omega)
 | n+1=>by
  rcases zcB l os (passes l os s (n+1)) s.length with h|h
  ·exact Or.inl (h _ (Nat.le_refl _))
  ·rcases zh1 l os s n with e|e
   ·refine Or.inl ?_
    have:passes l os s (n+1)=passes l os s n:=e
    rw[this];exact e
   ·exact Or.inr (by show inside (qj l os (passes l os s (n+1)) s.length)+(n+1+1)<=_;omega)
theorem zld (s:List Bool):inside s<=s.length:=List.countP_le_length
theorem zfO (l:Lw)(os:List Ob)(s:List Bool):qj l os (greatest l os s) s.length=greatest l os s:=by
 rcases zh1 l os s (s.length+1) with h|h
 ·exact h
 ·have:=zld s;omega
theorem zlA {l:Lw}{os:List Ob}{t:List Bool}{n:Nat}(h:qj l os t n=t)(i:Nat)(hi:i<n):zaU l os t i=t:=by
 rcases zcB l os t n with hc|hc
 ·have h1:=hc i (by omega)
  have h2:=hc (i+1) (by omega);have h3:qj l os t (i+1)=zaU l os (qj l os t i) i:=rfl;rw[h1]at h3;exact h3.symm.trans h2
 ·rw[h]at hc;omega
theorem zmq (l:Lw)(os:List Ob)(s:List Bool)(hs:s.length=os.length)(i:Nat)(hi:i<os.length):(greatest l os s).getD i false=false↔zlM l os s i:=by
 refine⟨fun h=>Sound.passes l os s _ i hi h,fun h=>?_⟩;refine h (fun j=>j<os.length->(greatest l os s).getD j false=false) (fun j hj _=>?_) (fun a c ha hc hK ht _=>?_) hi
 ·obtain⟨hj,h0|h0⟩:=hj
  ·exact zim l os s j h0 _
  ·have hr:=zlA (zfO l os s) j (by omega)
   cases hg:(greatest l os s).getD j false with
   | false=>rfl
   | true=>
    exfalso
    have hgl:j<(greatest l os s).length:=by unfold greatest;rw[za9];omega
    have hgj:(greatest l os s)[j]=true:=by rwa [List.getD_eq_getElem?_getD,List.getElem?_eq_getElem hgl]at hg
    rw[zhI hj hgl,hgj,decide_eq_true h0]at hr;simp only[Bool.true_or,Bool.and_self,if_true]at hr;have h1:=congrArg (fun x=>x.getD j false) hr;simp only[zcQ,hg]at h1
    cases h1
 ·have hr:=zlA (zfO l os s) c (by omega)
  cases hg:(greatest l os s).getD c false with
  | false=>rfl
  | true=>
   exfalso
   have hgl:c<(greatest l os s).length:=by unfold greatest;rw[za9];omega
   have hgj:(greatest l os s)[c]=true:=by rwa [List.getD_eq_getElem?_getD,List.getElem?_eq_getElem hgl]at hg
   have hst:stays l os (greatest l os s) os[c]=true:=zlr.2 ⟨a,ha,hK ha,ht⟩;rw[zhI hc hgl,hgj,hst]at hr;simp only[Bool.or_true,Bool.and_self,if_true]at hr;have h1:=congrArg (fun x=>x.getD c false) hr;simp only[zcQ,hg]at h1
   cases h1
end Go.Proofs.YtnapmdofidgliaaGreat
namespace Go.Proofs.YtnapmdofidgliaaGreat
open Go.RowKit
noncomputable def za7 (l:Lw)(os:List Ob)(t:List Bool)(i k:Nat):List Bool:=match os[i]?,os[k]? with|some o,some p=>if (t.getD k false&&names l o p 3)=true then t.set i true else t|_,_=>t
noncomputable def jE (l:Lw)(os:List Ob)(t:List Bool)(i:Nat):Nat->List Bool
 | 0=>t
 | k+1=>za7 l os (jE l os t i k) i k
noncomputable def jd (l:Lw)(os:List Ob)(t:List Bool)(n:Nat):Nat->List Bool
 | 0=>t
 | i+1=>jE l os (jd l os t n i) i n
noncomputable def rounds (l:Lw)(os:List Ob)(s:List Bool):Nat->List Bool
 | 0=>s
 | m+1=>jd l os (rounds l os s m) s.length s.length
noncomputable def yc (l:Lw)(os:List Ob):List Bool:=rounds l os (endings os) (endings os).length
noncomputable def zfq (l:Lw)(os:List Ob):List Int:=places (greatest l os (yc l os))
noncomputable def jW (l:Lw)(b:Bk):List Int:=if jM l b=true then zfq l b.os else []
theorem zkH (l:Lw)(os:List Ob)(t:List Bool)(i k:Nat):(za7 l os t i k).length=t.length:=by
 unfold za7;split
 ·split <;> simp
 ·rfl
theorem zdy (l:Lw)(os:List Ob)(t:List Bool)(i:Nat):∀k,(jE l os t i k).length=t.length
 | 0=>rfl
 | k+1=>(zkH _ _ _ _ _).trans (zdy l os t i k)
theorem zc3 (l:Lw)(os:List Ob)(t:List Bool)(n:Nat):∀i,(jd l os t n i).length=t.length
 | 0=>rfl
 | i+1=>(zdy _ _ _ _ _).trans (zc3 l os t n i)
theorem zaa (l:Lw)(os:List Ob)(s:List Bool):∀m,(rounds l os s m).length=s.length
 | 0=>rfl
 | m+1=>(zc3 _ _ _ _ _).trans (zaa l os s m)
theorem zlt {l:Lw}{os:List Ob}{t:List Bool}{i k:Nat}(hi:i<os.length)(hk:k<os.length)(h':k<t.length):za7 l os t i k=if (t[k]&&names l os[i] os[k] 3)=true then t.set i true else t:=by
 unfold za7;rw[List.getElem?_eq_getElem hi,List.getElem?_eq_getElem hk];simp[List.getElem?_eq_getElem h']
theorem zoL (l:Lw)(b:Bk)(h:b.Few):(jW l b).length<=1048576:=by
 unfold jW
 split
 ·have h1:=zdh (greatest l b.os (yc l b.os)) (greatest l b.os (yc l b.os)).length
  have h2:(yc l b.os).length=b.os.length:=by unfold yc;rw[zaa];simp[endings]
  rw[zbl]at h1;have h3:=h.os.1;unfold zfq places;rw[zbl];omega
 ·simp
set_option maxRecDepth 20000 in
theorem zko (l:Lw)(la lb lc:Option Addr)(lca lcb lcc:Nat)(b:Bk)(a0 a1 a2 a3:Option Addr)(c0 c1 c2 c3:Nat)(w:World)(hl:jh w l la lb lc)(hb:jk w b a0 a1 a2 a3)(hh:zcZ w a0 b.os)(hbf:b.Few)(hz:qG b.os<=1048576) :
 Calls Tryz.prog 6 #[.agg (l.cells la lb lc lca lcb lcc),.agg (b.cells a0 a1 a2 a3 c0 c1 c2 c3)] w fun e w'=>∃v,e=.returned v/\w'.ownsRow w.heap.size 3 1 v (jW l b).length (ints (jW l b))/\Below w.heap.size w w':=by
 have HK:=hid hb;have HL:=hid hl;have HF:Hid (zcZ w a0 b.os/\b.Few/\qG b.os<=1048576):=⟨hh,hbf,hz⟩
 clear hb hl hh hbf hz;unfold Lw.cells Bk.cells;go_enter Tryz.func6,Tryz.ntmps6;go_wp2_with fail
 obtain⟨hL0,hX0⟩:=qx w #[.slice la l.ss.length lca,.slice lb l.ms.length lcb,.slice lc l.ts.length lcc] #[.int .i64 b.now,.int .i64 b.tick,.int .i64 b.given,.slice a0 b.os.length c0,.slice a1 b.gs.length c1,.slice a2 b.ls.length c2,.slice a3 b.ps.length c3] 41 48;have HBi:Hid (Below w.heap.size w ((w.alloc (.cells #[.slice la l.ss.length lca,.slice lb l.ms.length lcb,.slice lc l.ts.length lcc] 41)).alloc (.cells #[.int .i64 b.now,.int .i64 b.tick,.int .i64 b.given,.slice a0 b.os.length c0,.slice a1 b.gs.length c1,.slice a2 b.ls.length c2,.slice a3 b.ps.length c3] 48))):=zw w _ _;obtain⟨W0,hW0⟩:∃W0,W0=(w.alloc (.cells #[.slice la l.ss.length lca,.slice lb l.ms.length lcb,.slice lc l.ts.length lcc] 41)).alloc (.cells #[.int .i64 b.now,.int .i64 b.tick,.int .i64 b.given,.slice a0 b.os.length c0,.slice a1 b.gs.length c1,.slice a2 b.ls.length c2,.slice a3 b.ps.length c3] 48):=⟨_,rfl⟩
 have hz0:w.heap.size+1<W0.heap.size:=by rw[hW0];simp
 rw[<- hW0]at HBi hX0 hL0 ⊢;clear hW0;refine(zja l la lb lc lca lcb lcc b a0 a1 a2 a3 c0 c1 c2 c3 _ (HL.out.mono HBi.out) (HK.out.mono HBi.out) (HF.out.1.mono HBi.out) HF.out.2.1 HF.out.2.2).mono ?_;rintro e w1⟨rfl,hb0⟩;have hX1:=za hX0 hz0 hb0;have hL1:=za hL0 (nSl hz0) hb0;have hz1:=nLt hz0 hb0.size;have hy1:=nSl hz1;have HBi:=hid (HBi.out.trans (hb0.mono HBi.out.size));clear hb0 hX0 hL0 hz0
 by_cases t:jM l b=true
 rotate_left
 ·have HN:Hid (jW l b=[]):=by unfold Hid jW;rw[if_neg t]
  have HR0:Hid ((w1.alloc (.cells #[] 3)).ownsRow w.heap.size 3 1 (.slice (some ⟨w1.heap.size,0,none⟩) 0 0) 0 (ints [])):=⟨rfl,.inr ⟨w1.heap.size,0,#[],rfl,HBi.out.size,World.alloc_heap_new _ _,Nat.le_refl _,by simp[maxLen],rfl,rfl⟩⟩
  rw[bFi t];clear t;go_wp2_with fail
  go_ret;exact⟨_,rfl,by rw[HN.out];exact HR0.out,HBi.out.alloc HBi.out.size _⟩
 have HM:Hid (jW l b=zfq l b.os):=by unfold Hid jW;rw[if_pos t]
 have HO:=hid (zfD (book_facts t).1 (book_facts t).2);have HEl:Hid ((endings b.os).length=b.os.length):=by simp[Hid,endings]
 rw[t];clear t;go_wp2_with fail
 refine(zmd b a0 a1 a2 a3 c0 c1 c2 c3 _ (HK.out.mono HBi.out) (by have:=HO.out.1;omega)).mono ?_;rintro e w3⟨g,gc,rfl,hro3,hb3⟩;have hX3:=za hX1 hz1 hb3;have hL3:=za hL1 hy1 hb3;have hz3:=nLt hz1 hb3.size;have hy3:=nLt hy1 hb3.size;have HB3:=hid (HBi.out.trans (hb3.mono HBi.out.size));have HR3:=hid hro3;have HZ1:=hid hz1;have HRl:Hid (∀m,(rounds l b.os (endings b.os) m).length=b.os.length):=fun m=>(zaa _ _ _ m).trans HEl.out
 clear hb3 hro3 hX1 hL1 hz1 hy1;go_wp2_with fail
 go_loopw [6] (fun iv wr=>∃n:Nat,n<=b.os.length/\iv=.int .i64 n/\Hid (wr.ownsRow w1.heap.size 4 1 (.slice (some ⟨g,0,none⟩) b.os.length gc) b.os.length (bls (rounds l b.os (endings b.os) n))/\Below w1.heap.size w3 wr)) (fun iv _=>b.os.length-(intOf iv).toNat)
 case atStart=>exact⟨0,Nat.zero_le _,rfl,HR3.out,bRf _ _⟩
 case round=>
  obtain⟨n,hn,rfl,HQ⟩:=hrel;have hnn:n<=40:=by have:=HO.out.1;omega
  have HBq:Hid (Below w.heap.size w wr):=HB3.out.trans (HQ.out.2.mono (by have:=HZ1.out;omega))
  by_cases hlt:n<b.os.length
  ·have hltI:(n:Int)<(b.os.length:Int):=by omega
   obtain⟨t,ht⟩:∃t,t=rounds l b.os (endings b.os) n:=⟨_,rfl⟩
   have HT:Hid (jd l b.os t b.os.length b.os.length=rounds l b.os (endings b.os) (n+1)):=by
    rw[Hid,ht]
    show _=jd l b.os _ (endings b.os).length (endings b.os).length
    rw[HEl.out]
   have htl:t.length=b.os.length:=by rw[ht];exact HRl.out n
   rw[<- ht]at HQ;clear ht;have HQ0:=hid HQ.out;clear HQ HBq;go_wp2_with fail
   go_loopw [7] (fun jv wi=>∃i:Nat,i<=b.os.length/\jv=.int .i64 i/\Hid (wi.ownsRow w1.heap.size 4 1 (.slice (some ⟨g,0,none⟩) b.os.length gc) b.os.length (bls (jd l b.os t b.os.length i))/\Below w1.heap.size w3 wi)) (fun jv _=>b.os.length-(intOf jv).toNat)
   case atStart=>exact⟨0,Nat.zero_le _,rfl,HQ0.out⟩
   case round=>
    obtain⟨i,hi,rfl,HR⟩:=hrel;have hin:i<=40:=by have:=HO.out.1;omega
    by_cases hil:i<b.os.length
    ·have hilI:(i:Int)<(b.os.length:Int):=by omega
     obtain⟨p,hp⟩:∃p,p=jd l b.os t b.os.length i:=⟨_,rfl⟩
     have HP:Hid (jE l b.os p i b.os.length=jd l b.os t b.os.length (i+1)):=by rw[Hid,hp];rfl
     have hpl:p.length=b.os.length:=by rw[hp];exact(zc3 _ _ _ _ _).trans htl
     rw[<- hp]at HR;clear hp;have HR0:Hid (wr.ownsRow w1.heap.size 4 1 (.slice (some ⟨g,0,none⟩) b.os.length gc) b.os.length (bls p)/\Below w1.heap.size w3 wr):=HR.out;clear HR;go_wp2_with fail
     go_loopw [8] (fun kv wi=>∃k:Nat,k<=b.os.length/\kv=.int .i64 k/\Hid (wi.ownsRow w1.heap.size 4 1 (.slice (some ⟨g,0,none⟩) b.os.length gc) b.os.length (bls (jE l b.os p i k))/\Below w1.heap.size w3 wi)) (fun kv _=>b.os.length-(intOf kv).toNat)
     case atStart=>exact⟨0,Nat.zero_le _,rfl,HR0.out⟩
     case round=>
      obtain⟨k,hk,rfl,HS⟩:=hrel;have hkn:k<=40:=by have:=HO.out.1;omega
      have HBk:Hid (Below w.heap.size w wr):=HB3.out.trans (HS.out.2.mono (by have:=HZ1.out;omega));have hXk:∀j,wr.cell? ⟨w.heap.size+1,j,none⟩=(#[.int .i64 b.now,.int .i64 b.tick,.int .i64 b.given,.slice a0 b.os.length c0,.slice a1 b.gs.length c1,.slice a2 b.ls.length c2,.slice a3 b.ps.length c3]:Array Value)[j]?:=fun j=>(HS.out.2.cell (p:=⟨w.heap.size+1,j,none⟩) HZ1.out).trans (hX3 j)
      have hLk:∀j,wr.cell? ⟨w.heap.size,j,none⟩=(#[.slice la l.ss.length lca,.slice lb l.ms.length lcb,.slice lc l.ts.length lcc]:Array Value)[j]?:=fun j=>(HS.out.2.cell (p:=⟨w.heap.size,j,none⟩) (nSl HZ1.out)).trans (hL3 j)
      have hzk:=nLt hz3 HS.out.2.size;have hyk:=nLt hy3 HS.out.2.size
      by_cases hkl:k<b.os.length
      ·have hklI:(k:Int)<(b.os.length:Int):=by omega
       have HJl:Hid ((jE l b.os p i k).length=b.os.length):=(zdy _ _ _ _ _).trans hpl;obtain⟨q,hq⟩:∃q,q=jE l b.os p i k:=⟨_,rfl⟩
       have hql:q.length=b.os.length:=by rw[hq];exact HJl.out
       have hkq:k<q.length:=by omega
       have HJ:Hid (jE l b.os p i (k+1)=if (q[k]&&names l b.os[i] b.os[k] 3)=true then q.set i true else q):=by subst hq;exact zlt hil hkl hkq
       rw[<- hq]at HS;clear hq;have hrow:=HS.out.1;have hgl:=hrow.lt g rfl
       have hcell:wr.cell? ⟨g,k,none⟩=some (.bool q[k]):=by
        rw[hrow.cellAt k (by omega)]
        simp[bls,hkq]
       have HFz:Hid (∀W,Below wr.heap.size wr W->(∀o,W.frozen? ⟨g,o,none⟩=false)/\(∃x,W.cell? ⟨g,i,none⟩=some x)/\(W.setCell ⟨g,i,none⟩ (.bool true)).ownsRow w1.heap.size 4 1 (.slice (some ⟨g,0,none⟩) b.os.length gc) b.os.length (bls (q.set i true))/\Below w1.heap.size w3 (W.setCell ⟨g,i,none⟩ (.bool true))):=fun W hW=>by
        have hr:=yF HS.out.1 hW;refine⟨fun o=>?_,⟨.bool (q[i]'(by omega)),?_⟩,zex hr i hil true,(HS.out.2.trans (hW.mono (by omega))).setCell (p:=⟨g,i,none⟩) hgl.1 _⟩
        ·obtain⟨_,⟨h0,_⟩|⟨_,_,_,h0,_,h3,_⟩⟩:=hr
         ·cases h0
         ·cases h0;exact zh h3
        ·rw[hr.cellAt i (by omega)]
         have hiq:i<q.length:=by omega
         simp[bls,hiq]
       have hgz:=hgl.2;have HSo:=hid HS.out;clear hrow hgl HS
       cases hqk:q[k] with
       | false=>
        rw[hqk]at hcell;have HN:Hid (jE l b.os p i (k+1)=q):=by rw[Hid,HJ.out,hqk];simp
        go_wp2_with fail
        exact⟨⟨k+1,by omega,by go_num,by rw[HN.out];exact HSo.out.1,HSo.out.2⟩,zm hkl⟩
       | true=>
        rw[hqk]at hcell;go_wp2_with fail
        refine(zeM l la lb lc lca lcb lcc b a0 a1 a2 a3 c0 c1 c2 c3 i k 3 wr (HL.out.mono HBk.out) (HK.out.mono HBk.out) hil hkl (HO.out.2 i hil) (HF.out.2.1.os.2 i hil).1).mono ?_;rintro e w5⟨rfl,hb5⟩;obtain⟨hfz5,⟨x5,hc5⟩,hr5,hB5⟩:=HFz.out w5 hb5;have HE1:=hid hr5;have HE2:=hid hB5;have HB5:=hid hb5;have hgz5:=nLt hgz hb5.size;clear hr5 hB5 hb5 hcell
        cases hnm:names l b.os[i] b.os[k] 3 with
        | false=>
         have HN:Hid (jE l b.os p i (k+1)=q):=by rw[Hid,HJ.out,hnm];simp
         go_wp2_with fail
         exact⟨⟨k+1,by omega,by go_num,by rw[HN.out];exact yF HSo.out.1 HB5.out,HSo.out.2.trans (HB5.out.mono (by have:=(HSo.out.1.lt g rfl);omega))⟩,zm hkl⟩
        | true=>
         have HN:Hid (jE l b.os p i (k+1)=q.set i true):=by rw[Hid,HJ.out,hnm,hqk];simp
         go_wp2_with fail
         exact⟨⟨k+1,by omega,by go_num,by rw[HN.out];exact HE1.out,HE2.out⟩,zm hkl⟩
      ·have e:k=b.os.length:=by omega
       subst e;rw[HP.out]at HS;clear hXk hLk;go_wp2_with fail
       exact⟨⟨i+1,by omega,by go_num,HS.out.1,HS.out.2⟩,zm hil⟩
    ·have e:i=b.os.length:=by omega
     subst e;rw[HT.out]at HR;go_wp2_with fail
     exact⟨⟨n+1,by omega,by go_num,HR.out.1,HR.out.2⟩,zm hlt⟩
  ·have e:n=b.os.length:=by omega
   subst e;have HAl:Hid ((yc l b.os).length=b.os.length):=by unfold Hid yc;rw[zaa];exact HEl.out
   have HRo:Hid (wr.ownsRow w1.heap.size 4 1 (.slice (some ⟨g,0,none⟩) b.os.length gc) b.os.length (bls (yc l b.os))):=by unfold Hid yc;rw[HEl.out];exact HQ.out.1
   obtain⟨ai,ci,ei,hbl⟩:=ze6 (s:=yc l b.os) (by rw[HAl.out];exact HRo.out) (by rw[HAl.out];unfold maxLen;have:=HO.out.1;omega);rw[HAl.out]at ei
   cases ei
   have hX4:∀j,wr.cell? ⟨w.heap.size+1,j,none⟩=(#[.int .i64 b.now,.int .i64 b.tick,.int .i64 b.given,.slice a0 b.os.length c0,.slice a1 b.gs.length c1,.slice a2 b.ls.length c2,.slice a3 b.ps.length c3]:Array Value)[j]?:=fun j=>(HQ.out.2.cell (p:=⟨w.heap.size+1,j,none⟩) HZ1.out).trans (hX3 j)
   have hL4:∀j,wr.cell? ⟨w.heap.size,j,none⟩=(#[.slice la l.ss.length lca,.slice lb l.ms.length lcb,.slice lc l.ts.length lcc]:Array Value)[j]?:=fun j=>(HQ.out.2.cell (p:=⟨w.heap.size,j,none⟩) (nSl HZ1.out)).trans (hL3 j)
   have hz4:=nLt hz3 HQ.out.2.size;have hy4:=nLt hy3 HQ.out.2.size;have hgr:=zjW l la lb lc lca lcb lcc b a0 a1 a2 a3 c0 c1 c2 c3 g 0 gc (yc l b.os) wr (HL.out.mono HBq.out) (HK.out.mono HBq.out) hbl HAl.out HO.out (fun i h=>(HF.out.2.1.os.2 i h).1);rw[HAl.out]at hgr;clear hX3 hL3 hz3 hy3 hbl;go_wp2_with fail
   refine hgr.mono ?_;rintro e w6⟨ga,gac,rfl,hbl6,hb6⟩;have HB6:Hid (Below w.heap.size w w6):=HBq.out.trans (hb6.mono HBq.out.size);have HGl:Hid ((greatest l b.os (yc l b.os)).length=b.os.length):=(zbl _ _ _).trans HAl.out;have hpl:=zmt ga gac (greatest l b.os (yc l b.os)) w6 hbl6 (by rw[HGl.out];have:=HO.out.1;omega);rw[HGl.out]at hpl;clear hb6 hbl6 hgr hX4 hL4;go_wp2_with fail
   refine hpl.mono ?_;rintro e w7⟨v,rfl,hv,hb7⟩;have HV:Hid (w7.ownsRow w.heap.size 3 1 v (jW l b).length (ints (jW l b))/\Below w.heap.size w w7):=by rw[HM.out];exact⟨zaq hv HB6.out.size,HB6.out.trans (hb7.mono HB6.out.size)⟩
   clear hv hb7 hpl;go_wp2_with fail
   go_ret;exact⟨v,rfl,HV.out⟩
end Go.Proofs.YtnapmdofidgliaaGreat
namespace Go.Proofs.YtnapmdofidgliaaGreat
theorem zqN {ss:List Shp}(hs:zN ss=true)(v:ByteArray)(k:Nat)(f:Fld)(hf:(shapeOf ss v).fs[k]?=some f)(h4:f.kd=4):1<=f.rl/\f.rl<=3:=by
 cases hk:zG ss v with
 | false=>
  rw[zei ss v hk]at hf
  simp[zbk]at hf
 | true=>
  obtain⟨i,hi,he⟩:=zco hk;rw[he]at hf;unfold zN at hs;rw[Bool.and_eq_true]at hs;have h1:=zfz hi hs.2;unfold yX at h1;rw[Bool.and_eq_true,getD_at ss i _ hi]at h1;have h2:=h1.2;unfold yZ at h2;rw[Bool.and_eq_true]at h2;obtain⟨hk',rfl⟩:=List.getElem?_eq_some_iff.1 hf;have h3:=zfz hk' h2.2;rw[zgK _ _ _ hk']at h3;unfold yI zZ at h3;rw[h4]at h3
  simp at h3
  exact h3.2.1.2.1.1.2
theorem zoR {ss:List Shp}(hs:zN ss=true)(v:ByteArray)(vs:List ByteArray)(n:Nat)(x:Lk)(hx:x∈qm (shapeOf ss v).fs vs n):1<=x.rl/\x.rl<=3:=by
 unfold qm at hx;rw[List.mem_flatMap]at hx;obtain⟨k,_,hx⟩:=hx;unfold zeN at hx
 split at hx
 ·rename_i f u hf hv
  split at hx
  ·rename_i h
   have:=zqN hs v k f hf h.1.1
   simp only[List.mem_singleton]at hx;subst hx;exact this
  ·simp at hx
 ·simp at hx
theorem zmG {l:Lw}(hs:zN l.ss=true)(o p:Ob):tied l o p=true↔∃x∈qm (shapeOf l.ss o.kd).fs o.vs (shapeOf l.ss o.kd).fs.length,x.rl≠2/\zar x.to x.nm p=true:=by
 unfold tied names jy;rw[Bool.or_eq_true,List.any_eq_true,List.any_eq_true]
 constructor
 ·rintro(⟨x,hx,h⟩|⟨x,hx,h⟩)
  ·rw[Bool.and_eq_true,decide_eq_true_eq]at h
   exact⟨x,hx,by omega,h.2⟩
  ·rw[Bool.and_eq_true,decide_eq_true_eq]at h
   exact⟨x,hx,by omega,h.2⟩
 ·rintro⟨x,hx,h2,hp⟩
  have hr:=zoR hs _ _ _ x hx
  rcases(by omega:x.rl=1 \/ x.rl=3) with h|h
  ·exact Or.inl ⟨x,hx,by rw[h,hp];rfl⟩
  ·exact Or.inr ⟨x,hx,by rw[h,hp];rfl⟩
end Go.Proofs.YtnapmdofidgliaaGreat
namespace Go.Proofs.YtnapmdofidgliaaGreat
structure Keeps (l:Lw)(os:List Ob)(A:Nat->Prop)(S S':Nat->Bool):Prop where
 le:∀j,S j=true->S' j=true
 tie:∀j k (hj:j<os.length) (hk:k<os.length),S' j=true->S j=false->tied l os[j] os[k]=true->S' k=true
 least:∀R:Nat->Prop,zly l os R->(∀j,A j->R j)->∀j,S' j=true->S j=true \/ R j
theorem Keeps.refl (l:Lw)(os:List Ob)(A:Nat->Prop)(S:Nat->Bool):Keeps l os A S S:=
 ⟨fun _ h=>h,fun _ _ _ _ h h' _=>absurd (h.symm.trans h') (by decide),fun _ _ _ _ h=>Or.inl h⟩
theorem Keeps.wider {l:Lw}{os:List Ob}{A B:Nat->Prop}{S S':Nat->Bool}(h:Keeps l os A S S')(hAB:∀j,A j->B j):Keeps l os B S S':=
 ⟨h.le,h.tie,fun R hR hB=>h.least R hR (fun j hj=>hB j (hAB j hj))⟩
theorem Keeps.trans {l:Lw}{os:List Ob}{A:Nat->Prop}{S S' S'':Nat->Bool}(h:Keeps l os A S S')(k:Keeps l os A S' S''):Keeps l os A S S'':=by
 refine⟨fun j hj=>k.le j (h.le j hj),fun j m hj hm hS'' hS ht=>?_,fun R hR hA j hj=>?_⟩
 ·cases hS':S' j with
  | true=>exact k.le m (h.tie j m hj hm hS' hS ht)
  | false=>exact k.tie j m hj hm hS'' hS' ht
 ·rcases k.least R hR hA j hj with h1|h1
  ·exact h.least R hR hA j h1
  ·exact Or.inr h1
def qM (S:Nat->Bool)(i:Nat):Nat->Bool:=fun j=>S j||decide (j=i)
def zhl (l:Lw)(os:List Ob)(i:Nat)(j:Nat):Prop:=∃(hi:i<os.length) (hj:j<os.length),tied l os[i] os[j]=true
theorem Keeps.close {l:Lw}{os:List Ob}{S S':Nat->Bool}{i:Nat}(h:Keeps l os (zhl l os i) (qM S i) S')(hall:∀j,zhl l os i j->S' j=true):Keeps l os (·=i) S S':=by
 refine⟨fun j hj=>h.le j (by simp[qM,hj]),fun j k hj hk hS' hS ht=>?_,fun R hR hA j hj=>?_⟩
 ·by_cases e:j=i
  ·subst e
   exact hall k ⟨hj,hk,ht⟩
  ·exact h.tie j k hj hk hS' (by simp[qM,hS,e]) ht
 ·have hi:R i:=hA i rfl
  rcases h.least R hR (fun m hm=>hR i m hm.1 hm.2.1 hi hm.2.2) j hj with h1|h1
  ·simp only[qM,Bool.or_eq_true,decide_eq_true_eq]at h1
   rcases h1 with h1|rfl
   ·exact Or.inl h1
   ·exact Or.inr hi
  ·exact Or.inr h1
theorem Keeps.has {l:Lw}{os:List Ob}{A:Nat->Prop}{S S':Nat->Bool}{i:Nat}(h:Keeps l os A (qM S i) S'):S' i=true:=h.le i (by simp[qM])
def lacks (S:Nat->Bool)(n:Nat):Nat:=(List.range n).countP fun j=>!S j
theorem zji {S S':Nat->Bool}(h:∀j,S j=true->S' j=true)(n:Nat):lacks S' n<=lacks S n:=by
 unfold lacks;refine List.countP_mono_left (fun j _ hj=>?_)
 cases hS:S j with
 | false=>rfl
 | true=>rw[h j hS]at hj;cases hj
theorem zjn {S:Nat->Bool}{i n:Nat}(hi:i<n)(hS:S i=false):lacks (qM S i) n<lacks S n:=by
 induction n with
 | zero=>omega
 | succ n ih=>
  unfold lacks at ih ⊢;rw[List.range_succ,List.countP_append,List.countP_append]
  by_cases e:i=n
  ·subst e
   have h1:(List.range i).countP (fun j=>!qM S i j)<=(List.range i).countP (fun j=>!S j):=zji (S:=S) (S':=qM S i) (fun j hj=>by simp[qM,hj]) i;have h2:[i].countP (fun j=>!qM S i j)=0:=by simp[qM]
   have h3:[i].countP (fun j=>!S j)=1:=by simp[hS]
   omega
  ·have h1:=ih (by omega)
   have h2:[n].countP (fun j=>!qM S i j)=[n].countP (fun j=>!S j):=by
    have:qM S i n=S n:=by unfold qM;rw[decide_eq_false (fun h=>e h.symm)];simp
    simp[this]
   omega
structure zbs (l:Lw)(os:List Ob)(s:List Bool)(k:Nat)(S:Nat->Bool):Prop where
 root:∀j,j<k->zf5 os s j->S j=true
 tie:∀i j (hi:i<os.length) (hj:j<os.length),S i=true->tied l os[i] os[j]=true->S j=true
 least:∀j,S j=true->zlM l os s j
theorem zbs.start (l:Lw)(os:List Ob)(s:List Bool):zbs l os s 0 (fun _=>false):=
 ⟨fun _ h=>by omega,fun _ _ _ _ h _=>absurd h Bool.false_ne_true,fun _ h=>absurd h Bool.false_ne_true⟩
theorem zbs.skip {l:Lw}{os:List Ob}{s:List Bool}{k:Nat}{S:Nat->Bool}(h:zbs l os s k S)(hn:¬zf5 os s k):zbs l os s (k+1) S:=by
 refine⟨fun j hj hr=>?_,h.tie,h.least⟩
 by_cases e:j=k
 ·subst e;exact absurd hr hn
 ·exact h.root j (by omega) hr
theorem zbs.next {l:Lw}{os:List Ob}{s:List Bool}{k:Nat}{S S':Nat->Bool}(h:zbs l os s k S)(hr:zf5 os s k)(hg:Keeps l os (·=k) S S')(hk:S' k=true):zbs l os s (k+1) S':=by
 refine⟨fun j hj hj'=>?_,fun i j hi hj hS ht=>?_,fun j hj K hK hc=>?_⟩
 ·by_cases e:j=k
  ·subst e;exact hk
  ·exact hg.le j (h.root j (by omega) hj')
 ·cases hS0:S i with
  | true=>exact hg.le j (h.tie i j hi hj hS0 ht)
  | false=>exact hg.tie i j hi hj hS hS0 ht
 ·rcases hg.least K hc (fun m hm=>by subst hm;exact hK m hr) j hj with h1|h1
  ·exact h.least j h1 K hK hc
  ·exact h1
theorem zbs.all {l:Lw}{os:List Ob}{s:List Bool}{S:Nat->Bool}(h:zbs l os s os.length S)(i:Nat):S i=true↔zlM l os s i:=by
 refine⟨h.least i,fun hk=>?_⟩;exact hk (fun j=>S j=true) (fun j hj=>h.root j hj.1 hj) (fun a c ha hc hS ht=>h.tie a c ha hc hS ht)
theorem zbs.part {l:Lw}{os:List Ob}{s:List Bool}{S:Nat->Bool}(h:zbs l os s os.length S)(hs:s.length=os.length)(i:Nat)(hi:i<os.length):(greatest l os s).getD i false=!S i:=by
 have h1:=(zmq l os s hs i hi).trans (h.all i).symm
 generalize (greatest l os s).getD i false=g at h1 ⊢
 generalize S i=x at h1 ⊢
 revert h1
 cases g <;> cases x <;> decide
end Go.Proofs.YtnapmdofidgliaaGreat
namespace Go.Proofs.YtnapmdofidgliaaGreat
def zlj (T:Nat->Nat->Prop)(R:Nat->Prop):Prop:=∀j k,R j->T j k->R k
structure za3 (T:Nat->Nat->Prop)(A:Nat->Prop)(S S':Nat->Bool):Prop where
 le:∀j,S j=true->S' j=true
 tie:∀j k,S' j=true->S j=false->T j k->S' k=true
 least:∀R:Nat->Prop,zlj T R->(∀j,A j->R j)->∀j,S' j=true->S j=true \/ R j
theorem za3.refl (T:Nat->Nat->Prop)(A:Nat->Prop)(S:Nat->Bool):za3 T A S S:=
 ⟨fun _ h=>h,fun _ _ h h' _=>absurd (h.symm.trans h') (by decide),fun _ _ _ _ h=>Or.inl h⟩
theorem za3.wider {T:Nat->Nat->Prop}{A B:Nat->Prop}{S S':Nat->Bool}(h:za3 T A S S')(hAB:∀j,A j->B j):za3 T B S S':=
 ⟨h.le,h.tie,fun R hR hB=>h.least R hR (fun j hj=>hB j (hAB j hj))⟩
theorem za3.trans {T:Nat->Nat->Prop}{A:Nat->Prop}{S S' S'':Nat->Bool}(h:za3 T A S S')(k:za3 T A S' S''):za3 T A S S'':=by
 refine⟨fun j hj=>k.le j (h.le j hj),fun j m hS'' hS ht=>?_,fun R hR hA j hj=>?_⟩
 ·cases hS':S' j with
  | true=>exact k.le m (h.tie j m hS' hS ht)
  | false=>exact k.tie j m hS'' hS' ht
 ·rcases k.least R hR hA j hj with h1|h1
  ·exact h.least R hR hA j h1
  ·exact Or.inr h1
theorem za3.close {T:Nat->Nat->Prop}{S S':Nat->Bool}{i:Nat}(h:za3 T (T i) (qM S i) S')(hall:∀j,T i j->S' j=true):za3 T (·=i) S S':=by
 refine⟨fun j hj=>h.le j (by simp[qM,hj]),fun j k hS' hS ht=>?_,fun R hR hA j hj=>?_⟩
 ·by_cases e:j=i
  ·subst e
   exact hall k ht
  ·exact h.tie j k hS' (by simp[qM,hS,e]) ht
 ·have hi:R i:=hA i rfl
  rcases h.least R hR (fun m hm=>hR i m hi hm) j hj with h1|h1
  ·simp only[qM,Bool.or_eq_true,decide_eq_true_eq]at h1
   rcases h1 with h1|rfl
   ·exact Or.inl h1
   ·exact Or.inr hi
  ·exact Or.inr h1
theorem za3.has {T:Nat->Nat->Prop}{A:Nat->Prop}{S S':Nat->Bool}{i:Nat}(h:za3 T A (qM S i) S'):S' i=true:=h.le i (by simp[qM])
def zbr (l:Lw)(os:List Ob)(j k:Nat):Prop:=∃(hj:j<os.length) (hk:k<os.length),names l os[k] os[j] 3=true
def zog (l:Lw)(os:List Ob)(i:Nat):Prop:=∀R:Nat->Prop,zlj (zbr l os) R->(∀j (h:j<os.length),os[j].en=true->R j)->R i
theorem getD_set_true {t:List Bool}{i j:Nat}(h:t.getD j false=true):(t.set i true).getD j false=true:=by
 by_cases e:i=j
 ·subst e
  rw[List.getD_eq_getElem?_getD,List.getElem?_set,if_pos rfl]
  split
  ·rfl
  ·rename_i hl
   rw[List.getD_eq_getElem?_getD,List.getElem?_eq_none (by omega)]at h
   cases h
 ·rw[getD_set_ne e];exact h
theorem zmu {l:Lw}{os:List Ob}{R:Nat->Prop}(hR:zlj (zbr l os) R){t:List Bool}(h:∀j,j<os.length->t.getD j false=true->R j)(i k:Nat):∀j,j<os.length->(za7 l os t i k).getD j false=true->R j:=by
 intro j hj hd;unfold za7 at hd
 split at hd
 ·rename_i o p ho hp
  split at hd
  ·rename_i hc
   by_cases e:i=j
   ·subst e
    simp only[Bool.and_eq_true]at hc;obtain⟨hi,rfl⟩:=List.getElem?_eq_some_iff.1 ho;obtain⟨hk,rfl⟩:=List.getElem?_eq_some_iff.1 hp;exact hR k i (h k hk hc.1) ⟨hk,hi,hc.2⟩
   ·rw[getD_set_ne e]at hd;exact h j hj hd
  ·exact h j hj hd
 ·exact h j hj hd
theorem zgG {l:Lw}{os:List Ob}{R:Nat->Prop}(hR:zlj (zbr l os) R){t:List Bool}(h:∀j,j<os.length->t.getD j false=true->R j)(i:Nat):∀k,∀j,j<os.length->(jE l os t i k).getD j false=true->R j
 | 0=>h
 | k+1=>zmu hR (zgG hR h i k) i k
theorem zfG {l:Lw}{os:List Ob}{R:Nat->Prop}(hR:zlj (zbr l os) R){t:List Bool}(h:∀j,j<os.length->t.getD j false=true->R j)(n:Nat):∀i,∀j,j<os.length->(jd l os t n i).getD j false=true->R j
 | 0=>h
 | i+1=>zgG hR (zfG hR h n i) i n
theorem zgc {l:Lw}{os:List Ob}{R:Nat->Prop}(hR:zlj (zbr l os) R){s:List Bool}(h:∀j,j<os.length->s.getD j false=true->R j):∀m,∀j,j<os.length->(rounds l os s m).getD j false=true->R j
 | 0=>h
 | m+1=>zfG hR (zgc hR h m) _ _
theorem zpS {l:Lw}{os:List Ob}{t:List Bool}{i k j:Nat}(h:t.getD j false=true):(za7 l os t i k).getD j false=true:=by
 unfold za7
 split
 ·split
  ·exact getD_set_true h
  ·exact h
 ·exact h
theorem zlm {l:Lw}{os:List Ob}{t:List Bool}{i j:Nat}(h:t.getD j false=true):∀k,(jE l os t i k).getD j false=true
 | 0=>h
 | k+1=>zpS (zlm h k)
theorem zka {l:Lw}{os:List Ob}{t:List Bool}{n j:Nat}(h:t.getD j false=true):∀i,(jd l os t n i).getD j false=true
 | 0=>h
 | i+1=>zlm (zka h i) n
theorem zlB {l:Lw}{os:List Ob}{s:List Bool}{j:Nat}(h:s.getD j false=true):∀m,(rounds l os s m).getD j false=true
 | 0=>h
 | m+1=>zka (zlB h m) _
theorem zlU (l:Lw)(os:List Ob)(t:List Bool)(i k:Nat):za7 l os t i k=t \/ inside t<inside (za7 l os t i k):=by
 unfold za7
 split
 ·split
  ·rcases Nat.lt_or_ge i t.length with h|h
   ·cases ht:t[i] with
    | true=>
     left
     apply List.ext_getElem?
     intro j;rw[List.getElem?_set]
     split
     ·rename_i e;subst e;(try rw[if_pos h]);rw[List.getElem?_eq_getElem h];exact congrArg some ht.symm
     ·rfl
    | false=>
     right
     unfold inside;rw[List.countP_set h,ht]
     simp
   ·left
    rw[List.set_eq_of_length_le h]
  ·exact Or.inl rfl
 ·exact Or.inl rfl
theorem zd3 (l:Lw)(os:List Ob)(t:List Bool)(i:Nat):∀k,(∀j,j<=k->jE l os t i j=t) \/ inside t<inside (jE l os t i k)
 | 0=>Or.inl fun j hj=>by
  have:j=0:=by omega
  subst this;rfl
 | k+1=>by
  have hd:=zlU l os (jE l os t i k) i k
  rcases zd3 l os t i k with h|h
  ·rcases hd with e|e
   ·refine Or.inl fun j hj=>?_
    rcases Nat.lt_or_ge j (k+1) with hl|hg
    ·exact h j (by omega)
    ·have:j=k+1:=by omega
     subst this;exact e.trans (h k (Nat.le_refl _))
   ·refine Or.inr ?_
    show inside t<inside (za7 l os (jE l os t i k) i k)
    rw[h k (Nat.le_refl _)]at e ⊢;exact e
  ·refine Or.inr ?_
   show inside t<inside (za7 l os (jE l os t i k) i k)
   rcases hd with e|e
   ·rw[e];exact h
   ·omega
theorem zdr (l:Lw)(os:List Ob)(t:List Bool)(n:Nat):∀i,(∀j,j<=i->jd l os t n j=t) \/ inside t<inside (jd l os t n i)
 | 0=>Or.inl fun j hj=>by
  have:j=0:=by omega
  subst this;rfl
 | i+1=>by
  have hd:=zd3 l os (jd l os t n i) i n
  rcases zdr l os t n i with h|h
  ·rcases hd with e|e
   ·refine Or.inl fun j hj=>?_
    rcases Nat.lt_or_ge j (i+1) with hl|hg
    ·exact h j (by omega)
    ·have:j=i+1:=by omega
     subst this;exact(e n (Nat.le_refl _)).trans (h i (Nat.le_refl _))
   ·refine Or.inr ?_
    show inside t<inside (jE l os (jd l os t n i) i n)
    rw[h i (Nat.le_refl _)]at e ⊢;exact e
  ·refine Or.inr ?_
   show inside t<inside (jE l os (jd l os t n i) i n)
   rcases hd with e|e
   ·rw[e n (Nat.le_refl _)];exact h
   ·omega
theorem zh3 (l:Lw)(os:List Ob)(s:List Bool):∀m,(∀j,j<=s.length->jd l os (rounds l os s m) s.length j=rounds l os s m) \/ inside s+m+1<=inside (rounds l os s (m+1))
 | 0=>by
  rcases zdr l os s s.length s.length with h|h
  ·exact Or.inl h
  ·exact Or.inr (by show inside s+0+1<=inside (jd l os s s.length s.length);omega)
 | m+1=>by
  rcases zdr l os (rounds l os s (m+1)) s.length s.length with h|h
  ·exact Or.inl h
  ·rcases zh3 l os s m with e|e
   ·refine Or.inl ?_
    have e1:rounds l os s (m+1)=rounds l os s m:=e _ (Nat.le_refl _);rw[e1];exact e
   ·exact Or.inr (by show inside s+(m+1)+1<=inside (jd l os (rounds l os s (m+1)) s.length s.length);omega)
theorem zki (l:Lw)(os:List Ob):∀j,j<=(endings os).length->jd l os (yc l os) (endings os).length j=yc l os:=by
 rcases zh3 l os (endings os) (endings os).length with h|h
 ·exact h
 ·have:=zld (rounds l os (endings os) ((endings os).length+1))
  rw[zaa]at this;omega
theorem zkA (l:Lw)(os:List Ob)(i:Nat)(hi:i<os.length):(yc l os).getD i false=true↔zog l os i:=by
 have hl:(endings os).length=os.length:=by unfold endings;simp
 have hla:(yc l os).length=os.length:=by unfold yc;rw[zaa,hl]
 constructor
 ·intro h R hR hE
  refine zgc hR (s:=endings os) (fun j hj hd=>hE j hj ?_) _ i hi h;unfold endings at hd;rw[List.getD_eq_getElem?_getD,List.getElem?_map,List.getElem?_eq_getElem hj]at hd;exact hd
 ·intro h
  refine h (fun j=>j<os.length->(yc l os).getD j false=true) (fun j k hj ⟨hj',hk',hn⟩ _=>?_) (fun j hj he _=>?_) hi
  ·have hr:=zki l os
   have h1:jE l os (yc l os) k (endings os).length=yc l os:=by
    have h2:=hr (k+1) (by omega);have h3:jd l os (yc l os) (endings os).length (k+1)=jE l os (jd l os (yc l os) (endings os).length k) k (endings os).length:=rfl;rw[hr k (by omega)]at h3;exact h3.symm.trans h2
   rcases zd3 l os (yc l os) k (endings os).length with hc|hc
   ·have h2:=hc (j+1) (by omega)
    have h3:jE l os (yc l os) k (j+1)=za7 l os (jE l os (yc l os) k j) k j:=rfl;rw[hc j (by omega)]at h3;have h4:za7 l os (yc l os) k j=yc l os:=h3.symm.trans h2;rw[zlt hk' hj' (by omega)]at h4
    have h5:(yc l os)[j]'(by omega)=true:=by
     have:=hj hj'
     rwa [List.getD_eq_getElem?_getD,List.getElem?_eq_getElem (by omega)]at this
    rw[h5,hn]at h4;simp only[Bool.and_self,if_true]at h4;rw[<- h4,List.getD_eq_getElem?_getD,List.getElem?_set,if_pos rfl,if_pos (by omega)]
    rfl
   ·rw[h1]at hc;omega
  ·refine zlB (s:=endings os) ?_ _
   unfold endings;rw[List.getD_eq_getElem?_getD,List.getElem?_map,List.getElem?_eq_getElem hj];exact he
structure zcU (l:Lw)(os:List Ob)(k:Nat)(S:Nat->Bool):Prop where
 root:∀j (h:j<os.length),j<k->os[j].en=true->S j=true
 tie:∀j m,S j=true->zbr l os j m->S m=true
 least:∀j,S j=true->zog l os j
theorem zcU.start (l:Lw)(os:List Ob):zcU l os 0 (fun _=>false):=⟨fun _ _ h=>(by omega),fun _ _ h=>(by cases h),fun _ h=>(by cases h)⟩
theorem zcU.skip {l:Lw}{os:List Ob}{k:Nat}{S:Nat->Bool}(h:zcU l os k S)(hk:k<os.length)(he:os[k].en=false):zcU l os (k+1) S:=by
 refine⟨fun j hj hl hen=>?_,h.tie,h.least⟩
 by_cases e:j=k
 ·subst e;rw[he]at hen;cases hen
 ·exact h.root j hj (by omega) hen
theorem zcU.next {l:Lw}{os:List Ob}{k:Nat}{S S':Nat->Bool}(h:zcU l os k S)(hk:k<os.length)(he:os[k].en=true)(hg:za3 (zbr l os) (·=k) S S')(hS:S' k=true):zcU l os (k+1) S':=by
 refine⟨fun j hj hl hen=>?_,fun j m hj ho=>?_,fun j hj R hR hE=>?_⟩
 ·by_cases e:j=k
  ·subst e;exact hS
  ·exact hg.le j (h.root j hj (by omega) hen)
 ·cases hS0:S j with
  | true=>exact hg.le m (h.tie j m hS0 ho)
  | false=>exact hg.tie j m hj hS0 ho
 ·rcases hg.least R hR (fun m hm=>by subst hm;exact hE m hk he) j hj with h1|h1
  ·exact h.least j h1 R hR hE
  ·exact h1
theorem zcU.all {l:Lw}{os:List Ob}{S:Nat->Bool}(h:zcU l os os.length S)(i:Nat)(hi:i<os.length):(yc l os).getD i false=S i:=by
 have h1:=zkA l os i hi;have h2:S i=true↔zog l os i:=⟨h.least i,fun hk=>hk (fun j=>S j=true) (fun j m hj ho=>h.tie j m hj ho) (fun j hj he=>h.root j hj hj he)⟩
 have h3:=h1.trans h2.symm
 generalize (yc l os).getD i false=g at h3 ⊢
 generalize S i=x at h3 ⊢
 revert h3
 cases g <;> cases x <;> decide
end Go.Proofs.YtnapmdofidgliaaGreat
namespace Go.Proofs.YtnapmdofidgliaaGreat
open Go.RowKit Go.Shelf
def zdZ (os:List Ob):Prop:=∀i j (hi:i<os.length) (hj:j<os.length),os[i].kd=os[j].kd->os[i].nm=os[j].nm->i=j
theorem zdZ.of {l:Lw}{b:Bk}(h:zI l b=true):zdZ b.os:=by
 unfold zI at h;simp only[Bool.and_eq_true,decide_eq_true_eq]at h;have hr:=(zkq _ _).1 h.2.1;intro i j hi hj e1 e2
 have hz:∀i j (hi:i<b.os.length) (hj:j<b.os.length),i<j->b.os[i].kd=b.os[j].kd->b.os[i].nm=b.os[j].nm->False:=by
  intro i j hi hj hlt e1 e2;have h1:=zcJ (key:=zbD) (fun a b c h h'=>zjO h h') hr j hj i hlt;have h2:zbD b.os[i] b.os[j]=0:=by unfold zbD;rw[zfo];exact⟨e1,e2⟩
  omega
 rcases Nat.lt_trichotomy i j with h1|h1|h1
 ·exact(hz i j hi hj h1 e1 e2).elim
 ·exact h1
 ·exact(hz j i hj hi h1 e1.symm e2.symm).elim
theorem zoy {l:Lw}{b:Bk}(h:zI l b=true)(i:Nat)(hi:i<b.os.length)(x:Lk)(hx:x∈qm (shapeOf l.ss b.os[i].kd).fs b.os[i].vs (shapeOf l.ss b.os[i].kd).fs.length):∃j,∃hj:j<b.os.length,b.os[j].kd=x.to/\b.os[j].nm=x.nm:=by
 unfold zI at h;simp only[Bool.and_eq_true,decide_eq_true_eq]at h;have h1:=List.all_eq_true.1 h.2.2 _ (List.getElem_mem hi);unfold yM at h1;simp only[Bool.and_eq_true]at h1;have h2:=h1.2.2.2;unfold zaz at h2;have h3:=List.all_eq_true.1 h2 x hx;obtain⟨p,hp,h4⟩:=List.any_eq_true.1 h3;obtain⟨j,hj,rfl⟩:=List.mem_iff_getElem.1 hp;unfold zar at h4;simp only[Bool.and_eq_true,decide_eq_true_eq]at h4;exact⟨j,hj,h4.1,h4.2⟩
def yR (os:List Ob)(r:Nat)(S:Nat->Bool)(W:World):Prop:=∃f,yA W r f/\∀j (h:j<os.length),(f os[j].kd os[j].nm).isSome=S j
theorem yR.new (os:List Ob)(w:World):yR os w.heap.size (fun _=>false) (w.alloc (.map #[] 0)):=⟨_,yA.new w,fun _ _=>rfl⟩
theorem yR.mono {os:List Ob}{r:Nat}{S:Nat->Bool}{w w':World}(h:yR os r S w)(hb:Below w.heap.size w w'):yR os r S w':=by
 obtain⟨f,h1,h2⟩:=h;exact⟨f,h1.mono hb,h2⟩
theorem znE {os:List Ob}(hu:zdZ os){S:Nat->Bool}{f:ByteArray->ByteArray->Option Int}(hf:∀j (h:j<os.length),(f os[j].kd os[j].nm).isSome=S j)(i:Nat)(hi:i<os.length)(v:Int)(j:Nat)(hj:j<os.length) :
 (if os[j].kd=os[i].kd/\os[j].nm=os[i].nm then some v else f os[j].kd os[j].nm).isSome=qM S i j:=by
 unfold qM
 by_cases e:j=i
 ·subst e
  simp
 ·rw[if_neg (fun h=>e (hu j i hj hi h.1 h.2)),hf j hj,decide_eq_false e,Bool.or_false]
theorem zbT.but {r B:Nat}{w w':World}(h:zbT r w w'):But r B w w':=⟨h.os,h.tape,h.output,Nat.le_of_eq h.size.symm,fun k _ hk=>h.out k hk⟩
theorem zml {β:Type}{B r:Nat}{os:List Ob}(hr:r<B)(S:β->Nat->Bool):OwnFrom B (fun s W=>yR os r (S s) W):=by
 rintro s W W' row⟨f,hf,h⟩ hg hrow;exact⟨f,zlR (β:=Unit) hr (fun _=>f) () W W' row hf hg hrow,h⟩
def zbR (os:List Ob)(S:Nat->Bool)(xs:List Lk):Prop:=∀x∈xs,x.rl≠2->∀j (h:j<os.length),os[j].kd=x.to->os[j].nm=x.nm->S j=true
theorem zbR.nil (os:List Ob)(S:Nat->Bool):zbR os S []:=fun x hx=>by cases hx
theorem zbR.snoc {os:List Ob}{S S':Nat->Bool}{xs:List Lk}(h:zbR os S xs)(hS:∀j,S j=true->S' j=true)(x:Lk)(hx:x.rl≠2->∀j (h:j<os.length),os[j].kd=x.to->os[j].nm=x.nm->S' j=true):zbR os S' (xs++[x]):=by
 intro y hy h2 j hj e1 e2
 rcases List.mem_append.1 hy with hy|hy
 ·exact hS j (h y hy h2 j hj e1 e2)
 ·simp only[List.mem_singleton]at hy
  subst hy;exact hx h2 j hj e1 e2
theorem zbR.all {l:Lw}(hs:zN l.ss=true){os:List Ob}{S:Nat->Bool}{i:Nat}(hi:i<os.length)(h:zbR os S (qm (shapeOf l.ss os[i].kd).fs os[i].vs (shapeOf l.ss os[i].kd).fs.length))(j:Nat)(ht:zhl l os i j):S j=true:=by
 obtain⟨_,hj,ht⟩:=ht;obtain⟨x,hx,h2,hp⟩:=(zmG hs _ _).1 ht;unfold zar at hp;simp only[Bool.and_eq_true,decide_eq_true_eq]at hp;exact h x hx h2 j hj hp.1 hp.2
theorem znR {l:Lw}(hs:zN l.ss=true){os:List Ob}{i j:Nat}(hi:i<os.length)(hj:j<os.length)(x:Lk)(hx:x∈qm (shapeOf l.ss os[i].kd).fs os[i].vs (shapeOf l.ss os[i].kd).fs.length)(h2:x.rl≠2)(e1:os[j].kd=x.to)(e2:os[j].nm=x.nm):zhl l os i j:=
 ⟨hi,hj,(zmG hs _ _).2 ⟨x,hx,h2,by unfold zar;simp[e1,e2]⟩⟩
end Go.Proofs.YtnapmdofidgliaaGreat
