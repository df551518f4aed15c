import Derived.Test.YtghnakljnhnenaaGreatM30
set_option maxHeartbeats 4000000
namespace Go.Proofs.YtghnakljnhnenaaGreat
open Go.RowKit
theorem zfi {α:Type} (p:α->Bool) (l:List α) (k:Nat) (h:k < l.length):(l.take (k+1)).any p=((l.take k).any p || p l[k]):=by
 rw [tSe h,List.any_append];simp
theorem zpi {α:Type} (p:α->Bool) (l:List α) (k:Nat) (h:k < l.length) (hp:p l[k]=true):l.any p=true:=by
 rw [List.any_eq_true];exact ⟨l[k],List.getElem_mem h,hp⟩
def zg6 (P:Program) (fid:Nat) (q:Value) (ts:List Tm) (w:World) (p:Tm->Bool):Prop :=
 ∀ w1,Below w.heap.size w w1->∀ i (h:i < ts.length),Calls P fid #[.agg ts[i].cells,q] w1 fun e w'=>e = .returned (.bool (p ts[i]))/\Below w1.heap.size w1 w'
theorem zjl (a:Option Addr) (cap:Nat) (ts:List Tm) (q:Value) (p:Tm->Bool) (w:World) (hw:jk w a ts) (hf:zg6 Tryz.prog 190 q ts w p) :
 Calls Tryz.prog 191 #[.slice a ts.length cap,.func (.func 190) #[] #[q]] w fun e w'=>∃ r:Int,e = .returned (.int .i64 r)/\decide (0<=r)=ts.any p/\Below w.heap.size w w':=by
 have hl:=hw.len;unfold maxLen at hl;go_enter Tryz.func191,Tryz.ntmps191;go_wp2_with fail
 go_loopw [8] (fun i wr=>∃ k:Nat,k<=ts.length/\i = .int .i64 k/\(ts.take k).any p=false/\Below w.heap.size w wr) (fun i _=>ts.length - (intOf i).toNat)
 case atStart=>exact ⟨0,Nat.zero_le _,rfl,rfl,bRf _ _⟩
 case round =>
  obtain ⟨k,hk,rfl,hno,hB⟩:=hrel
  by_cases hlt:k < ts.length
  ·obtain ⟨b,off,rfl,hb,c0,c1⟩:=hw.load hB k hlt
   have hltI:(k:Int) < (ts.length:Int):=by omega
   have hc:=hf wr hB k hlt;clear hw hf
   by_cases he:p ts[k]=true
   ·have HA:Hid (ts.any p=true):=zpi p ts k hlt he
    have HE:Hid (p ts[k]=true):=he;clear he hno;go_wp2_with fail
    refine (zf HE.out hc).mono ?_;rintro e w2 ⟨rfl,hb2⟩;go_wp2_with fail
    go_ret;exact ⟨_,rfl,by rw [HA.out];simp,hB.trans (hb2.mono hB.size)⟩
   ·have he':p ts[k]=false:=by simpa using he
    have HS:Hid ((ts.take (k+1)).any p=false):=by unfold Hid;rw [zfi p ts k hlt,hno,he'];rfl
    have HE:Hid (p ts[k]=false):=he';clear he he' hno;go_wp2_with fail
    refine (zf HE.out hc).mono ?_;rintro e w2 ⟨rfl,hb2⟩;go_wp2_with fail
    exact ⟨⟨k+1,by omega,by go_num,HS.out,hB.trans (hb2.mono hB.size)⟩,by simp [intOf];omega⟩
  ·have HA:Hid (ts.any p=false):=by unfold Hid;rw [<- hno,tOl (by omega)]
   clear hno hw hf;go_wp2_with fail
   go_ret;exact ⟨_,rfl,by rw [HA.out];rfl,hB⟩
theorem zf6 (a:Option Addr) (cap:Nat) (ts:List Tm) (q:Value) (p:Tm->Bool) (w:World) (hw:jk w a ts) (hf:zg6 Tryz.prog 190 q ts w p) :
 Calls Tryz.prog 147 #[.slice a ts.length cap,.func (.func 190) #[] #[q]] w fun e w'=>e = .returned (.bool (ts.any p))/\Below w.heap.size w w':=by
 go_enter Tryz.func147,Tryz.ntmps147;go_wp2_with fail
 refine (zjl _ _ _ _ _ _ hw hf).mono ?_;rintro e w2 ⟨r,rfl,hr,hb2⟩;go_wp2_with fail
 go_ret;exact ⟨rfl,hb2⟩
theorem zjs (a:Option Addr) (cap:Nat) (ts:List Tm) (q:Value) (p:Tm->Bool) (w:World) (hw:jk w a ts) (hf:zg6 Tryz.prog 148 q ts w p) :
 Calls Tryz.prog 191 #[.slice a ts.length cap,.func (.func 148) #[] #[q]] w fun e w'=>∃ r:Int,e = .returned (.int .i64 r)/\decide (0<=r)=ts.any p/\Below w.heap.size w w':=by
 have hl:=hw.len;unfold maxLen at hl;go_enter Tryz.func191,Tryz.ntmps191;go_wp2_with fail
 go_loopw [8] (fun i wr=>∃ k:Nat,k<=ts.length/\i = .int .i64 k/\(ts.take k).any p=false/\Below w.heap.size w wr) (fun i _=>ts.length - (intOf i).toNat)
 case atStart=>exact ⟨0,Nat.zero_le _,rfl,rfl,bRf _ _⟩
 case round =>
  obtain ⟨k,hk,rfl,hno,hB⟩:=hrel
  by_cases hlt:k < ts.length
  ·obtain ⟨b,off,rfl,hb,c0,c1⟩:=hw.load hB k hlt
   have hltI:(k:Int) < (ts.length:Int):=by omega
   have hc:=hf wr hB k hlt;clear hw hf
   by_cases he:p ts[k]=true
   ·have HA:Hid (ts.any p=true):=zpi p ts k hlt he
    have HE:Hid (p ts[k]=true):=he;clear he hno;go_wp2_with fail
    refine (zf HE.out hc).mono ?_;rintro e w2 ⟨rfl,hb2⟩;go_wp2_with fail
    go_ret;exact ⟨_,rfl,by rw [HA.out];simp,hB.trans (hb2.mono hB.size)⟩
   ·have he':p ts[k]=false:=by simpa using he
    have HS:Hid ((ts.take (k+1)).any p=false):=by unfold Hid;rw [zfi p ts k hlt,hno,he'];rfl
    have HE:Hid (p ts[k]=false):=he';clear he he' hno;go_wp2_with fail
    refine (zf HE.out hc).mono ?_;rintro e w2 ⟨rfl,hb2⟩;go_wp2_with fail
    exact ⟨⟨k+1,by omega,by go_num,HS.out,hB.trans (hb2.mono hB.size)⟩,by simp [intOf];omega⟩
  ·have HA:Hid (ts.any p=false):=by unfold Hid;rw [<- hno,tOl (by omega)]
   clear hno hw hf;go_wp2_with fail
   go_ret;exact ⟨_,rfl,by rw [HA.out];rfl,hB⟩
theorem zgg (a:Option Addr) (cap:Nat) (ts:List Tm) (q:Value) (p:Tm->Bool) (w:World) (hw:jk w a ts) (hf:zg6 Tryz.prog 148 q ts w p) :
 Calls Tryz.prog 147 #[.slice a ts.length cap,.func (.func 148) #[] #[q]] w fun e w'=>e = .returned (.bool (ts.any p))/\Below w.heap.size w w':=by
 go_enter Tryz.func147,Tryz.ntmps147;go_wp2_with fail
 refine (zjs _ _ _ _ _ _ hw hf).mono ?_;rintro e w2 ⟨r,rfl,hr,hb2⟩;go_wp2_with fail
 go_ret;exact ⟨rfl,hb2⟩
theorem zla (t:Tm) (v:ByteArray) (bn:Nat) (w:World) (hb:bn < w.heap.size) (hn:w.cell? ⟨bn,0,none⟩=some (.string v)) :
 Calls Tryz.prog 190 #[.agg t.cells,.pointer (some ⟨bn,0,none⟩)] w fun e w'=>e = .returned (.bool (t.nm.toList == v.toList))/\Below w.heap.size w w':=by
 unfold Tm.cells;go_enter Tryz.func190,Tryz.ntmps190;go_wp2_with fail
 go_ret;exact ⟨rfl,bAl _ _⟩
theorem zlQ (ts:List Tm) (v:ByteArray) (bn:Nat) (w:World) (hb:bn < w.heap.size) (hn:w.cell? ⟨bn,0,none⟩=some (.string v)) :
 zg6 Tryz.prog 190 (.pointer (some ⟨bn,0,none⟩)) ts w (fun t=>decide (t.nm=v)):=fun w1 hB i hi=>by
 refine (zla ts[i] v bn w1 (nLt hb hB.size) ((hB.cell (p:=⟨bn,0,none⟩) hb).trans hn)).mono ?_;rintro e w' ⟨rfl,hb'⟩;exact ⟨ze (Gate.beq_toList _ _),hb'⟩
theorem zbU (a:Option Addr) (cap:Nat) (ts:List Tm) (v:ByteArray) (w:World) (hw:jk w a ts) :
 Calls Tryz.prog 146 #[.slice a ts.length cap,.string v] w fun e w'=>e = .returned (.bool (Gate.yA ts v))/\Below w.heap.size w w':=by
 go_enter Tryz.func146,Tryz.ntmps146;go_wp2_with fail
 refine (zf6 _ _ _ _ _ _ (hw.mono (bAl _ _)) (zlQ ts v _ _ (by simp) (by rw [World.cell?_alloc_at _ _ _ _ rfl];rfl))).mono ?_;rintro e w2 ⟨rfl,hb2⟩;go_wp2_with fail
 go_ret;exact ⟨rfl,(bAl _ _).trans (hb2.mono (by simp))⟩
theorem zj7 (a:Option Addr) (cap:Nat) (ts:List Tm) (t:Tm) (w:World) (hw:jk w a ts) :
 Calls Tryz.prog 149 #[.slice a ts.length cap,.agg t.cells] w fun e w'=>e = .returned (.bool (!Gate.zd3 ts t))/\Below w.heap.size w w':=by
 unfold Tm.cells;go_enter Tryz.func149,Tryz.ntmps149;go_wp2_with fail
 go_loopw [5,8] (fun p i wr=>∃ (k:Nat) (z:ByteArray),k<=4/\p = .string z/\i = .int .i64 k/\Gate.zez ts 4 t.ov=Gate.zez ts (4 - k) z/\Below w.heap.size w wr) (fun _ i _=>4 - (intOf i).toNat)
 case atStart=>exact ⟨0,t.ov,Nat.zero_le _,rfl,rfl,rfl,bAl _ _⟩
 case round =>
  obtain ⟨k,z,hk,rfl,rfl,hz,hB⟩:=hrel
  by_cases hlt:k < 4
  ·have hltI:(k:Int) < 4:=by omega
   have HZ:Hid (Gate.zez ts 4 t.ov=Gate.zez ts (4 - (k+1)) (Gate.over ts z)):=by
    obtain ⟨m,hm⟩:∃ m,4 - k=m+1:=⟨3 - k,by omega⟩
    rw [Hid,hz,hm,show 4 - (k+1)=m by omega];rfl
   clear hz;go_wp2_with fail
   refine (zed _ _ _ _ _ (hw.mono hB)).mono ?_;rintro e w1 ⟨rfl,hb1⟩;have hB1:=hB.trans (hb1.mono hB.size);clear hb1;go_wp2_with fail
   exact ⟨⟨k+1,Gate.over ts z,by omega,rfl,by go_num,HZ.out,hB1⟩,by simp [intOf];omega⟩
  ·have HF:Hid (Gate.zd3 ts t=z.toList.isEmpty):=by
    have e:4 - k=0:=by omega
    rw [e] at hz;unfold Hid Gate.zd3;rw [hz,Gate.zu];rfl
   clear hz;go_wp2_with fail
   go_ret;exact ⟨ze (by rw [HF.out]),hB⟩
theorem znI (a:Option Addr) (cap:Nat) (ts:List Tm) (t:Tm) (bn:Nat) (w:World) (hw:jk w a ts) (hb:bn < w.heap.size) (hn:w.cell? ⟨bn,0,none⟩=some (.slice a ts.length cap)) :
 Calls Tryz.prog 148 #[.agg t.cells,.pointer (some ⟨bn,0,none⟩)] w fun e w'=>e = .returned (.bool (!Gate.zd3 ts t))/\Below w.heap.size w w':=by
 unfold Tm.cells;go_enter Tryz.func148,Tryz.ntmps148;go_wp2_with fail
 refine (zj7 _ _ _ t _ (hw.mono (bAl _ _))).mono ?_;rintro e w2 ⟨rfl,hb2⟩;go_wp2_with fail
 go_ret;exact ⟨rfl,(bAl _ _).trans (hb2.mono (by simp))⟩
theorem zpb (a:Option Addr) (cap:Nat) (ts:List Tm) (bn:Nat) (w:World) (hw:jk w a ts) (hb:bn < w.heap.size) (hn:w.cell? ⟨bn,0,none⟩=some (.slice a ts.length cap)) :
 zg6 Tryz.prog 148 (.pointer (some ⟨bn,0,none⟩)) ts w (fun t=>!Gate.zd3 ts t):=fun w1 hB i _ =>
 znI a cap ts ts[i] bn w1 (hw.mono hB) (nLt hb hB.size) ((hB.cell (p:=⟨bn,0,none⟩) hb).trans hn)
namespace Gate
def zay (b:Bk):Bool:=within b.now 0 1000000 && (within b.tick 0 1000000 && within b.given 0 b.now)
def yB (given:Int) (g:Gr):Bool:=within g.no 1 given && (zy g.to && ((g.gb.toList.isEmpty || zy g.gb) && z8 g.r))
noncomputable def yj (b:Bk):Bool:=decide (b.gs.length<=24) && (zbd zbB b.gs && b.gs.all (yB b.given))
def yN (ts:List Tm) (g:Lg):Bool:=yA ts g.tm && (zy g.rs && jF g.fr g.mo 0 1000000)
noncomputable def yP (ts:List Tm) (b:Bk):Bool:=decide (b.ls.length<=10) && (zbd qC b.ls && b.ls.all (yN ts))
end Gate
theorem zkl (b:Bk) (a0 a1 a2 a3:Option Addr) (c0 c1 c2 c3:Nat) (w:World) :
 Calls Tryz.prog 109 #[.agg (b.cells a0 a1 a2 a3 c0 c1 c2 c3)] w fun e w'=>e = .returned (.bool (Gate.zay b))/\Below w.heap.size w w':=by
 have HB:Hid (∀ ob,Below w.heap.size w (w.alloc ob)):=fun ob=>bAl _ _
 unfold Bk.cells
 by_cases h1:Gate.within b.now 0 1000000=true
 rotate_left
 ·have h1':Gate.within b.now 0 1000000=false:=by simpa using h1
  have HF:Hid (Gate.zay b=false):=by unfold Hid Gate.zay;rw [h1'];rfl
  have H1:Hid (∀ W,Calls Tryz.prog 150 #[.int .i64 b.now,.int .i64 0,.int .i64 1000000] W fun e w'=>e = .returned (.bool false)/\w'=W):=fun W=>zf h1' (jh _ _ _ W)
  clear h1 h1';go_enter Tryz.func109,Tryz.ntmps109
  go_wp2_with (go_at_call 150;refine (H1.out _).mono ?_;rintro e w2 ⟨rfl,rfl⟩)
  go_ret;exact ⟨ze HF.out.symm,HB.out _⟩
 by_cases h2:Gate.within b.tick 0 1000000=true
 rotate_left
 ·have h2':Gate.within b.tick 0 1000000=false:=by simpa using h2
  have HF:Hid (Gate.zay b=false):=by unfold Hid Gate.zay;rw [h1,h2'];rfl
  have H1:Hid (∀ W,Calls Tryz.prog 150 #[.int .i64 b.now,.int .i64 0,.int .i64 1000000] W fun e w'=>e = .returned (.bool true)/\w'=W):=fun W=>zf h1 (jh _ _ _ W)
  have H2:Hid (∀ W,Calls Tryz.prog 150 #[.int .i64 b.tick,.int .i64 0,.int .i64 1000000] W fun e w'=>e = .returned (.bool false)/\w'=W):=fun W=>zf h2' (jh _ _ _ W)
  clear h1 h2 h2';go_enter Tryz.func109,Tryz.ntmps109;go_wp2_with fail
  refine (H1.out _).mono ?_;rintro e w2 ⟨rfl,rfl⟩;go_wp2_with fail
  refine (H2.out _).mono ?_;rintro e w2 ⟨rfl,rfl⟩;go_wp2_with fail
  go_ret;exact ⟨ze HF.out.symm,HB.out _⟩
 ·have HF:Hid (Gate.zay b=Gate.within b.given 0 b.now):=by unfold Hid Gate.zay;rw [h1,h2];rfl
  have H1:Hid (∀ W,Calls Tryz.prog 150 #[.int .i64 b.now,.int .i64 0,.int .i64 1000000] W fun e w'=>e = .returned (.bool true)/\w'=W):=fun W=>zf h1 (jh _ _ _ W)
  have H2:Hid (∀ W,Calls Tryz.prog 150 #[.int .i64 b.tick,.int .i64 0,.int .i64 1000000] W fun e w'=>e = .returned (.bool true)/\w'=W):=fun W=>zf h2 (jh _ _ _ W)
  clear h1 h2;go_enter Tryz.func109,Tryz.ntmps109;go_wp2_with fail
  refine (H1.out _).mono ?_;rintro e w2 ⟨rfl,rfl⟩;go_wp2_with fail
  refine (H2.out _).mono ?_;rintro e w2 ⟨rfl,rfl⟩;go_wp2_with fail
  refine (jh _ _ _ _).mono ?_;rintro e w2 ⟨rfl,rfl⟩;go_wp2_with fail
  go_ret;exact ⟨ze HF.out.symm,HB.out _⟩
theorem zjQ (b:Bk) (a0 a1 a2 a3:Option Addr) (c0 c1 c2 c3:Nat) (w:World) (hb:y7 w b a0 a1 a2 a3) :
 Calls Tryz.prog 111 #[.agg (b.cells a0 a1 a2 a3 c0 c1 c2 c3)] w fun e w'=>e = .returned (.bool (Gate.yj b))/\Below w.heap.size w w':=by
 have HK:Hid (y7 w b a0 a1 a2 a3):=hb;clear hb;unfold Bk.cells
 by_cases hln:b.gs.length<=24
 rotate_left
 ·have HF:Hid (Gate.yj b=false):=by unfold Hid Gate.yj;rw [decide_eq_false hln];rfl
  have hg:(24:Int) < (b.gs.length:Int):=by omega
  go_enter Tryz.func111,Tryz.ntmps111;go_wp2_with fail
  go_ret;exact ⟨ze HF.out.symm,bAl _ _⟩
 have hg:decide ((24:Int) < (b.gs.length:Int))=false:=by simp;omega
 have HLN:Hid (b.gs.length<=24):=hln;clear hln;go_enter Tryz.func111,Tryz.ntmps111;go_wp2_with fail
 have hX0:=zm w #[.int .i64 b.now,.int .i64 b.tick,.int .i64 b.given,.slice a0 b.os.length c0,.slice a1 b.gs.length c1,.slice a2 b.ls.length c2,.slice a3 b.ps.length c3] 48;have HB0:Hid (Below w.heap.size w (w.alloc (.cells #[.int .i64 b.now,.int .i64 b.tick,.int .i64 b.given,.slice a0 b.os.length c0,.slice a1 b.gs.length c1,.slice a2 b.ls.length c2,.slice a3 b.ps.length c3] 48))):=bAl _ _;obtain ⟨W0,hW0⟩:∃ W0,W0=w.alloc (.cells #[.int .i64 b.now,.int .i64 b.tick,.int .i64 b.given,.slice a0 b.os.length c0,.slice a1 b.gs.length c1,.slice a2 b.ls.length c2,.slice a3 b.ps.length c3] 48):=⟨_,rfl⟩
 have hz0:w.heap.size < W0.heap.size:=by rw [hW0];simp
 rw [<- hW0] at HB0 hX0 ⊢;clear hW0;refine (zh6 _ _ b.gs _ (HK.out.gs.mono HB0.out)).mono ?_;rintro e w1 ⟨rfl,hb1⟩;have HB1:Hid (Below w.heap.size w w1):=HB0.out.trans (hb1.mono HB0.out.size);have hX1:=za hX0 hz0 hb1;have hz1:=nLt hz0 hb1.size;clear hb1 hX0 hz0 HB0
 by_cases has:Gate.zbd Gate.zbB b.gs=true
 rotate_left
 ·have has':Gate.zbd Gate.zbB b.gs=false:=by simpa using has
  have HF:Hid (Gate.yj b=false):=by unfold Hid Gate.yj;rw [has'];simp
  rw [has'];clear has has';go_wp2_with fail
  go_ret;exact ⟨ze HF.out.symm,HB1.out⟩
 have HG:Hid (Gate.yj b=b.gs.all (Gate.yB b.given)):=by unfold Hid Gate.yj;rw [has,decide_eq_true HLN.out];rfl
 rw [has];clear has;go_wp2_with fail
 go_loopw [18] (fun iv wr=>∃ k:Nat,k<=b.gs.length/\iv = .int .i64 k/\Hid ((b.gs.take k).all (Gate.yB b.given)=true/\Below w1.heap.size w1 wr)) (fun iv _=>b.gs.length - (intOf iv).toNat)
 case atStart=>exact ⟨0,Nat.zero_le _,rfl,by simp,bRf _ _⟩
 case round =>
  obtain ⟨k,hk,rfl,HQ⟩:=hrel;have hkn:k<=24:=by have:=HLN.out;omega
  by_cases hlt:k < b.gs.length
  ·obtain ⟨ob,off,v0,q0,rfl,hob,hsm,hi0,d0,d1,d2,d3,d4,d5,d6⟩:=HK.out.gs.load (HB1.out.trans (HQ.out.2.mono HB1.out.size)) k hlt
   have hob':ob < wr.heap.size:=nLt hob (HB1.out.trans (HQ.out.2.mono HB1.out.size)).size;have hltI:(k:Int) < (b.gs.length:Int):=by omega
   have hX:=za hX1 hz1 HQ.out.2;have hz:w.heap.size < wr.heap.size:=nLt hz1 HQ.out.2.size;have HSn:Hid ((b.gs.take (k+1)).all (Gate.yB b.given)=((b.gs.take k).all (Gate.yB b.given) && (Gate.yB b.given) b.gs[k])):=Gate.qU _ _ _ hlt;have HBo:Hid (∀ ob,Below w1.heap.size w1 (wr.alloc ob)):=fun ob=>HQ.out.2.alloc HQ.out.2.size _
   have HBw:Hid (∀ W,Below w1.heap.size w1 W->Below w.heap.size w W):=fun W hW=>HB1.out.trans (hW.mono HB1.out.size)
   have HNo:Hid ((Gate.yB b.given) b.gs[k]=false->Gate.yj b=false):=fun h=>by rw [HG.out];exact Gate.zaC _ _ _ hlt h
   have HYes:Hid ((Gate.yB b.given) b.gs[k]=true->(b.gs.take (k+1)).all (Gate.yB b.given)=true):=fun h=>by rw [HSn.out,HQ.out.1,h];rfl
   have HIt:Hid (qp wr v0 b.gs[k].r.vs/\b.gs[k].Small):=⟨hi0,hsm⟩
   clear hsm hi0;have HW1:∀ v,Gate.within b.gs[k].no 1 b.given=v->Hid (∀ W,Calls Tryz.prog 150 #[.int .i64 b.gs[k].no,.int .i64 1,.int .i64 b.given] W fun e w'=>e = .returned (.bool v)/\w'=W):=fun v h W=>zf h (jh _ _ _ W)
   have HN1:∀ v,Gate.zy b.gs[k].to=v->Hid (∀ W,Calls Tryz.prog 145 #[.string b.gs[k].to] W fun e w'=>e = .returned (.bool v)/\w'=W):=fun v h W=>zf h (zG _ W HIt.out.2.to)
   have HN2:∀ v,Gate.zy b.gs[k].gb=v->Hid (∀ W,Calls Tryz.prog 145 #[.string b.gs[k].gb] W fun e w'=>e = .returned (.bool v)/\w'=W):=fun v h W=>zf h (zG _ W HIt.out.2.gb)
   have HR1:∀ v,Gate.z8 b.gs[k].r=v->Hid (∀ W,Below wr.heap.size wr W->Calls Tryz.prog 157 #[.agg #[.slice v0 b.gs[k].r.vs.length q0,.string b.gs[k].r.kd,.string b.gs[k].r.tm,.string b.gs[k].r.px]] W fun e w'=>e = .returned (.bool v)/\Below W.heap.size W w'):=fun v h W hW=>zf h (znG b.gs[k].r v0 q0 W HIt.out.2.r (HIt.out.1.mono hW))
   by_cases t1:Gate.within b.gs[k].no 1 b.given=true
   rotate_left
   ·have HF:Hid (Gate.yj b=false):=HNo.out (by unfold Gate.yB;rw [bFi t1];rfl)
    have H1:=HW1 false (bFi t1);clear HW1 HN1 HN2 HR1 t1;go_wp2_with fail
    refine (H1.out _).mono ?_;rintro e w2 ⟨rfl,rfl⟩;go_wp2_with fail
    go_ret;exact ⟨ze HF.out.symm,HBw.out _ (HBo.out _)⟩
   have H1:=HW1 true t1
   by_cases t2:Gate.zy b.gs[k].to=true
   rotate_left
   ·have HF:Hid (Gate.yj b=false):=HNo.out (by unfold Gate.yB;rw [t1,bFi t2];rfl)
    have H2:=HN1 false (bFi t2);clear HW1 HN1 HN2 HR1 t1 t2;go_wp2_with fail
    refine (H1.out _).mono ?_;rintro e w2 ⟨rfl,rfl⟩;go_wp2_with fail
    refine (H2.out _).mono ?_;rintro e w2 ⟨rfl,rfl⟩;go_wp2_with fail
    go_ret;exact ⟨ze HF.out.symm,HBw.out _ (HBo.out _)⟩
   have H2:=HN1 true t2
   by_cases t3:b.gs[k].gb.toList.isEmpty=true
   ·by_cases t5:Gate.z8 b.gs[k].r=true
    ·have HY:Hid ((b.gs.take (k+1)).all (Gate.yB b.given)=true):=HYes.out (by unfold Gate.yB;rw [t1,t2,t3,t5];rfl)
     have H5:=HR1 true t5;clear HW1 HN1 HN2 HR1 t1 t2 t5;go_wp2_with fail
     refine (H1.out _).mono ?_;rintro e w2 ⟨rfl,rfl⟩;go_wp2_with fail
     refine (H2.out _).mono ?_;rintro e w2 ⟨rfl,rfl⟩;go_wp2_with fail
     refine (H5.out _ (bAl _ _)).mono ?_;rintro e w2 ⟨rfl,hb2⟩;have HB2:Hid (Below w1.heap.size w1 w2):=(HBo.out _).trans (hb2.mono (HBo.out _).size);clear hb2;go_wp2_with fail
     exact ⟨⟨k+1,by omega,by go_num,HY.out,HB2.out⟩,zn hlt⟩
    ·have HF:Hid (Gate.yj b=false):=HNo.out (by unfold Gate.yB;rw [t1,t2,t3,bFi t5];rfl)
     have H5:=HR1 false (bFi t5);clear HW1 HN1 HN2 HR1 t1 t2 t5;go_wp2_with fail
     refine (H1.out _).mono ?_;rintro e w2 ⟨rfl,rfl⟩;go_wp2_with fail
     refine (H2.out _).mono ?_;rintro e w2 ⟨rfl,rfl⟩;go_wp2_with fail
     refine (H5.out _ (bAl _ _)).mono ?_;rintro e w2 ⟨rfl,hb2⟩;have HB2:Hid (Below w1.heap.size w1 w2):=(HBo.out _).trans (hb2.mono (HBo.out _).size);clear hb2;go_wp2_with fail
     go_ret;exact ⟨ze HF.out.symm,HBw.out _ HB2.out⟩
   have t3':b.gs[k].gb.toList.isEmpty=false:=bFi t3;clear t3
   by_cases t4:Gate.zy b.gs[k].gb=true
   rotate_left
   ·have HF:Hid (Gate.yj b=false):=HNo.out (by unfold Gate.yB;rw [t1,t2,t3',bFi t4];rfl)
    have H4:=HN2 false (bFi t4);clear HW1 HN1 HN2 HR1 t1 t2 t4;go_wp2_with fail
    refine (H1.out _).mono ?_;rintro e w2 ⟨rfl,rfl⟩;go_wp2_with fail
    refine (H2.out _).mono ?_;rintro e w2 ⟨rfl,rfl⟩;go_wp2_with fail
    refine (H4.out _).mono ?_;rintro e w2 ⟨rfl,rfl⟩;go_wp2_with fail
    go_ret;exact ⟨ze HF.out.symm,HBw.out _ (HBo.out _)⟩
   have H4:=HN2 true t4
   by_cases t5:Gate.z8 b.gs[k].r=true
   ·have HY:Hid ((b.gs.take (k+1)).all (Gate.yB b.given)=true):=HYes.out (by unfold Gate.yB;rw [t1,t2,t3',t4,t5];rfl)
    have H5:=HR1 true t5;clear HW1 HN1 HN2 HR1 t1 t2 t4 t5;go_wp2_with fail
    refine (H1.out _).mono ?_;rintro e w2 ⟨rfl,rfl⟩;go_wp2_with fail
    refine (H2.out _).mono ?_;rintro e w2 ⟨rfl,rfl⟩;go_wp2_with fail
    refine (H4.out _).mono ?_;rintro e w2 ⟨rfl,rfl⟩;go_wp2_with fail
    refine (H5.out _ (bAl _ _)).mono ?_;rintro e w2 ⟨rfl,hb2⟩;have HB2:Hid (Below w1.heap.size w1 w2):=(HBo.out _).trans (hb2.mono (HBo.out _).size);clear hb2;go_wp2_with fail
    exact ⟨⟨k+1,by omega,by go_num,HY.out,HB2.out⟩,zn hlt⟩
   ·have HF:Hid (Gate.yj b=false):=HNo.out (by unfold Gate.yB;rw [t1,t2,t3',t4,bFi t5];rfl)
    have H5:=HR1 false (bFi t5);clear HW1 HN1 HN2 HR1 t1 t2 t4 t5;go_wp2_with fail
    refine (H1.out _).mono ?_;rintro e w2 ⟨rfl,rfl⟩;go_wp2_with fail
    refine (H2.out _).mono ?_;rintro e w2 ⟨rfl,rfl⟩;go_wp2_with fail
    refine (H4.out _).mono ?_;rintro e w2 ⟨rfl,rfl⟩;go_wp2_with fail
    refine (H5.out _ (bAl _ _)).mono ?_;rintro e w2 ⟨rfl,hb2⟩;have HB2:Hid (Below w1.heap.size w1 w2):=(HBo.out _).trans (hb2.mono (HBo.out _).size);clear hb2;go_wp2_with fail
    go_ret;exact ⟨ze HF.out.symm,HBw.out _ HB2.out⟩
  ·have e:k=b.gs.length:=by omega
   subst e
   have HE:Hid (Gate.yj b=true):=by
    unfold Hid;rw [HG.out];have h:=HQ.out.1;rw [tOl (Nat.le_refl _)] at h;exact h
   have HBe:Hid (Below w.heap.size w wr):=HB1.out.trans (HQ.out.2.mono HB1.out.size);clear hlt hk HQ;go_wp2_with fail
   go_ret;exact ⟨ze HE.out.symm,HBe.out⟩
theorem ziE (l:Lw) (la lb lc:Option Addr) (lca lcb lcc:Nat) (b:Bk) (a0 a1 a2 a3:Option Addr) (c0 c1 c2 c3:Nat) (w:World) (hb:y7 w b a0 a1 a2 a3) (hl:y9 w l la lb lc) :
 Calls Tryz.prog 112 #[.agg (l.cells la lb lc lca lcb lcc),.agg (b.cells a0 a1 a2 a3 c0 c1 c2 c3)] w fun e w'=>e = .returned (.bool (Gate.yP l.ts b))/\Below w.heap.size w w':=by
 have HK:Hid (y7 w b a0 a1 a2 a3):=hb;have HL:Hid (y9 w l la lb lc):=hl;clear hb hl;unfold Lw.cells Bk.cells
 by_cases hln:b.ls.length<=10
 rotate_left
 ·have HF:Hid (Gate.yP l.ts b=false):=by unfold Hid Gate.yP;rw [decide_eq_false hln];rfl
  have hg:(10:Int) < (b.ls.length:Int):=by omega
  go_enter Tryz.func112,Tryz.ntmps112;go_wp2_with fail
  go_ret;exact ⟨ze HF.out.symm,zA _ _ _⟩
 have hg:decide ((10:Int) < (b.ls.length:Int))=false:=by simp;omega
 have HLN:Hid (b.ls.length<=10):=hln;clear hln;go_enter Tryz.func112,Tryz.ntmps112;go_wp2_with fail
 obtain ⟨hL0,hX0⟩:=qw w #[.slice la l.ss.length lca,.slice lb l.ms.length lcb,.slice lc l.ts.length lcc] #[.int .i64 b.now,.int .i64 b.tick,.int .i64 b.given,.slice a0 b.os.length c0,.slice a1 b.gs.length c1,.slice a2 b.ls.length c2,.slice a3 b.ps.length c3] 41 48;have HB0:Hid (Below w.heap.size w ((w.alloc (.cells #[.slice la l.ss.length lca,.slice lb l.ms.length lcb,.slice lc l.ts.length lcc] 41)).alloc (.cells #[.int .i64 b.now,.int .i64 b.tick,.int .i64 b.given,.slice a0 b.os.length c0,.slice a1 b.gs.length c1,.slice a2 b.ls.length c2,.slice a3 b.ps.length c3] 48))):=zA w _ _;obtain ⟨W0,hW0⟩:∃ W0,W0=(w.alloc (.cells #[.slice la l.ss.length lca,.slice lb l.ms.length lcb,.slice lc l.ts.length lcc] 41)).alloc (.cells #[.int .i64 b.now,.int .i64 b.tick,.int .i64 b.given,.slice a0 b.os.length c0,.slice a1 b.gs.length c1,.slice a2 b.ls.length c2,.slice a3 b.ps.length c3] 48):=⟨_,rfl⟩
 have hz0:w.heap.size+1 < W0.heap.size:=by rw [hW0];simp
 rw [<- hW0] at HB0 hX0 hL0 ⊢;clear hW0;refine (zia _ _ b.ls _ (HK.out.ls.mono HB0.out)).mono ?_;rintro e w1 ⟨rfl,hb1⟩;have HB1:Hid (Below w.heap.size w w1):=HB0.out.trans (hb1.mono HB0.out.size);have hX1:=za hX0 hz0 hb1;have hL1:=za hL0 (nSl hz0) hb1;have hz1:=nLt hz0 hb1.size;clear hb1 hX0 hL0 hz0 HB0
 by_cases has:Gate.zbd Gate.qC b.ls=true
 rotate_left
 ·have has':Gate.zbd Gate.qC b.ls=false:=by simpa using has
  have HF:Hid (Gate.yP l.ts b=false):=by unfold Hid Gate.yP;rw [has'];simp
  rw [has'];clear has has';go_wp2_with fail
  go_ret;exact ⟨ze HF.out.symm,HB1.out⟩
 have HG:Hid (Gate.yP l.ts b=b.ls.all (Gate.yN l.ts)):=by unfold Hid Gate.yP;rw [has,decide_eq_true HLN.out];rfl
 rw [has];clear has;go_wp2_with fail
 go_loopw [20] (fun iv wr=>∃ k:Nat,k<=b.ls.length/\iv = .int .i64 k/\Hid ((b.ls.take k).all (Gate.yN l.ts)=true/\Below w1.heap.size w1 wr)) (fun iv _=>b.ls.length - (intOf iv).toNat)
 case atStart=>exact ⟨0,Nat.zero_le _,rfl,by simp,bRf _ _⟩
 case round =>
  obtain ⟨k,hk,rfl,HQ⟩:=hrel;have hkn:k<=10:=by have:=HLN.out;omega
  by_cases hlt:k < b.ls.length
  ·obtain ⟨ob,off,rfl,hob,d0,d1,d2,d3⟩:=HK.out.ls.load (HB1.out.trans (HQ.out.2.mono HB1.out.size)) k hlt
   have hob':ob < wr.heap.size:=nLt hob (HB1.out.trans (HQ.out.2.mono HB1.out.size)).size;have hltI:(k:Int) < (b.ls.length:Int):=by omega
   have hX:=za hX1 hz1 HQ.out.2;have hz:w.heap.size+1 < wr.heap.size:=nLt hz1 HQ.out.2.size;have HSn:Hid ((b.ls.take (k+1)).all (Gate.yN l.ts)=((b.ls.take k).all (Gate.yN l.ts) && (Gate.yN l.ts) b.ls[k])):=Gate.qU _ _ _ hlt;have HBo:Hid (∀ ob,Below w1.heap.size w1 (wr.alloc ob)):=fun ob=>HQ.out.2.alloc HQ.out.2.size _
   have HBw:Hid (∀ W,Below w1.heap.size w1 W->Below w.heap.size w W):=fun W hW=>HB1.out.trans (hW.mono HB1.out.size)
   have HNo:Hid ((Gate.yN l.ts) b.ls[k]=false->Gate.yP l.ts b=false):=fun h=>by rw [HG.out];exact Gate.zaC _ _ _ hlt h
   have HYes:Hid ((Gate.yN l.ts) b.ls[k]=true->(b.ls.take (k+1)).all (Gate.yN l.ts)=true):=fun h=>by rw [HSn.out,HQ.out.1,h];rfl
   have hL:=za hL1 (nSl hz1) HQ.out.2;have hzL:w.heap.size < wr.heap.size:=nSl hz;have HSm:Hid b.ls[k].Small:=HK.out.ls.small k hlt;go_wp2_with fail
   have hbN:Below wr.heap.size wr (wr.alloc (.cells #[.string b.ls[k].tm,.string b.ls[k].rs,.int .i64 b.ls[k].mo,.int .i64 b.ls[k].fr] 134)):=bAl _ _;have hN:=zm wr #[.string b.ls[k].tm,.string b.ls[k].rs,.int .i64 b.ls[k].mo,.int .i64 b.ls[k].fr] 134;obtain ⟨w2,hw2⟩:∃ w2,w2=wr.alloc (.cells #[.string b.ls[k].tm,.string b.ls[k].rs,.int .i64 b.ls[k].mo,.int .i64 b.ls[k].fr] 134):=⟨_,rfl⟩
   have hn2:wr.heap.size < w2.heap.size:=by rw [hw2];simp
   rw [<- hw2] at hbN hN ⊢;have HB2:Hid (Below w1.heap.size w1 w2):=by unfold Hid;rw [hw2];exact HBo.out _
   clear hw2 d0 d1 d2 d3 hX hL hbN;refine (zbU _ _ l.ts b.ls[k].tm _ (HL.out.ts.mono (HBw.out _ HB2.out))).mono ?_;rintro e w3 ⟨rfl,hb3⟩;have HB3:Hid (Below w1.heap.size w1 w3):=HB2.out.trans (hb3.mono HB2.out.size);have hN3:=za hN hn2 hb3;have hn3:=nLt hn2 hb3.size;clear hb3 hN hn2 HB2;have HN1:∀ v,Gate.zy b.ls[k].rs=v->Hid (∀ W,Calls Tryz.prog 145 #[.string b.ls[k].rs] W fun e w'=>e = .returned (.bool v)/\w'=W):=fun v h W=>zf h (zG _ W HSm.out.rs)
   by_cases t1:Gate.yA l.ts b.ls[k].tm=true
   rotate_left
   ·have HF:Hid (Gate.yP l.ts b=false):=HNo.out (by unfold Gate.yN;rw [bFi t1];rfl)
    rw [bFi t1];clear HN1 t1;go_wp2_with fail
    go_ret;exact ⟨ze HF.out.symm,HBw.out _ HB3.out⟩
   rw [t1]
   by_cases t2:Gate.zy b.ls[k].rs=true
   rotate_left
   ·have HF:Hid (Gate.yP l.ts b=false):=HNo.out (by unfold Gate.yN;rw [t1,bFi t2];rfl)
    have H2:=HN1 false (bFi t2);clear HN1 t1 t2;go_wp2_with fail
    refine (H2.out _).mono ?_;rintro e w4 ⟨rfl,rfl⟩;go_wp2_with fail
    go_ret;exact ⟨ze HF.out.symm,HBw.out _ HB3.out⟩
   have H2:=HN1 true t2
   by_cases t3:Gate.jF b.ls[k].fr b.ls[k].mo 0 1000000=true
   ·have HY:Hid ((b.ls.take (k+1)).all (Gate.yN l.ts)=true):=HYes.out (by unfold Gate.yN;rw [t1,t2,t3];rfl)
    have H3:Hid (∀ W,Calls Tryz.prog 160 #[.int .i64 b.ls[k].fr,.int .i64 b.ls[k].mo,.int .i64 0,.int .i64 1000000] W fun e w'=>e = .returned (.bool true)/\w'=W):=fun W=>zf t3 (zbu _ _ _ _ W)
    clear HN1 t1 t2 t3;go_wp2_with fail
    refine (H2.out _).mono ?_;rintro e w4 ⟨rfl,rfl⟩;go_wp2_with fail
    refine (H3.out _).mono ?_;rintro e w4 ⟨rfl,rfl⟩;go_wp2_with fail
    exact ⟨⟨k+1,by omega,by go_num,HY.out,HB3.out⟩,zn hlt⟩
   ·have HF:Hid (Gate.yP l.ts b=false):=HNo.out (by unfold Gate.yN;rw [t1,t2,bFi t3];rfl)
    have H3:Hid (∀ W,Calls Tryz.prog 160 #[.int .i64 b.ls[k].fr,.int .i64 b.ls[k].mo,.int .i64 0,.int .i64 1000000] W fun e w'=>e = .returned (.bool false)/\w'=W):=fun W=>zf (bFi t3) (zbu _ _ _ _ W)
    clear HN1 t1 t2 t3;go_wp2_with fail
    refine (H2.out _).mono ?_;rintro e w4 ⟨rfl,rfl⟩;go_wp2_with fail
    refine (H3.out _).mono ?_;rintro e w4 ⟨rfl,rfl⟩;go_wp2_with fail
    go_ret;exact ⟨ze HF.out.symm,HBw.out _ HB3.out⟩
  ·have e:k=b.ls.length:=by omega
   subst e
   have HE:Hid (Gate.yP l.ts b=true):=by
    unfold Hid;rw [HG.out];have h:=HQ.out.1;rw [tOl (Nat.le_refl _)] at h;exact h
   have HBe:Hid (Below w.heap.size w wr):=HB1.out.trans (HQ.out.2.mono HB1.out.size);clear hlt hk HQ;go_wp2_with fail
   go_ret;exact ⟨ze HE.out.symm,HBe.out⟩
namespace Gate
theorem zp3 (a b:ByteArray):key a b < 0 ↔ less a b=true:=by
 rw [ziL,decide_eq_true_eq]
 have:=zm6 a b
 omega
theorem zkw {a b c:ByteArray} (h:key a b < 0) (h':key b c < 0):key a c < 0:=by
 rw [zp3] at h h' ⊢;exact zbj _ _ _ h h'
theorem ziA {a b c d e f:ByteArray} (h:key2 a b c d < 0) (h':key2 c d e f < 0):key2 a b e f < 0:=by
 unfold key2 at h h' ⊢
 by_cases h1:key a c=0
 ·rw [if_pos h1] at h
  have e1:=(zbL a c).1 h1;subst e1
  by_cases h2:key a e=0
  ·rw [if_pos h2] at h' ⊢
   exact zkw h h'
  ·rw [if_neg h2] at h' ⊢
   exact h'
 ·rw [if_neg h1] at h
  by_cases h2:key c e=0
  ·have e1:=(zbL c e).1 h2
   subst e1;rw [if_neg h1];exact h
  ·rw [if_neg h2] at h'
   have h3:=zkw h h';rw [if_neg (by omega)];exact h3
theorem zbx {a b c:Lg} (h:qC a b < 0) (h':qC b c < 0):qC a c < 0:=ziA h h'
theorem zeY {a b c d:ByteArray}:key2 a b c d=0 ↔ a=c/\b=d:=by
 unfold key2
 by_cases h:key a c=0
 ·rw [if_pos h,zbL]
  exact ⟨fun e=>⟨(zbL a c).1 h,e⟩,fun e=>e.2⟩
 ·rw [if_neg h]
  exact ⟨fun e=>absurd e h,fun e=>absurd ((zbL a c).2 e.1) h⟩
theorem zcA {α:Type} {key:α->α->Int} (ht:∀ a b c:α,key a b < 0->key b c < 0->key a c < 0) {ms:List α} (h:rising key ms):∀ (j:Nat) (hj:j < ms.length) (i:Nat) (hi:i < j),key (ms[i]'(by omega)) ms[j] < 0
 | 0,_,i,hi=>by omega
 | j+1,hj,i,hi=>by
  rcases Nat.lt_or_ge i j with hlt | hge
  ·have hjl:j < ms.length:=by omega
   have hil:i < ms.length:=by omega
   exact ht ms[i] ms[j] ms[j+1] (zcA ht h j hjl i hlt) (h j hj)
  ·have e:i=j:=by omega
   subst e;exact h i hj
def jq (ls:List Lg) (tm rs:ByteArray):Bool:=ls.any fun g=>decide (g.tm=tm) && decide (g.rs=rs)
structure zex (ls:List Lg) (tm rs:ByteArray) (p:Nat):Prop where
 le:p<=ls.length
 below:∀ i (h:i < ls.length),i < p->key2 ls[i].tm ls[i].rs tm rs < 0
 above:∀ i (h:i < ls.length),p<=i->0<=key2 ls[i].tm ls[i].rs tm rs
theorem zex.found {ls:List Lg} {tm rs:ByteArray} {p:Nat} (h:zex ls tm rs p) (hr:rising qC ls):jq ls tm rs=true ↔ ∃ hp:p < ls.length,ls[p].tm=tm/\ls[p].rs=rs:=by
 unfold jq;rw [List.any_eq_true]
 constructor
 ·rintro ⟨g,hg,he⟩
  obtain ⟨i,hi,rfl⟩:=List.mem_iff_getElem.1 hg;simp only [Bool.and_eq_true,decide_eq_true_eq] at he;have hz:key2 ls[i].tm ls[i].rs tm rs=0:=zeY.2 he
  have hpi:p<=i:=by
   rcases Nat.lt_or_ge i p with hlt | hge
   ·have:=h.below i hi hlt;omega
   ·exact hge
  rcases Nat.eq_or_lt_of_le hpi with e | hlt
  ·subst e;exact ⟨hi,he⟩
  ·have h1:=zcA (fun a b c=>zbx (a:=a) (b:=b) (c:=c)) hr i hi p hlt
   have h2:=h.above p (by omega) (Nat.le_refl _);unfold qC at h1;rw [he.1,he.2] at h1;omega
 ·rintro ⟨hp,he⟩
  exact ⟨ls[p],List.getElem_mem _,by simp [he.1,he.2]⟩
end Gate
end Go.Proofs.YtghnakljnhnenaaGreat
