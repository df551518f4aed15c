import Derived.Test.YtaickbhifenbjaaGreatM19
import Derived.Test.YtaickbhifenbjaaGreatM14
import Derived.ProofKit
set_option maxHeartbeats 4000000
namespace Go.Proofs.YtaickbhifenbjaaGreat
open Go.RowKit
set_option maxRecDepth 20000 in
theorem znA (l:Lw) (la lb lc:Option Addr) (lca lcb lcc:Nat) (b:Bk) (a0 a1 a2 a3:Option Addr) (c0 c1 c2 c3:Nat) (who:ByteArray) (x:Ac) (w:World) (hl:qp w l la lb lc) (hb:qA w b a0 a1 a2 a3) (hx:x.Small) (hg:b.gs.length<=1048576) :
 Calls Tryz.prog 22 #[.agg (l.cells la lb lc lca lcb lcc),.agg (b.cells a0 a1 a2 a3 c0 c1 c2 c3),.string who,.agg x.cells] w fun e w'=>e = .returned (.bool (Gate.zjv l b who x))/\Below w.heap.size w w':=by
 have HL:Hid (qp w l la lb lc):=hl
 have HK:Hid (qA w b a0 a1 a2 a3):=hb
 have HX:Hid x.Small:=hx
 clear hl hb hx
 unfold Lw.cells Bk.cells Ac.cells
 go_enter Tryz.func22,Tryz.ntmps22
 go_wp2_with fail
 obtain ⟨W0,hW0,hX0,hY0,hZ0,hz0,hB0⟩:=za1 w #[.slice la l.ss.length lca,.slice lb l.ms.length lcb,.slice lc l.ts.length lcc] #[.int .i64 b.now,.int .i64 b.tick,.int .i64 b.given,.slice a0 b.os.length c0,.slice a1 b.gs.length c1,.slice a2 b.ls.length c2,.slice a3 b.ps.length c3] #[.int .i64 x.vb,.string x.kd,.string x.tm,.string x.nm] 43 50 52
 rw [<- hW0]
 clear hW0
 refine (zkQ b _ _ _ _ _ _ _ _ who _ (HK.out.gs.mono hB0) hg).mono ?_
 rintro e w1 ⟨ra,rcap,rfl,hr,hb⟩
 have hX1:=za hX0 (by omega) hb
 have hZ1:=za hZ0 hz0 hb
 have hz1:=Nat.lt_of_lt_of_le hz0 hb.size
 have HB1:Hid (Below w.heap.size w w1):=hB0.trans (hb.mono hB0.size)
 have hln:=hr.len
 unfold maxLen at hln
 have HR:Hid (zeJ w1 ra (Gate.yc who b.gs)):=hr
 have HF:Hid (Gate.zjv l b who x=(Gate.yc who b.gs).any fun r=>Gate.qy l.ts r x):=rfl
 clear hb hX0 hY0 hZ0 hz0 hB0 hr
 obtain ⟨rs,hrs⟩:∃ rs,rs=Gate.yc who b.gs:=⟨_,rfl⟩
 rw [<- hrs] at HR HF hln ⊢
 clear hrs
 go_wp2_with fail
 go_loopw [10] (fun iv wr=>∃ k:Nat,k<=rs.length/\iv = .int .i64 k/\((rs.take k).any fun r=>Gate.qy l.ts r x)=false/\Below w1.heap.size w1 wr) (fun iv _=>rs.length - (intOf iv).toNat)
 case atStart=>exact ⟨0,Nat.zero_le _,rfl,rfl,Below.refl _ _⟩
 case round =>
  obtain ⟨k,hk,rfl,hno,hBr⟩:=hrel
  have HBr:Hid (Below w.heap.size w wr):=HB1.out.trans (hBr.mono HB1.out.size)
  have HBq:Hid (Below w1.heap.size w1 wr):=hBr
  have hX2:=za hX1 (by omega) hBr
  have hZ2:=za hZ1 hz1 hBr
  have hz2:=Nat.lt_of_lt_of_le hz1 hBr.size
  by_cases hlt:k < rs.length
  ·obtain ⟨rb,off,va,vcap,rfl,hrb,hsm,hI0,d0,d1,d2,d3⟩:=HR.out.load hBr k hlt
   have hltI:(k:Int) < (rs.length:Int):=by omega
   have HSm:Hid rs[k].Small:=hsm
   have HZ1:Hid (w.heap.size < wr.drew.heap.size):=by show w.heap.size < wr.heap.size;omega
   have HZ2:Hid (w.heap.size+1+1 < wr.drew.heap.size):=hz2
   have HZ3:Hid (rb < wr.drew.heap.size):=Nat.lt_of_lt_of_le hrb hBr.size
   clear hsm hX1 hZ1 hz1 hBr hrb
   by_cases he:Gate.qy l.ts rs[k] x=true
   ·have HA:Hid (Gate.zjv l b who x=true):=by unfold Hid;rw [HF.out];exact zkt _ rs k hlt he
    clear hno
    have HE:Hid (Gate.qy l.ts rs[k] x=true):=he
    clear he
    go_wp2_with fail
    have hX:=za hX2 (by omega) (Below.refl wr.heap.size wr).drew
    have hZ:=za hZ2 hz2 (Below.refl wr.heap.size wr).drew
    have e0:wr.drew.cell? ⟨rb,off+k * 4,none⟩=_:=d0
    have e1:wr.drew.cell? ⟨rb,off+k * 4+1,none⟩=_:=d1
    have e2:wr.drew.cell? ⟨rb,off+k * 4+2,none⟩=_:=d2
    have e3:wr.drew.cell? ⟨rb,off+k * 4+3,none⟩=_:=d3
    have hB:=HBr.out.drew
    have hI:=hI0.mono (Below.refl wr.heap.size wr).drew
    clear hX2 hZ2 d0 d1 d2 d3 hI0
    go_region_held3 (fun w'=>(∀ j,w'.cell? ⟨w.heap.size,j,none⟩=(#[.slice la l.ss.length lca,.slice lb l.ms.length lcb,.slice lc l.ts.length lcc]:Array Value)[j]?)/\(∀ j,w'.cell? ⟨w.heap.size+1+1,j,none⟩=(#[.int .i64 x.vb,.string x.kd,.string x.tm,.string x.nm]:Array Value)[j]?)/\w'.cell? ⟨rb,off+k * 4,none⟩=some (.slice va rs[k].vs.length vcap)/\w'.cell? ⟨rb,off+k * 4+1,none⟩=some (.string rs[k].kd)/\w'.cell? ⟨rb,off+k * 4+2,none⟩=some (.string rs[k].tm)/\w'.cell? ⟨rb,off+k * 4+3,none⟩=some (.string rs[k].px)) (exact ⟨hX,hZ,e0,e1,e2,e3⟩) (first
     | (go_at_call 52;refine (zf HE.out (zfA _ _ l.ts rs[k] _ _ x _ (by exact HL.out.ts.mono hB) HSm.out (by exact hI) HX.out)).mono ?_;rintro e w5 ⟨rfl,hb⟩;have hX:=za hX (by exact HZ1.out) hb;have hZ:=za hZ (by exact HZ2.out) hb;have e0:=(hb.cell (p:=⟨rb,off+k * 4,none⟩) (by exact HZ3.out)).trans e0;have e1:=(hb.cell (p:=⟨rb,off+k * 4+1,none⟩) (by exact HZ3.out)).trans e1;have e2:=(hb.cell (p:=⟨rb,off+k * 4+2,none⟩) (by exact HZ3.out)).trans e2;have e3:=(hb.cell (p:=⟨rb,off+k * 4+3,none⟩) (by exact HZ3.out)).trans e3;have HB5:Hid (Below wr.heap.size wr w5):=(Below.refl wr.heap.size wr).drew.trans (hb.mono (Nat.le_refl _));clear hb))
    go_wp2_with fail
    go_ret
    exact ⟨ze HA.out.symm,HBr.out.trans (HB5.out.mono HBr.out.size)⟩
   ·have HS:Hid (((rs.take (k+1)).any fun r=>Gate.qy l.ts r x)=false):=by unfold Hid;rw [zbH _ rs k hlt,hno];simpa using he
    clear hno
    have HE:Hid (Gate.qy l.ts rs[k] x=false):=by simpa [Hid] using he
    clear he
    go_wp2_with fail
    have hX:=za hX2 (by omega) (Below.refl wr.heap.size wr).drew
    have hZ:=za hZ2 hz2 (Below.refl wr.heap.size wr).drew
    have e0:wr.drew.cell? ⟨rb,off+k * 4,none⟩=_:=d0
    have e1:wr.drew.cell? ⟨rb,off+k * 4+1,none⟩=_:=d1
    have e2:wr.drew.cell? ⟨rb,off+k * 4+2,none⟩=_:=d2
    have e3:wr.drew.cell? ⟨rb,off+k * 4+3,none⟩=_:=d3
    have hB:=HBr.out.drew
    have hI:=hI0.mono (Below.refl wr.heap.size wr).drew
    clear hX2 hZ2 d0 d1 d2 d3 hI0
    go_region_held3 (fun w'=>(∀ j,w'.cell? ⟨w.heap.size,j,none⟩=(#[.slice la l.ss.length lca,.slice lb l.ms.length lcb,.slice lc l.ts.length lcc]:Array Value)[j]?)/\(∀ j,w'.cell? ⟨w.heap.size+1+1,j,none⟩=(#[.int .i64 x.vb,.string x.kd,.string x.tm,.string x.nm]:Array Value)[j]?)/\w'.cell? ⟨rb,off+k * 4,none⟩=some (.slice va rs[k].vs.length vcap)/\w'.cell? ⟨rb,off+k * 4+1,none⟩=some (.string rs[k].kd)/\w'.cell? ⟨rb,off+k * 4+2,none⟩=some (.string rs[k].tm)/\w'.cell? ⟨rb,off+k * 4+3,none⟩=some (.string rs[k].px)) (exact ⟨hX,hZ,e0,e1,e2,e3⟩) (first
     | (go_at_call 52;refine (zf HE.out (zfA _ _ l.ts rs[k] _ _ x _ (by exact HL.out.ts.mono hB) HSm.out (by exact hI) HX.out)).mono ?_;rintro e w5 ⟨rfl,hb⟩;have hX:=za hX (by exact HZ1.out) hb;have hZ:=za hZ (by exact HZ2.out) hb;have e0:=(hb.cell (p:=⟨rb,off+k * 4,none⟩) (by exact HZ3.out)).trans e0;have e1:=(hb.cell (p:=⟨rb,off+k * 4+1,none⟩) (by exact HZ3.out)).trans e1;have e2:=(hb.cell (p:=⟨rb,off+k * 4+2,none⟩) (by exact HZ3.out)).trans e2;have e3:=(hb.cell (p:=⟨rb,off+k * 4+3,none⟩) (by exact HZ3.out)).trans e3;have HB5:Hid (Below wr.heap.size wr w5):=(Below.refl wr.heap.size wr).drew.trans (hb.mono (Nat.le_refl _));clear hb))
    go_wp2_with fail
    exact ⟨⟨k+1,by omega,by go_num,HS.out,HBq.out.trans (HB5.out.mono HBq.out.size)⟩,by simp [intOf];omega⟩
  ·have HA:Hid (Gate.zjv l b who x=false):=by unfold Hid;rw [HF.out,<- hno,List.take_of_length_le (by omega)]
   clear hno hX1 hZ1
   go_wp2_with fail
   go_ret
   exact ⟨ze HA.out.symm,HBr.out⟩
namespace Gate
def zT (s:Shp) (ms:List Mnd) (p:Nat):List Int:=ms.flatMap fun m=>if turns m s p=true then (zK m).map (zP s.fs) else []
theorem zgP (s:Shp) (ms:List Mnd) (p k:Nat) (h:k < ms.length):zT s (ms.take (k+1)) p=zT s (ms.take k) p ++ if turns ms[k] s p=true then (zK ms[k]).map (zP s.fs) else []:=by
 unfold zT
 rw [List.take_succ_eq_append_getElem h,List.flatMap_append]
 simp
theorem zdI (m:Mnd):(zK m).length<=2:=List.length_filter_le _ _
theorem zgy (s:Shp) (p:Nat):∀ ms:List Mnd,(zT s ms p).length<=ms.length * 2
 | []=>Nat.le_refl _
 | m :: ms=>by
  have h1:=zgy s p ms
  have h2:=zdI m
  unfold zT at h1 ⊢
  rw [List.flatMap_cons,List.length_append,List.length_cons]
  by_cases h:turns m s p=true
  ·rw [if_pos h,List.length_map];omega
  ·rw [if_neg h,List.length_nil];omega
end Gate
theorem zmj {w:World} {lo lo':Nat} {e e':TypeId} {v v':Value} {n n':Nat} {xs xs':List Value} (h:w.ownsRow lo e 1 v n xs) (h':w.ownsRow lo' e' 1 v' n' xs') (he:e ≠ e'):∀ g,v.ownBlock=some g->∀ g',v'.ownBlock=some g'->g ≠ g':=by
 intro g hg g' hg' hgg
 subst hgg
 obtain ⟨_,⟨rfl,_⟩ | ⟨b,cap,cur,rfl,_,hh,_⟩⟩:=h
 ·cases hg
 ·obtain ⟨_,⟨rfl,_⟩ | ⟨b',cap',cur',rfl,_,hh',_⟩⟩:=h'
  ·cases hg'
  ·have e1:b=g:=Option.some.inj hg
   have e2:b'=g:=Option.some.inj hg'
   rw [e1] at hh
   rw [e2,hh] at hh'
   simp only [Option.some.injEq,Obj.cells.injEq] at hh'
   exact he hh'.2.1
theorem qF {w:World} {lo:Nat} {e:TypeId} {v:Value} {n:Nat} {xs:List Value} (h:w.ownsRow lo e 1 v n xs):∃ a cap,v = .slice a n cap:=by
 obtain ⟨_,⟨rfl,h0⟩ | ⟨b,cap,cur,rfl,_⟩⟩:=h
 ·exact ⟨none,0,by rw [h0]⟩
 ·exact ⟨_,cap,rfl⟩
def ints (l:List Int):List Value:=l.map (Value.int .i64)
set_option maxRecDepth 20000 in
theorem zlo (s:Shp) (ms:List Mnd) (p bm bs:Nat) (ma fa:Option Addr) (mcap fcap:Nat) (w:World) (hm:y7 w ma ms) (hf:zR w fa s.fs) (hp:p < s.fs.length) (hl:ms.length<=1048576)
 (hbs:bs < w.heap.size) (hcm:w.cell? ⟨bm,0,none⟩=some (.slice ma ms.length mcap)) (hcs:∀ j,w.cell? ⟨bs,j,none⟩=(#[.string s.kd,.slice fa s.fs.length fcap]:Array Value)[j]?) :
 Calls Tryz.prog 179 #[.int .i64 p,.pointer (some ⟨bm,0,none⟩),.pointer (some ⟨bs,0,none⟩)] w fun e w'=>∃ v,e = .returned v/\w'.ownsRow w.heap.size 3 1 v (Gate.zT s ms p).length (ints (Gate.zT s ms p))/\Below w.heap.size w w':=by
 obtain ⟨i0,hi,hz0,hz1',hz2⟩:=info_parts Tryz.zj8
 have HM:Hid (y7 w ma ms):=hm
 have HF:Hid (zR w fa s.fs):=hf
 clear hm hf
 go_enter Tryz.func179,Tryz.ntmps179
 go_wp2_with fail
 go_loopw [5,12] (fun v0 iv wr=>∃ (k:Nat) (v:Value),v=v0/\k<=ms.length/\iv = .int .i64 k/\wr.ownsRow w.heap.size 3 1 v (Gate.zT s (ms.take k) p).length (ints (Gate.zT s (ms.take k) p))/\Below w.heap.size w wr) (fun _ iv _=>ms.length - (intOf iv).toNat)
 case atStart=>exact ⟨0,_,rfl,Nat.zero_le _,rfl,World.ownsRow_nil _ _ _ _,Below.refl _ _⟩
 case round =>
  obtain ⟨k,v,hv,hk,rfl,hown,hB⟩:=hrel
  subst hv
  by_cases hlt:k < ms.length
  ·obtain ⟨b,off,rfl,hb,c0,c1,c2,c3,c4,c5⟩:=HM.out.load hB k hlt
   have hltI:(k:Int) < (ms.length:Int):=by omega
   have hbw:b < wr.heap.size:=Nat.lt_of_lt_of_le hb hB.size
   have hcsr:=za hcs hbs hB
   have hbsr:bs < wr.heap.size:=Nat.lt_of_lt_of_le hbs hB.size
   have HW:Hid (wr.ownsRow w.heap.size 3 1 v (Gate.zT s (ms.take k) p).length (ints (Gate.zT s (ms.take k) p))):=hown
   have HB:Hid (Below w.heap.size w wr):=hB
   clear hown hB
   go_wp2_with fail
   have hba:=(Below.refl wr.heap.size wr).alloc (Nat.le_refl _) (.cells #[.string ms[k].kd,.string ms[k].fd,.string ms[k].wh,.string ms[k].wi,.string ms[k].pt,.string ms[k].fr] 117)
   have ht:=zjM ms[k] s fa fcap p (wr.alloc (.cells #[.string ms[k].kd,.string ms[k].fd,.string ms[k].wh,.string ms[k].wi,.string ms[k].pt,.string ms[k].fr] 117)) (HF.out.mono (HB.out.trans (hba.mono HB.out.size))) hp
   by_cases htt:Gate.turns ms[k] s p=true
   ·have HS:Hid (Gate.zT s (ms.take (k+1)) p=Gate.zT s (ms.take k) p ++ (Gate.zK ms[k]).map (Gate.zP s.fs)):=by unfold Hid;rw [Gate.zgP s ms p k hlt,if_pos htt]
    rw [htt] at ht
    refine ht.mono ?_
    rintro e w1 ⟨rfl,hb1⟩
    have hX1:=za (zl wr _ _) (by simp) hb1
    have HB1:Hid (Below wr.heap.size wr w1):=hba.trans (hb1.mono hba.size)
    have hz1:wr.heap.size < w1.heap.size:=by have:=hb1.size;simp at this;omega
    have hcs1:=za hcsr hbsr HB1.out
    clear ht hba hb1 c0 c1 c2 c3 c4 c5
    go_wp2_with fail
    refine (zey ms[k] w1).mono ?_
    rintro e w2 ⟨nv,rfl,hn,hb2⟩
    obtain ⟨na,ncap,rfl⟩:=qF hn
    have HN2:Hid (w2.ownsRow w1.heap.size 9 1 (.slice na (Gate.zK ms[k]).length ncap) (Gate.zK ms[k]).length ((Gate.zK ms[k]).map Value.string)):=hn
    have HB2:Hid (Below wr.heap.size wr w2):=HB1.out.trans (hb2.mono HB1.out.size)
    have HW2:Hid (w2.ownsRow w.heap.size 3 1 v (Gate.zT s (ms.take k) p).length (ints (Gate.zT s (ms.take k) p))):=qP HW.out HB2.out
    have HNL:Hid ((Gate.zK ms[k]).length<=2):=Gate.zdI _
    have HRL:Hid ((Gate.zT s (ms.take k) p).length<=2097152):=by have h1:=Gate.zgy s p (ms.take k);rw [List.length_take] at h1;show _<=_;omega
    have hcs2:=za hcs1 (Nat.lt_trans hbsr hz1) hb2
    clear hn hb2 hX1 hcs1 hcsr
    revert HS HN2 HNL
    generalize Gate.zK ms[k]=names
    intro HS HN2 HNL
    go_wp2_with fail
    have hszw:wr.heap.size<=w2.heap.size:=HB2.out.size
    go_loopw [5,24] (fun v0 iv wq=>∃ (j:Nat) (v1:Value),v1=v0/\j<=names.length/\iv = .int .i64 j/\wq.ownsRow w.heap.size 3 1 v1 ((Gate.zT s (ms.take k) p) ++ (names.take j).map (Gate.zP s.fs)).length (ints ((Gate.zT s (ms.take k) p) ++ (names.take j).map (Gate.zP s.fs)))/\wq.ownsRow w1.heap.size 9 1 (.slice na names.length ncap) names.length (names.map Value.string)/\Below w.heap.size w wq) (fun _ iv _=>names.length - (intOf iv).toNat)
    case atStart=>exact ⟨0,_,rfl,Nat.zero_le _,rfl,by simpa using HW2.out,HN2.out,HB.out.trans (HB2.out.mono HB.out.size)⟩
    case round =>
     obtain ⟨j,v1,hv1,hj,rfl,hown,hnames,hB⟩:=hrel
     subst hv1
     by_cases hjl:j < names.length
     ·obtain ⟨g,rfl,hcell⟩:∃ g,na=some ⟨g,0,none⟩/\wr.cell? ⟨g,j,none⟩=some (.string names[j]):=by
       obtain ⟨_,⟨h0,h1⟩ | ⟨g,cap,cur,h0,h1⟩⟩:=id hnames
       ·rw [h1] at hjl;exact absurd hjl (by omega)
       ·cases h0
        refine ⟨g,rfl,?_⟩
        rw [hnames.cellAt j (by omega)]
        simp [hjl]
      have hjI:(j:Int) < (names.length:Int):=by omega
      have hcsr:=za hcs hbs hB
      have hbsr':bs < wr.heap.size:=Nat.lt_of_lt_of_le hbs hB.size
      have HX:Hid (wr.ownsRow w.heap.size 3 1 v1 ((Gate.zT s (ms.take k) p) ++ (names.take j).map (Gate.zP s.fs)).length (ints ((Gate.zT s (ms.take k) p) ++ (names.take j).map (Gate.zP s.fs)))/\wr.ownsRow w1.heap.size 9 1 (.slice (some ⟨g,0,none⟩) names.length ncap) names.length (names.map Value.string)/\Below w.heap.size w wr):=⟨hown,hnames,hB⟩
      have HTK:Hid ((names.take (j+1)).map (Gate.zP s.fs)=(names.take j).map (Gate.zP s.fs) ++ [Gate.zP s.fs names[j]]):=by unfold Hid;rw [List.take_succ_eq_append_getElem hjl,List.map_append];rfl
      have HLL:Hid (((Gate.zT s (ms.take k) p) ++ (names.take j).map (Gate.zP s.fs)).length<=2097156):=by have h1:=HRL.out;have h2:=HNL.out;show _<=_;rw [List.length_append,List.length_map,List.length_take];omega
      clear hown hnames hB
      go_wp2_with fail
      refine (jk fa fcap s.fs names[j] wr (HF.out.mono HX.out.2.2)).mono ?_
      rintro e w3 ⟨rfl,hb3⟩
      have HB3:Hid (Below wr.heap.size wr w3):=hb3
      have HX3:Hid (w3.ownsRow w.heap.size 3 1 v1 ((Gate.zT s (ms.take k) p) ++ (names.take j).map (Gate.zP s.fs)).length (ints ((Gate.zT s (ms.take k) p) ++ (names.take j).map (Gate.zP s.fs)))/\w3.ownsRow w1.heap.size 9 1 (.slice (some ⟨g,0,none⟩) names.length ncap) names.length (names.map Value.string)/\Below w.heap.size w w3):=⟨qP HX.out.1 hb3,qP HX.out.2.1 hb3,HX.out.2.2.trans (hb3.mono HX.out.2.2.size)⟩
      clear hb3 hcell hcsr
      go_wp2_with (at_builtin;refine wpList_append_own _ rfl (.tmp 28) (.tmp 33) 95 rfl w.heap.size 3 i0 (.int .i64 0) 1 8 Tryz.underlying95 hi hz0 hz1' hz2 rfl (by decide) _ _ _ rfl (HX3.out.1.alloc _) ⟨w3.heap.size,0,none⟩ 1 1 [.int .i64 (Gate.zP s.fs names[j])] rfl rfl (zej _ _ _) (by intro u hu;simp at hu;subst hu;rfl) (by have:=HLL.out;unfold maxLen;omega) (by have:=HLL.out;omega) (by have:=HX3.out.2.2.size;simp;omega) ?_;intro v' w4 hown' hgr _)
      have hgb:∀ g',v1.ownBlock=some g'->w.heap.size<=g':=fun g' hg'=>(HX3.out.1.lt g' hg').1
      have hap:=zmj HX3.out.1 HX3.out.2.1 (by decide)
      refine ⟨⟨j+1,_,rfl,by omega,by rw [wrap_one (by have:=HNL.out;omega)],?_,?_,zcx HX3.out.2.2 HX3.out.2.2.size hgr hgb⟩,zer hjl (by have:=HNL.out;omega)⟩
      ·rw [HTK.out,<- List.append_assoc,List.length_append]
       have e1:ints ((Gate.zT s (ms.take k) p ++ (names.take j).map (Gate.zP s.fs)) ++ [Gate.zP s.fs names[j]])=ints (Gate.zT s (ms.take k) p ++ (names.take j).map (Gate.zP s.fs)) ++ [.int .i64 (Gate.zP s.fs names[j])]:=by simp [ints]
       rw [e1]
       exact hown'
      ·refine zaH HX3.out.2.1 (fun g' hg'=>?_)
       rw [zay hgr (by have:=(HX3.out.2.1.lt g' hg').2;simp;omega) (fun q hq=>fun e=>hap q hq g' hg' e.symm),Below.heap_alloc _ _ _ (HX3.out.2.1.lt g' hg').2]
     ·have e:j=names.length:=by omega
      subst e
      rw [List.take_of_length_le (Nat.le_refl _),<- HS.out] at hown
      have HX:Hid (wr.ownsRow w.heap.size 3 1 v1 (Gate.zT s (ms.take (k+1)) p).length (ints (Gate.zT s (ms.take (k+1)) p))/\Below w.heap.size w wr):=⟨hown,hB⟩
      clear hown hnames hB
      go_wp2_with fail
      exact ⟨⟨k+1,_,rfl,by omega,by go_num,HX.out.1,HX.out.2⟩,zw hlt⟩
   ·have htf:Gate.turns ms[k] s p=false:=by simpa using htt
    have HS:Hid (Gate.zT s (ms.take (k+1)) p=Gate.zT s (ms.take k) p):=by unfold Hid;rw [Gate.zgP s ms p k hlt,if_neg htt];simp
    rw [htf] at ht
    refine ht.mono ?_
    rintro e w1 ⟨rfl,hb1⟩
    have HB1:Hid (Below wr.heap.size wr w1):=hba.trans (hb1.mono hba.size)
    clear ht hba hb1
    go_wp2_with fail
    exact ⟨⟨k+1,_,rfl,by omega,by go_num,by rw [HS.out];exact qP HW.out HB1.out,HB.out.trans (HB1.out.mono HB.out.size)⟩,zw hlt⟩
  ·have e:k=ms.length:=by omega
   subst e
   rw [List.take_of_length_le (Nat.le_refl _)] at hown
   have HW:Hid (wr.ownsRow w.heap.size 3 1 v (Gate.zT s ms p).length (ints (Gate.zT s ms p))/\Below w.heap.size w wr):=⟨hown,hB⟩
   clear hown hB
   go_wp2_with fail
   go_ret
   exact ⟨v,rfl,HW.out⟩
end Go.Proofs.YtaickbhifenbjaaGreat
namespace Go.Proofs.YtaickbhifenbjaaGreat.Gate
structure Far where
 far:Nat->Option Bool
 row:List Nat
def Far.under (s:Far) (p:Nat):Far:=⟨fun q=>if q=p then some false else s.far q,s.row⟩
def Far.behind (s:Far) (p:Nat):Far:=⟨fun q=>if q=p then some true else s.far q,s.row ++ [p]⟩
def zo (d:Nat->Far->Bool × Far):List Nat->Far->Bool × Far
 | [],s=>(true,s)
 | q :: qs,s=>if (d q s).1 then zo d qs (d q s).2 else (false,(d q s).2)
def down (rd:Nat->List Nat):Nat->Nat->Far->Bool × Far
 | 0,_,s=>(false,s)
 | f+1,p,s =>
  match s.far p with
  | some b=>(b,s)
  | none =>
   if (zo (down rd f) (rd p) (s.under p)).1 then (true,(zo (down rd f) (rd p) (s.under p)).2.behind p)
   else (false,(zo (down rd f) (rd p) (s.under p)).2)
def jg:Far:=⟨fun _=>none,[]⟩
def zI (rd:Nat->List Nat) (n:Nat):Bool × Far:=zo (down rd (n+1)) (List.range n) jg
def open' (n:Nat) (s:Far):Nat:=((List.range n).filter fun q=>(s.far q).isNone).length
structure zg5 (s t:Far):Prop where
 met:∀ q,(s.far q).isSome->t.far q=s.far q
 only:∀ q,t.far q=some false->s.far q=some false
theorem zg5.refl (s:Far):zg5 s s:=⟨fun _ _=>rfl,fun _ h=>h⟩
theorem zg5.trans {s t u:Far} (h:zg5 s t) (k:zg5 t u):zg5 s u :=
 ⟨fun q hq=>by rw [k.met q (by rw [h.met q hq];exact hq),h.met q hq],fun q hq=>h.only q (k.only q hq)⟩
theorem zeU {n p:Nat} {s:Far} (hp:p < n) (hn:s.far p=none):open' n (s.under p) < open' n s:=by
 unfold open'
 have hsub:∀ q,((s.under p).far q).isNone=true->(s.far q).isNone=true:=by
  intro q hq
  unfold Far.under at hq
  simp only at hq
  by_cases h:q=p
  ·rw [if_pos h] at hq;simp at hq
  ·rwa [if_neg h] at hq
 have key:∀ l:List Nat,p ∈ l->(l.filter fun q=>((s.under p).far q).isNone).length < (l.filter fun q=>(s.far q).isNone).length:=by
  intro l
  induction l with
  | nil=>intro h;cases h
  | cons a l ih =>
   intro h
   have hle:(l.filter fun q=>((s.under p).far q).isNone).length<=(l.filter fun q=>(s.far q).isNone).length:=by
    clear ih h
    induction l with
    | nil=>exact Nat.le_refl _
    | cons b l ih =>
     by_cases hb:((s.under p).far b).isNone=true
     ·rw [List.filter_cons_of_pos (by simpa using hb),List.filter_cons_of_pos (by simpa using hsub b hb)]
      simp only [List.length_cons];omega
     ·rw [List.filter_cons_of_neg (by simpa using hb)]
      by_cases hb2:(s.far b).isNone=true
      ·rw [List.filter_cons_of_pos (by simpa using hb2)];simp only [List.length_cons];omega
      ·rw [List.filter_cons_of_neg (by simpa using hb2)];exact ih
   by_cases hap:a=p
   ·subst hap
    rw [List.filter_cons_of_neg (by simp [Far.under]),List.filter_cons_of_pos (by simp [hn])]
    simp only [List.length_cons];omega
   ·have hm:p ∈ l:=by
     rcases List.mem_cons.1 h with h' | h'
     ·exact absurd h'.symm hap
     ·exact h'
    have:=ih hm
    by_cases hb:((s.under p).far a).isNone=true
    ·rw [List.filter_cons_of_pos (by simpa using hb),List.filter_cons_of_pos (by simpa using hsub a hb)]
     simp only [List.length_cons];omega
    ·rw [List.filter_cons_of_neg (by simpa using hb)]
     by_cases hb2:(s.far a).isNone=true
     ·rw [List.filter_cons_of_pos (by simpa using hb2)];simp only [List.length_cons];omega
     ·rw [List.filter_cons_of_neg (by simpa using hb2)];exact this
 exact key _ (List.mem_range.2 hp)
theorem zjC {n:Nat} {s t:Far} (h:∀ q,(s.far q).isSome->(t.far q).isSome):open' n t<=open' n s:=by
 unfold open'
 generalize List.range n=l
 induction l with
 | nil=>exact Nat.le_refl _
 | cons b l ih =>
  by_cases hb:(t.far b).isNone=true
  ·have hs:(s.far b).isNone=true:=by
    rcases hsb:s.far b with _ | v
    ·rfl
    ·have:=h b (by rw [hsb];rfl)
     rw [Option.isNone_iff_eq_none] at hb;rw [hb] at this;cases this
   rw [List.filter_cons_of_pos (by simpa using hb),List.filter_cons_of_pos (by simpa using hs)]
   simp only [List.length_cons];omega
  ·rw [List.filter_cons_of_neg (by simpa using hb)]
   by_cases hb2:(s.far b).isNone=true
   ·rw [List.filter_cons_of_pos (by simpa using hb2)];simp only [List.length_cons];omega
   ·rw [List.filter_cons_of_neg (by simpa using hb2)];exact ih
theorem zkV (rd:Nat->List Nat):∀ f p s q,(s.far q).isSome->((down rd f p s).2.far q).isSome:=by
 intro f
 induction f with
 | zero=>intro p s q h;exact h
 | succ f ih =>
  intro p s q h
  unfold down
  rcases hp:s.far p with _ | b
  ·simp only
   have hl:∀ (l:List Nat) (t:Far),(t.far q).isSome->((zo (down rd f) l t).2.far q).isSome:=by
    intro l
    induction l with
    | nil=>intro t ht;exact ht
    | cons a l il =>
     intro t ht
     unfold zo
     split
     ·exact il _ (ih _ _ _ ht)
     ·exact ih _ _ _ ht
   have h1:((s.under p).far q).isSome:=by
    unfold Far.under;simp only
    split
    ·rfl
    ·exact h
   split
   ·unfold Far.behind;simp only
    split
    ·rfl
    ·exact hl _ _ h1
   ·exact hl _ _ h1
  ·exact h
theorem zjV (rd:Nat->List Nat) (f:Nat) (q:Nat):∀ (l:List Nat) (t:Far),(t.far q).isSome->((zo (down rd f) l t).2.far q).isSome:=by
 intro l
 induction l with
 | nil=>intro t ht;exact ht
 | cons a l il =>
  intro t ht
  unfold zo
  split
  ·exact il _ (zkV _ _ _ _ _ ht)
  ·exact zkV _ _ _ _ _ ht
structure zc7 (rd:Nat->List Nat) (s:Far):Prop where
 mem:∀ q,q ∈ s.row ↔ s.far q=some true
 nodup:s.row.Nodup
 ahead:∀ i (h:i < s.row.length),∀ q ∈ rd (s.row[i]),∃ j,∃ hj:j < i,s.row[j]'(by omega)=q
theorem zc7.under {rd:Nat->List Nat} {s:Far} (h:zc7 rd s) {p:Nat} (hp:s.far p=none):zc7 rd (s.under p):=by
 refine ⟨fun q=>?_,h.nodup,h.ahead⟩
 unfold Far.under;simp only
 by_cases hq:q=p
 ·rw [if_pos hq];subst hq
  constructor
  ·intro hm;rw [h.mem,hp] at hm;cases hm
  ·intro hm;cases hm
 ·rw [if_neg hq];exact h.mem q
theorem zc7.behind {rd:Nat->List Nat} {s:Far} (h:zc7 rd s) {p:Nat} (hp:s.far p=some false) (hr:∀ q ∈ rd p,s.far q=some true):zc7 rd (s.behind p):=by
 have hnm:p ∉ s.row:=fun hm=>by rw [h.mem,hp] at hm;cases hm
 refine ⟨fun q=>?_,?_,fun i hi q hq=>?_⟩
 ·unfold Far.behind;simp only [List.mem_append,List.mem_singleton]
  by_cases hq:q=p
  ·simp [hq]
  ·rw [if_neg hq,h.mem];simp [hq]
 ·unfold Far.behind;simp only
  rw [List.nodup_append]
  exact ⟨h.nodup,by simp,fun a ha b hb=>by rw [List.mem_singleton] at hb;subst hb;exact fun e=>hnm (e ▸ ha)⟩
 ·have hlen:(s.behind p).row.length=s.row.length+1:=by simp [Far.behind]
  rcases Nat.lt_or_ge i s.row.length with hlt | hge
  ·have e:(s.behind p).row[i]=s.row[i]:=by simp [Far.behind,List.getElem_append_left hlt]
   rw [e] at hq
   obtain ⟨j,hj,hjq⟩:=h.ahead i hlt q hq
   refine ⟨j,hj,?_⟩
   rw [<- hjq];simp only [Far.behind];rw [List.getElem_append_left (by omega)]
  ·have ei:i=s.row.length:=by omega
   subst ei
   have e:(s.behind p).row[s.row.length]=p:=by simp [Far.behind]
   rw [e] at hq
   have hm:=(h.mem q).2 (hr q hq)
   obtain ⟨j,hj,hjq⟩:=List.mem_iff_getElem.1 hm
   refine ⟨j,hj,?_⟩
   rw [<- hjq];simp only [Far.behind];rw [List.getElem_append_left hj]
theorem znr (rd:Nat->List Nat):∀ f p s,zc7 rd s->(down rd f p s).1=true->zc7 rd (down rd f p s).2/\zg5 s (down rd f p s).2/\(down rd f p s).2.far p=some true:=by
 intro f
 induction f with
 | zero=>intro p s _ h;cases h
 | succ f ih =>
  have hl:∀ (l:List Nat) (t:Far),zc7 rd t->(zo (down rd f) l t).1=true->zc7 rd (zo (down rd f) l t).2/\zg5 t (zo (down rd f) l t).2/\∀ q ∈ l,(zo (down rd f) l t).2.far q=some true:=by
   intro l
   induction l with
   | nil=>intro t ht _;exact ⟨ht,zg5.refl _,fun q hq=>by cases hq⟩
   | cons a l il =>
    intro t ht h
    unfold zo at h ⊢
    by_cases ha:(down rd f a t).1=true
    ·rw [if_pos ha] at h ⊢
     obtain ⟨r1,g1,f1⟩:=ih a t ht ha
     obtain ⟨r2,g2,f2⟩:=il _ r1 h
     refine ⟨r2,g1.trans g2,fun q hq=>?_⟩
     rcases List.mem_cons.1 hq with rfl | hq
     ·rw [g2.met _ (by rw [f1];rfl),f1]
     ·exact f2 q hq
    ·rw [if_neg ha] at h;cases h
  intro p s hs h
  unfold down at h ⊢
  rcases hp:s.far p with _ | b
  ·rw [hp] at h
   simp only at h ⊢
   by_cases hc:(zo (down rd f) (rd p) (s.under p)).1=true
   ·rw [if_pos hc]
    obtain ⟨r1,g1,f1⟩:=hl _ _ (hs.under hp) hc
    have hpu:(s.under p).far p=some false:=by simp [Far.under]
    have hp1:(zo (down rd f) (rd p) (s.under p)).2.far p=some false:=by rw [g1.met p (by rw [hpu];rfl),hpu]
    refine ⟨r1.behind hp1 f1,⟨fun q hq=>?_,fun q hq=>?_⟩,by simp [Far.behind]⟩
    ·have hqp:q ≠ p:=by rintro rfl;rw [hp] at hq;cases hq
     have h1:(s.under p).far q=s.far q:=by simp [Far.under,hqp]
     simp only [Far.behind,if_neg hqp]
     rw [g1.met q (by rw [h1];exact hq),h1]
    ·simp only [Far.behind] at hq
     by_cases hqp:q=p
     ·rw [if_pos hqp] at hq;cases hq
     ·rw [if_neg hqp] at hq
      have:=g1.only q hq
      simpa [Far.under,hqp] using this
   ·rw [if_neg hc] at h;cases h
  ·rw [hp] at h
   simp only at h ⊢
   subst h
   exact ⟨hs,zg5.refl _,hp⟩
theorem zjn (rd:Nat->List Nat) (f:Nat):∀ (l:List Nat) (t:Far),zc7 rd t->(zo (down rd f) l t).1=true->zc7 rd (zo (down rd f) l t).2/\zg5 t (zo (down rd f) l t).2/\∀ q ∈ l,(zo (down rd f) l t).2.far q=some true:=by
 intro l
 induction l with
 | nil=>intro t ht _;exact ⟨ht,zg5.refl _,fun q hq=>by cases hq⟩
 | cons a l il =>
  intro t ht h
  unfold zo at h ⊢
  by_cases ha:(down rd f a t).1=true
  ·rw [if_pos ha] at h ⊢
   obtain ⟨r1,g1,f1⟩:=znr rd f a t ht ha
   obtain ⟨r2,g2,f2⟩:=il _ r1 h
   refine ⟨r2,g1.trans g2,fun q hq=>?_⟩
   rcases List.mem_cons.1 hq with rfl | hq
   ·rw [g2.met _ (by rw [f1];rfl),f1]
   ·exact f2 q hq
  ·rw [if_neg ha] at h;cases h
def ziq (rd:Nat->List Nat) (n:Nat) (rk:Nat->Nat):Prop:=(∀ p,p < n->rk p < n)/\∀ p,p < n->∀ q ∈ rd p,q < n/\rk q < rk p
theorem zkS {rd:Nat->List Nat} {n:Nat} {rk:Nat->Nat} (hr:ziq rd n rk):∀ f p s,p < n->rk p < f->(∀ q,s.far q=some false->rk p < rk q) ->
 (down rd f p s).1=true/\∀ q,(down rd f p s).2.far q=some false->s.far q=some false:=by
 intro f
 induction f with
 | zero=>intro p s _ h;omega
 | succ f ih =>
  intro p s hp hf hu
  have hl:∀ (l:List Nat) (t:Far),(∀ q ∈ l,q < n/\rk q < f)->(∀ a ∈ l,∀ q,t.far q=some false->rk a < rk q) ->
   (zo (down rd f) l t).1=true/\∀ q,(zo (down rd f) l t).2.far q=some false->t.far q=some false:=by
   intro l
   induction l with
   | nil=>intro t _ _;exact ⟨rfl,fun q h=>h⟩
   | cons a l il =>
    intro t h1 h2
    obtain ⟨ha1,ha2⟩:=h1 a (by simp)
    obtain ⟨hd,hk⟩:=ih a t ha1 ha2 (h2 a (by simp))
    unfold zo
    rw [if_pos hd]
    obtain ⟨he,hm⟩:=il _ (fun q hq=>h1 q (by simp [hq])) (fun b hb q hq=>h2 b (by simp [hb]) q (hk q hq))
    exact ⟨he,fun q hq=>hk q (hm q hq)⟩
  unfold down
  rcases hfp:s.far p with _ | b
  ·simp only
   have hsmall:=hr.2 p hp
   obtain ⟨hc,hm⟩:=hl (rd p) (s.under p) (fun q hq=>⟨(hsmall q hq).1,by have:=(hsmall q hq).2;omega⟩) (fun a ha q hq=>by
    have h1:=(hsmall a ha).2
    simp only [Far.under] at hq
    by_cases hqp:q=p
    ·subst hqp;exact h1
    ·rw [if_neg hqp] at hq;have:=hu q hq;omega)
   rw [if_pos hc]
   refine ⟨rfl,fun q hq=>?_⟩
   simp only [Far.behind] at hq
   by_cases hqp:q=p
   ·rw [if_pos hqp] at hq;cases hq
   ·rw [if_neg hqp] at hq
    have:=hm q hq
    simpa [Far.under,hqp] using this
  ·simp only
   cases b with
   | true=>exact ⟨rfl,fun q h=>h⟩
   | false=>exact absurd (hu p hfp) (by omega)
theorem zia {rd:Nat->List Nat} {n:Nat} {rk:Nat->Nat} (hr:ziq rd n rk):(zI rd n).1=true:=by
 unfold zI
 have key:∀ (l:List Nat) (t:Far),(∀ q ∈ l,q < n)->(∀ q,t.far q ≠ some false)->(zo (down rd (n+1)) l t).1=true:=by
  intro l
  induction l with
  | nil=>intro t _ _;rfl
  | cons a l il =>
   intro t h1 h2
   have ha:=h1 a (by simp)
   obtain ⟨hd,hk⟩:=zkS hr (n+1) a t ha (by have:=hr.1 a ha;omega) (fun q hq=>absurd hq (h2 q))
   unfold zo
   rw [if_pos hd]
   exact il _ (fun q hq=>h1 q (by simp [hq])) (fun q hq=>h2 q (hk q hq))
 exact key _ _ (fun q hq=>List.mem_range.1 hq) (fun q h=>by cases h)
theorem zlM (rd:Nat->List Nat):zc7 rd jg:=⟨fun q=>by simp [jg],by simp [jg],fun i h=>by simp [jg] at h⟩
end Go.Proofs.YtaickbhifenbjaaGreat.Gate
namespace Go.Proofs.YtaickbhifenbjaaGreat.Gate
structure ziZ (rd:Nat->List Nat) (n:Nat) (row:List Nat):Prop where
 nodup:row.Nodup
 mem:∀ q,q ∈ row ↔ q < n
 ahead:∀ r1 p r2,row=r1 ++ p :: r2->∀ q ∈ rd p,q ∈ r1
theorem zbo {α:Type} [DecidableEq α]:∀ (l m:List α),l.Nodup->(∀ x ∈ l,x ∈ m)->l.length<=m.length:=by
 intro l
 induction l with
 | nil=>intro m _ _;exact Nat.zero_le _
 | cons a l ih =>
  intro m hn hm
  rw [List.nodup_cons] at hn
  have ha:=hm a (by simp)
  have h1:=ih (m.erase a) hn.2 (fun x hx=>by
   have hne:x ≠ a:=by rintro rfl;exact hn.1 hx
   exact (List.mem_erase_of_ne hne).2 (hm x (by simp [hx])))
  rw [List.length_erase_of_mem ha] at h1
  have:0 < m.length:=List.length_pos_of_mem ha
  simp only [List.length_cons];omega
theorem zos {n:Nat} {l:List Nat} (hn:l.Nodup) (hm:∀ x ∈ l,x < n) (hl:l.length=n) (q:Nat) (hq:q < n):q ∈ l:=by
 by_cases h:q ∈ l
 ·exact h
 ·exfalso
  have:=zbo (q :: l) (List.range n) (List.nodup_cons.2 ⟨h,hn⟩) (fun x hx=>by
   rcases List.mem_cons.1 hx with rfl | hx
   ·exact List.mem_range.2 hq
   ·exact List.mem_range.2 (hm x hx))
  simp only [List.length_cons,List.length_range] at this
  omega
theorem zhj {r1 r2:List Nat} {p q:Nat} (hq:q ∈ r1) (hp:p ∉ r1):(r1 ++ p :: r2).idxOf q < (r1 ++ p :: r2).idxOf p:=by
 have h1:∀ (l:List Nat),q ∈ l->(l ++ p :: r2).idxOf q < l.length:=by
  intro l
  induction l with
  | nil=>intro h;cases h
  | cons a l ih =>
   intro h
   by_cases ha:a=q
   ·subst ha;simp
   ·have hm:q ∈ l:=by
     rcases List.mem_cons.1 h with h' | h'
     ·exact absurd h'.symm ha
     ·exact h'
    have:=ih hm
    rw [List.cons_append,List.idxOf_cons,List.length_cons,beq_false_of_ne ha,cond_false];omega
 have h2:∀ (l:List Nat),p ∉ l->l.length<=(l ++ p :: r2).idxOf p:=by
  intro l
  induction l with
  | nil=>intro _;exact Nat.zero_le _
  | cons a l ih =>
   intro h
   rw [List.mem_cons] at h
   have:=ih (fun hm=>h (Or.inr hm))
   rw [List.cons_append,List.idxOf_cons,List.length_cons,beq_false_of_ne (fun e=>h (Or.inl (Eq.symm e))),cond_false];omega
 exact Nat.lt_of_lt_of_le (h1 r1 hq) (h2 r1 hp)
theorem ziZ.zj4 {rd:Nat->List Nat} {n:Nat} {row:List Nat} (h:ziZ rd n row):ziq rd n (fun p=>row.idxOf p):=by
 have hlen:row.length<=n:=by
  have:=zbo row (List.range n) h.nodup (fun x hx=>List.mem_range.2 ((h.mem x).1 hx))
  simpa using this
 refine ⟨fun p hp=>Nat.lt_of_lt_of_le (List.idxOf_lt_length_of_mem ((h.mem p).2 hp)) hlen,fun p hp q hq=>?_⟩
 have hpm:=(h.mem p).2 hp
 obtain ⟨r1,r2,e⟩:=List.append_of_mem hpm
 have hq1:=h.ahead r1 p r2 e q hq
 have hnd:=h.nodup
 rw [e] at hnd
 have hp1:p ∉ r1:=by
  intro hm
  rw [List.nodup_append] at hnd
  exact hnd.2.2 p hm p (by simp) rfl
 refine ⟨(h.mem q).1 (by rw [e];simp [hq1]),?_⟩
 simp only [e]
 exact zhj hq1 hp1
theorem zdA {rd:Nat->List Nat} {n:Nat} (hrd:∀ p,p < n->∀ q ∈ rd p,q < n) (h:(zI rd n).1=true):ziZ rd n (zI rd n).2.row:=by
 have hfar:∀ q,((zI rd n).2.far q).isSome->q < n:=by
  have hd:∀ f p s,p < n->(∀ q,(s.far q).isSome->q < n)->∀ q,((down rd f p s).2.far q).isSome->q < n:=by
   intro f
   induction f with
   | zero=>intro p s _ hs q hq;exact hs q hq
   | succ f ih =>
    intro p s hp hs q hq
    have hl:∀ (l:List Nat) (t:Far),(∀ a ∈ l,a < n)->(∀ q,(t.far q).isSome->q < n)->∀ q,((zo (down rd f) l t).2.far q).isSome->q < n:=by
     intro l
     induction l with
     | nil=>intro t _ ht q hq;exact ht q hq
     | cons a l il =>
      intro t ha ht q hq
      unfold zo at hq
      have h1:=ih a t (ha a (by simp)) ht
      split at hq
      ·exact il _ (fun b hb=>ha b (by simp [hb])) h1 q hq
      ·exact h1 q hq
    have hu:∀ q,((s.under p).far q).isSome->q < n:=by
     intro q hq
     by_cases hqp:q=p
     ·omega
     ·simp only [Far.under,if_neg hqp] at hq;exact hs q hq
    unfold down at hq
    rcases hfp:s.far p with _ | b
    ·rw [hfp] at hq
     simp only at hq
     split at hq
     ·by_cases hqp:q=p
      ·omega
      ·simp only [Far.behind,if_neg hqp] at hq
       exact hl _ _ (hrd p hp) hu q hq
     ·exact hl _ _ (hrd p hp) hu q hq
    ·rw [hfp] at hq;exact hs q hq
  have hl:∀ (l:List Nat) (t:Far),(∀ a ∈ l,a < n)->(∀ q,(t.far q).isSome->q < n)->∀ q,((zo (down rd (n+1)) l t).2.far q).isSome->q < n:=by
   intro l
   induction l with
   | nil=>intro t _ ht q hq;exact ht q hq
   | cons a l il =>
    intro t ha ht q hq
    unfold zo at hq
    have h1:=hd (n+1) a t (ha a (by simp)) ht
    split at hq
    ·exact il _ (fun b hb=>ha b (by simp [hb])) h1 q hq
    ·exact h1 q hq
  exact hl _ _ (fun a ha=>List.mem_range.1 ha) (fun q hq=>by cases hq)
 obtain ⟨r,_,hall⟩:=zjn rd (n+1) (List.range n) jg (zlM rd) h
 refine ⟨r.nodup,fun q=>⟨fun hq=>hfar q (by have h2:=(r.mem q).1 hq;unfold zI;rw [h2];rfl),fun hq=>(r.mem q).2 (hall q (List.mem_range.2 hq))⟩,fun r1 p r2 e q hq=>?_⟩
 have e':(zo (down rd (n+1)) (List.range n) jg).2.row=r1 ++ p :: r2:=e
 have hi:r1.length < (zo (down rd (n+1)) (List.range n) jg).2.row.length:=by rw [e'];simp
 have hx:(zo (down rd (n+1)) (List.range n) jg).2.row[r1.length]=p:=by
  have:(zo (down rd (n+1)) (List.range n) jg).2.row[r1.length]?=some p:=by rw [e'];simp
  rw [List.getElem?_eq_getElem hi] at this;exact Option.some.inj this
 obtain ⟨j,hj,hjq⟩:=r.ahead r1.length hi q (by rw [hx];exact hq)
 have:(zo (down rd (n+1)) (List.range n) jg).2.row[j]?=some q:=by rw [List.getElem?_eq_getElem (by omega),hjq]
 rw [e',List.getElem?_append_left hj] at this
 exact List.mem_of_getElem? this
def ready (rd:Nat->List Nat) (row:List Nat) (i:Nat):Bool:=!decide (i ∈ row) && (rd i).all fun q=>decide (q ∈ row)
def pick (rd:Nat->List Nat) (n:Nat) (row:List Nat):Option Nat:=(List.range n).find? (ready rd row)
def more (rd:Nat->List Nat) (n:Nat) (row:List Nat):List Nat:=match pick rd n row with | none=>row | some i=>row ++ [i]
def greedy (rd:Nat->List Nat) (n:Nat):Nat->List Nat
 | 0=>[]
 | k+1=>more rd n (greedy rd n k)
structure Part (rd:Nat->List Nat) (n:Nat) (row:List Nat):Prop where
 nodup:row.Nodup
 mem:∀ q ∈ row,q < n
 ahead:∀ r1 p r2,row=r1 ++ p :: r2->∀ q ∈ rd p,q ∈ r1
theorem zgq {rd:Nat->List Nat} {row:List Nat} {i:Nat}:ready rd row i=true ↔ i ∉ row/\∀ q ∈ rd i,q ∈ row:=by
 unfold ready;simp
theorem zma {r1 r2 row:List Nat} {p i:Nat} (e:row ++ [i]=r1 ++ p :: r2):(r2=[]/\p=i/\r1=row) \/ ∃ r3,r2=r3 ++ [i]/\row=r1 ++ p :: r3:=by
 rcases List.eq_nil_or_concat r2 with rfl | ⟨r3,b,rfl⟩
 ·left
  have h2:=List.append_inj' e rfl
  exact ⟨rfl,by simpa using h2.2.symm,h2.1.symm⟩
 ·right
  rw [List.concat_eq_append] at e ⊢
  have e2:row ++ [i]=(r1 ++ p :: r3) ++ [b]:=by rw [e];simp
  have h2:=List.append_inj' e2 rfl
  exact ⟨r3,by simpa using h2.2.symm,h2.1⟩
theorem Part.more {rd:Nat->List Nat} {n:Nat} {row:List Nat} (h:Part rd n row):Part rd n (more rd n row):=by
 unfold Gate.more
 rcases hp:pick rd n row with _ | i
 ·exact h
 ·unfold pick at hp
  have hi:=List.find?_some hp
  have hin:=List.mem_of_find?_eq_some hp
  rw [zgq] at hi
  refine ⟨?_,fun q hq=>?_,fun r1 p r2 e q hq=>?_⟩
  ·rw [List.nodup_append]
   exact ⟨h.nodup,by simp,fun a ha b hb=>by rw [List.mem_singleton] at hb;subst hb;exact fun e=>hi.1 (e ▸ ha)⟩
  ·rcases List.mem_append.1 hq with hq | hq
   ·exact h.mem q hq
   ·rw [List.mem_singleton] at hq;subst hq;exact List.mem_range.1 hin
  ·rcases zma e with ⟨_,rfl,rfl⟩ | ⟨r3,_,e3⟩
   ·exact hi.2 q hq
   ·exact h.ahead r1 p r3 e3 q hq
theorem zbT (rd:Nat->List Nat) (n:Nat):∀ k,Part rd n (greedy rd n k)
 | 0=>⟨by simp [greedy],fun q hq=>by simp [greedy] at hq,fun r1 p r2 e=>by simp [greedy] at e⟩
 | k+1=>(zbT rd n k).more
theorem Part.znv {rd:Nat->List Nat} {n:Nat} {row:List Nat} (h:Part rd n row) (hl:row.length=n):ziZ rd n row :=
 ⟨h.nodup,fun q=>⟨h.mem q,zos h.nodup h.mem hl q⟩,h.ahead⟩
theorem znG {rd:Nat->List Nat} {n:Nat} {rk:Nat->Nat} (hr:ziq rd n rk) (row:List Nat):∀ r p,p < n->p ∉ row->rk p<=r->∃ i,pick rd n row=some i:=by
 intro r
 have fin:∀ p,p < n->p ∉ row->(∀ q ∈ rd p,q ∈ row)->∃ i,pick rd n row=some i:=by
  intro p hp hm ha
  have:(pick rd n row).isSome:=by
   unfold pick
   rw [List.find?_isSome]
   exact ⟨p,List.mem_range.2 hp,zgq.2 ⟨hm,ha⟩⟩
  exact Option.isSome_iff_exists.1 this
 induction r with
 | zero =>
  intro p hp hm hk
  refine fin p hp hm (fun q hq=>?_)
  have:=(hr.2 p hp q hq).2;omega
 | succ r ih =>
  intro p hp hm hk
  by_cases ha:∀ q ∈ rd p,q ∈ row
  ·exact fin p hp hm ha
  ·have:∃ q,q ∈ rd p/\q ∉ row:=by
    by_cases h:∃ q,q ∈ rd p/\q ∉ row
    ·exact h
    ·exact absurd (fun q hq=>Classical.byContradiction fun hn=>h ⟨q,hq,hn⟩) ha
   obtain ⟨q,hq,hqm⟩:=this
   have h1:=hr.2 p hp q hq
   exact ih q h1.1 hqm (by omega)
theorem zgV {rd:Nat->List Nat} {n:Nat} {rk:Nat->Nat} (hr:ziq rd n rk):∀ k,k<=n->(greedy rd n k).length=k:=by
 intro k
 induction k with
 | zero=>intro _;rfl
 | succ k ih =>
  intro hk
  have hl:=ih (by omega)
  have hpart:=zbT rd n k
  have:∃ p,p < n/\p ∉ greedy rd n k:=by
   by_cases h:∃ p,p < n/\p ∉ greedy rd n k
   ·exact h
   ·exfalso
    have:=zbo (List.range n) (greedy rd n k) List.nodup_range (fun x hx=>Classical.byContradiction fun hn=>h ⟨x,List.mem_range.1 hx,hn⟩)
    simp only [List.length_range] at this;omega
  obtain ⟨p,hp,hm⟩:=this
  obtain ⟨i,hi⟩:=znG hr (greedy rd n k) (rk p) p hp hm (Nat.le_refl _)
  show (more rd n (greedy rd n k)).length=k+1
  unfold more;rw [hi];simp [hl]
theorem zhs {rd:Nat->List Nat} {n:Nat} (hrd:∀ p,p < n->∀ q ∈ rd p,q < n):(zI rd n).1=decide ((greedy rd n n).length=n):=by
 by_cases h:(zI rd n).1=true
 ·rw [h];exact (decide_eq_true (zgV (zdA hrd h).zj4 n (Nat.le_refl _))).symm
 ·have hf:(zI rd n).1=false:=by simpa using h
  rw [hf]
  symm
  rw [decide_eq_false_iff_not]
  intro hl
  exact h (zia ((zbT rd n n).znv hl).zj4)
def yh {α:Type} (D:Nat->List α->α) (row:List Nat) (vs:List α):List α:=row.foldl (fun us p=>us.set p (D p us)) vs
theorem jH {α:Type} (D:Nat->List α->α):∀ (row:List Nat) (vs:List α),(yh D row vs).length=vs.length:=by
 intro row
 induction row with
 | nil=>intro vs;rfl
 | cons a l ih=>intro vs;show (yh D l (vs.set a (D a vs))).length=_;rw [ih];simp
theorem zd0 {α:Type} (D:Nat->List α->α) (p:Nat):∀ (row:List Nat) (vs:List α),p ∉ row->(yh D row vs)[p]?=vs[p]?:=by
 intro row
 induction row with
 | nil=>intro vs _;rfl
 | cons a l ih =>
  intro vs h
  rw [List.mem_cons] at h
  show (yh D l (vs.set a (D a vs)))[p]?=_
  rw [ih _ (fun hm=>h (Or.inr hm)),List.getElem?_set_ne (fun e=>h (Or.inl e.symm))]
theorem zcs {α:Type} (D:Nat->List α->α) (r1 r2:List Nat) (vs:List α):yh D (r1 ++ r2) vs=yh D r2 (yh D r1 vs):=by
 unfold yh;rw [List.foldl_append]
theorem zmQ {α:Type} (D:Nat->List α->α) (r1 r2:List Nat) (p:Nat) (vs:List α) (hp:p < vs.length) (h2:p ∉ r2):(yh D (r1 ++ p :: r2) vs)[p]?=some (D p (yh D r1 vs)):=by
 rw [zcs]
 show (yh D r2 ((yh D r1 vs).set p (D p (yh D r1 vs))))[p]?=_
 rw [zd0 D p r2 _ h2,List.getElem?_set_self (by rw [jH];exact hp)]
def zoR {α:Type} (rd:Nat->List Nat) (n:Nat) (D:Nat->List α->α):Prop:=∀ p,p < n->∀ us vs:List α,us.length=n->vs.length=n->(∀ q ∈ rd p,us[q]?=vs[q]?)->us[p]?=vs[p]?->D p us=D p vs
theorem ze3 {α:Type} {D:Nat->List α->α} {rd:Nat->List Nat} {n:Nat} {row:List Nat} (h:ziZ rd n row) (vs:List α) (hl:vs.length=n) (p:Nat) (hp:p < n) :
 ∃ us:List α,us.length=n/\(yh D row vs)[p]?=some (D p us)/\us[p]?=vs[p]?/\∀ q ∈ rd p,us[q]?=(yh D row vs)[q]?:=by
 obtain ⟨r1,r2,e⟩:=List.append_of_mem ((h.mem p).2 hp)
 have hnd:=h.nodup
 rw [e,List.nodup_append] at hnd
 have hp1:p ∉ r1:=fun hm=>hnd.2.2 p hm p (by simp) rfl
 have hp2:p ∉ r2:=(List.nodup_cons.1 hnd.2.1).1
 refine ⟨yh D r1 vs,by rw [jH,hl],by rw [e];exact zmQ D r1 r2 p vs (by omega) hp2,zd0 D p r1 vs hp1,fun q hq=>?_⟩
 have hq1:=h.ahead r1 p r2 e q hq
 have hq2:q ∉ p :: r2:=fun hm=>hnd.2.2 q hq1 q hm rfl
 rw [e,zcs,zd0 D q _ _ hq2]
theorem zkA {α:Type} {D:Nat->List α->α} {rd:Nat->List Nat} {n:Nat} {r r':List Nat} (h:ziZ rd n r) (h':ziZ rd n r') (hD:zoR rd n D) (vs:List α) (hl:vs.length=n):yh D r vs=yh D r' vs:=by
 have hr:=h.zj4
 have key:∀ k p,p < n->r.idxOf p < k->(yh D r vs)[p]?=(yh D r' vs)[p]?:=by
  intro k
  induction k with
  | zero=>intro p _ hk;omega
  | succ k ih =>
   intro p hp hk
   obtain ⟨us,u1,u2,u3,u4⟩:=ze3 (D:=D) h vs hl p hp
   obtain ⟨us',u1',u2',u3',u4'⟩:=ze3 (D:=D) h' vs hl p hp
   rw [u2,u2']
   congr 1
   refine hD p hp us us' u1 u1' (fun q hq=>?_) (u3.trans u3'.symm)
   have h1:=hr.2 p hp q hq
   have h2:r.idxOf q < r.idxOf p:=h1.2
   rw [u4 q hq,u4' q hq]
   exact ih q h1.1 (by omega)
 apply List.ext_getElem?
 intro p
 rcases Nat.lt_or_ge p n with hp | hp
 ·exact key (r.idxOf p+1) p hp (Nat.lt_succ_self _)
 ·rw [List.getElem?_eq_none (by rw [jH,hl];exact hp),List.getElem?_eq_none (by rw [jH,hl];exact hp)]
end Go.Proofs.YtaickbhifenbjaaGreat.Gate
