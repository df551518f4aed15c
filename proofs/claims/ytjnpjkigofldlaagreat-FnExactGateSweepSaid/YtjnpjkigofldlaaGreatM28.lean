import Derived.Test.YtjnpjkigofldlaaGreatM24
set_option maxRecDepth 20000
set_option maxHeartbeats 8000000
namespace Go.Proofs.YtjnpjkigofldlaaGreat
open Go.RowKit
variable {lo n:Nat}{w w':World}{a:OA}{ms:List Ob}
theorem zek (a:OA)(cap:Nat)(ts:List Tm)(v:BA)(w:World)(hw:jQ w a ts) :
 Calls Tryz.prog 116 #[.l a ts.length cap,.s v] w fun e w'=>e=.returned (.bool (yD ts v))/\w'=w:=by
 have hl:=hw.len;unfold maxLen at hl;go_in;go_wp2
 go_loop [5] (fun i=>∃k:Nat,k<=ts.length/\i=.i k/\yD (ts.take k) v=false) (fun i=>ts.length-(intOf i).toNat)
 case atStart=>exact⟨0,Nat.zero_le _,rfl,rfl⟩
 case round=>
  obtain⟨k,hk,rfl,hall⟩:=hrel
  by_cases hlt:k<ts.length
  ·obtain⟨b,off,rfl,hb,c0,c1⟩:=hw.load (bRf _ _) k hlt
   clear hw;have HS:Hid (yD (ts.take (k+1)) v=(false||decide (ts[k].nm=v))):=by rw[zeT ts v k hlt,hall];rfl
   have hltI:(k:Int)<(ts.length:Int):=by omega
   by_cases he:ts[k].nm=v
   ·have hbe:(ts[k].nm.toList == v.toList)=true:=by rw[beq_toList];simpa using he
    have HR:=hid (zqv ts v k hlt he);clear he hall;go_wp2
    go_ret;exact⟨ze HR.o.symm,rfl⟩
   ·have hbe:(ts[k].nm.toList == v.toList)=false:=by rw[beq_toList];simpa using he
    have HE:=hid he;clear he hall;go_wp2
    go_round
    case rel=>exact⟨k+1,by omega,by go_num,by rw[HS.o,decide_eq_false HE.o];rfl⟩
    case measure=>simp[intOf];omega
  ·have HR:Hid (yD ts v=false):=by rw[<- zfR ts v k (by omega)];exact hall
   clear hall hw;go_wp2
   go_ret;exact⟨ze HR.o.symm,rfl⟩
theorem zhg (ts:List Tm)(m:Nat)(z:BA)(h:z.size=0):jR ts m z=z:=by
 cases m with
 | zero=>rfl
 | succ m=>unfold jR;rw[if_pos h]
theorem ziO (ts:List Tm)(m:Nat)(z:BA)(h:¬z.size=0):jR ts (m+1) z=jR ts m (over ts z):=by
 rw[jR,if_neg h]
theorem zjj (a:OA)(cap:Nat)(ts:List Tm)(w:World)(hw:jQ w a ts) :
 Calls Tryz.prog 114 #[.l a ts.length cap] w fun e w'=>e=.returned (.bool (zaW ts))/\Bw w w':=by
 have hl:=hw.len;unfold maxLen at hl
 by_cases h12:ts.length<=12
 rotate_left
 ·have HF:Hid (zaW ts=false):=by simp[Hid,zaW,h12]
  clear hw;go_in;go_wp2
  go_ret;exact⟨ze HF.o.symm,bRf _ _⟩
 have HG:Hid (zaW ts=up (zcf ts) ts.length):=by simp[Hid,zaW,h12]
 have h12I:(ts.length:Int)<=12:=by omega
 have HW0:=hid hw;clear hw;go_in;go_wp2
 go_loopw [3] (fun i wr=>∃k:Nat,k<=ts.length/\i=.i k/\up (zcf ts) k=true/\Bw w wr) (fun i _=>ts.length-(intOf i).toNat)
 case atStart=>exact⟨0,Nat.zero_le _,rfl,rfl,bRf _ _⟩
 case round=>
  obtain⟨k,hk,rfl,hup,hB⟩:=hrel;obtain⟨W0,rfl⟩:∃W0,W0=wr:=⟨wr,rfl⟩
  have hsz:=hB.size
  by_cases hlt:k<ts.length
  ·obtain⟨b,off,rfl,hb,c0,c1⟩:=HW0.o.load hB k hlt
   have hbr:b<W0.heap.size:=by omega
   have hsm:=HW0.o.small k hlt;have hsn:=hsm.nm;have HS:Hid (qD ts k=true->zdT ts k=true->up (zcf ts) (k+1)=true):=fun h h'=>by rw[zab,hup,zcf,h,h'];rfl
   have HN:Hid (qD ts k=false->zaW ts=false):=fun h=>by rw[HG.o];exact zbL hlt (by rw[zcf,h];rfl)
   have HD:Hid (zdT ts k=false->zaW ts=false):=fun h=>by rw[HG.o];exact zbL hlt (by rw[zcf,h,Bool.and_false])
   have HDS:Hid (zdT ts k=decide ((jR ts 5 ts[k].nm).size=0)):=by unfold Hid zdT;rw[getD_at ts k _ hlt]
   have hltI:(k:Int)<(ts.length:Int):=by omega
   have HB:=hid hB;have HBx:Hid (∀(ob:Obj) (n:Nat),Bw W0 ((W0.alloc ob).drewN n)):=fun ob n=>below_drewN (bAl _ _) _
   have HWr:Hid (∀(ob:Obj) (n:Nat),jQ ((W0.alloc ob).drewN n) (some (aD b off)) ts):=fun ob n=>(HW0.o.mono hB).mono (below_drewN (bAl _ _) _)
   clear hup hsm hB
   by_cases hn:zC ts[k].nm=true
   rotate_left
   ·have HNm:Hid (zC ts[k].nm=false):=by simpa[Hid] using hn
    have HF:Hid (qD ts k=false):=by unfold Hid;rw[zcO ts k hlt _ rfl,HNm.o];rfl
    clear hn;go_wp2_with fail
    go_quiet ((go_at_call 122;exact Calls.quiet_of_same (zw HNm.o (yg _ _ hsn))))
    go_wp2
    go_ret;exact⟨ze (HN.o HF.o).symm,HB.o.trans ((HBx.o _ _).mono hsz)⟩
   have HNm:Hid (zC ts[k].nm=true):=hn;clear hn
   by_cases hbad:0<k/\less (ts.getD (k-1) zbp).nm ts[k].nm=false
   ·obtain⟨hkpos,hls⟩:=hbad
    have HF:Hid (qD ts k=false):=by
     unfold Hid;rw[zcO ts k hlt false (by rw[hls,decide_eq_false (show ¬k=0 by omega)];rfl)];simp
    obtain⟨m,rfl⟩:∃m,k=m+1:=⟨k-1,by omega⟩
    rw[Nat.add_sub_cancel,getD_at ts m _ (by omega)]at hls;obtain⟨b',off',e',hb',d0,d1⟩:=HW0.o.load HB.o m (by omega);simp only[Option.some.injEq,Addr.mk.injEq]at e';obtain⟨rfl,rfl,_⟩:=e';have hls':Op.bytesLess ts[m].nm.toList ts[m+1].nm.toList=false:=hls;have hmI:(m:Int)<12:=by omega
    have hm0:(0:Int)<=(m:Int):=by omega
    have hml:(m:Int)<(ts.length:Int):=by omega
    have hmw:IntKind.i64.wrap (m:Int)=m:=by rw[IntKind.wrap_i64];omega
    clear hls;go_wp2_with fail
    go_quiet ((go_at_call 122;exact Calls.quiet_of_same (zw HNm.o (yg _ _ hsn))))
    go_wp2
    go_ret;exact⟨ze (HN.o HF.o).symm,HB.o.trans ((HBx.o _ _).mono hsz)⟩
   have hgd:(decide (k=0)||less (ts.getD (k-1) zbp).nm ts[k].nm)=true:=by
    by_cases hk0:k=0
    ·simp[hk0]
    ·cases hq:less (ts.getD (k-1) zbp).nm ts[k].nm
     ·exact absurd ⟨by omega,hq⟩ hbad
     ·simp
   have HA:Hid (qD ts k=(ts[k].ov.toList.isEmpty||yD ts ts[k].ov)):=by
    unfold Hid;rw[zcO ts k hlt true hgd,HNm.o];rfl
   have hgood:(decide (0<k)=false) \/ (decide (0<k)=true/\(0:Int)<=(k:Int)-1/\(k:Int)-1<(ts.length:Int)/\∃h:k-1<ts.length,Op.bytesLess ts[k-1].nm.toList ts[k].nm.toList=true/\W0.cell? (aD b (off+(k-1)*2))=some (.s ts[k-1].nm)):=by
    by_cases hk0:k=0
    ·exact Or.inl (by simp;omega)
    ·refine Or.inr ⟨by simp;omega,by omega,by omega,by omega,?_,?_⟩
     ·rw[decide_eq_false hk0,getD_at ts (k-1) _ (by omega)]at hgd
      exact hgd
     ·obtain⟨b',off',e',hb',d0,d1⟩:=HW0.o.load HB.o (k-1) (by omega)
      simp only[Option.some.injEq,Addr.mk.injEq]at e';obtain⟨rfl,rfl,_⟩:=e';exact d0
   clear hbad hgd
   by_cases hov:ts[k].ov.toList.isEmpty=true
   ·have HT:Hid (qD ts k=true):=by unfold Hid;rw[HA.o,hov];rfl
    rcases hgood with hg|⟨hg,hk1,hk2,hkm,hls',d0⟩
    focus
     go_wp2_with fail
    rotate_left
    focus
     go_wp2_with fail
    all_goals
     go_quiet ((go_at_call 122;exact Calls.quiet_of_same (zw HNm.o (yg _ _ hsn))))
     go_wp2_with fail
     obtain⟨W1,hW1⟩:=xN ((W0.alloc (.cells #[.s ts[k].nm,.s ts[k].ov] 134)).drewN nq);have HB1:Hid (Bw w W1):=by unfold Hid;rw[hW1];exact HB.o.trans ((HBx.o _ _).mono hsz)
     have HW1:=hid (HW0.o.mono HB1.o);rw[<- hW1];clear hW1
     go_loopw [5,6] (fun p i wi=>∃(n:Nat) (z:BA),n<=5/\p=.s z/\i=.i n/\jR ts 5 ts[k].nm=jR ts (5-n) z/\wi=W1) (fun _ i _=>5-(intOf i).toNat)
     case atStart=>exact⟨0,ts[k].nm,Nat.zero_le _,rfl,rfl,rfl,rfl⟩
     case round=>
      obtain⟨n,z,hn5,rfl,rfl,hz,rfl⟩:=hrel
      by_cases hn:n<5
      ·have hnI:(n:Int)<=4:=by omega
       by_cases hz0:z.size=0
       ·have hze:z.toList.isEmpty=true:=by rw[zu];simpa using hz0
        have HDT:Hid (zdT ts (k)=true):=by unfold Hid;rw[HDS.o,hz,zhg ts _ z hz0];simpa using hz0
        clear hz hz0;go_wp2
        exact⟨⟨k+1,by omega,by go_num,HS.o HT.o HDT.o,HB1.o⟩,by simp[intOf];omega⟩
       ·have hze:z.toList.isEmpty=false:=by rw[zu];simpa using hz0
        have HZ:Hid (jR ts 5 ts[k].nm=jR ts (5-(n+1)) (over ts z)):=by
         obtain⟨q,hq⟩:∃q,5-n=q+1:=⟨4-n,by omega⟩
         rw[Hid,hz,hq,ziO ts q z hz0,show 5-(n+1)=q by omega]
        clear hz hz0
        go_wp2_with (go_at_call 159;refine(zcW _ _ ts _ _ HW1.o).mono ?_;rintro e w'⟨rfl,rfl⟩)
        exact⟨⟨n+1,over ts z,by omega,rfl,by go_num,HZ.o,trivial⟩,by simp[intOf];omega⟩
      ·have e5:5-n=0:=by omega
       rw[e5]at hz;have hnI:¬(n:Int)<=4:=by omega
       by_cases hz0:z.size=0
       ·have hze:z.toList.isEmpty=true:=by rw[zu];simpa using hz0
        have HDT:Hid (zdT ts (k)=true):=by unfold Hid;rw[HDS.o,hz];simpa[jR] using hz0
        clear hz hz0;go_wp2
        exact⟨⟨k+1,by omega,by go_num,HS.o HT.o HDT.o,HB1.o⟩,by simp[intOf];omega⟩
       ·have hze:z.toList.isEmpty=false:=by rw[zu];simpa using hz0
        have HDT:Hid (zdT ts (k)=false):=by unfold Hid;rw[HDS.o,hz];simpa[jR] using hz0
        clear hz hz0;go_wp2
        go_ret;exact⟨ze (HD.o HDT.o).symm,HB1.o⟩
   ·have hov':ts[k].ov.toList.isEmpty=false:=by simpa using hov
    clear hov
    by_cases hit:yD ts ts[k].ov=true
    ·have HI:=hid hit
     have HT:Hid (qD ts k=true):=by unfold Hid;rw[HA.o,hit];simp
     clear hit
     rcases hgood with hg|⟨hg,hk1,hk2,hkm,hls',d0⟩
     focus
      go_wp2_with fail
     rotate_left
     focus
      go_wp2_with fail
     all_goals
      go_quiet (first|(go_at_call 122;exact Calls.quiet_of_same (zw HNm.o (yg _ _ hsn)))|(go_at_call 116;exact Calls.quiet_of_same (zw HI.o (zek _ _ ts _ _ (by exact HWr.o _ _)))))
      go_wp2_with fail
      obtain⟨W1,hW1⟩:=xN ((W0.alloc (.cells #[.s ts[k].nm,.s ts[k].ov] 134)).drewN nq);have HB1:Hid (Bw w W1):=by unfold Hid;rw[hW1];exact HB.o.trans ((HBx.o _ _).mono hsz)
      have HW1:=hid (HW0.o.mono HB1.o);rw[<- hW1];clear hW1
      go_loopw [5,6] (fun p i wi=>∃(n:Nat) (z:BA),n<=5/\p=.s z/\i=.i n/\jR ts 5 ts[k].nm=jR ts (5-n) z/\wi=W1) (fun _ i _=>5-(intOf i).toNat)
      case atStart=>exact⟨0,ts[k].nm,Nat.zero_le _,rfl,rfl,rfl,rfl⟩
      case round=>
       obtain⟨n,z,hn5,rfl,rfl,hz,rfl⟩:=hrel
       by_cases hn:n<5
       ·have hnI:(n:Int)<=4:=by omega
        by_cases hz0:z.size=0
        ·have hze:z.toList.isEmpty=true:=by rw[zu];simpa using hz0
         have HDT:Hid (zdT ts (k)=true):=by unfold Hid;rw[HDS.o,hz,zhg ts _ z hz0];simpa using hz0
         clear hz hz0;go_wp2
         exact⟨⟨k+1,by omega,by go_num,HS.o HT.o HDT.o,HB1.o⟩,by simp[intOf];omega⟩
        ·have hze:z.toList.isEmpty=false:=by rw[zu];simpa using hz0
         have HZ:Hid (jR ts 5 ts[k].nm=jR ts (5-(n+1)) (over ts z)):=by
          obtain⟨q,hq⟩:∃q,5-n=q+1:=⟨4-n,by omega⟩
          rw[Hid,hz,hq,ziO ts q z hz0,show 5-(n+1)=q by omega]
         clear hz hz0
         go_wp2_with (go_at_call 159;refine(zcW _ _ ts _ _ HW1.o).mono ?_;rintro e w'⟨rfl,rfl⟩)
         exact⟨⟨n+1,over ts z,by omega,rfl,by go_num,HZ.o,trivial⟩,by simp[intOf];omega⟩
       ·have e5:5-n=0:=by omega
        rw[e5]at hz;have hnI:¬(n:Int)<=4:=by omega
        by_cases hz0:z.size=0
        ·have hze:z.toList.isEmpty=true:=by rw[zu];simpa using hz0
         have HDT:Hid (zdT ts (k)=true):=by unfold Hid;rw[HDS.o,hz];simpa[jR] using hz0
         clear hz hz0;go_wp2
         exact⟨⟨k+1,by omega,by go_num,HS.o HT.o HDT.o,HB1.o⟩,by simp[intOf];omega⟩
        ·have hze:z.toList.isEmpty=false:=by rw[zu];simpa using hz0
         have HDT:Hid (zdT ts (k)=false):=by unfold Hid;rw[HDS.o,hz];simpa[jR] using hz0
         clear hz hz0;go_wp2
         go_ret;exact⟨ze (HD.o HDT.o).symm,HB1.o⟩
    ·have HI:Hid (yD ts ts[k].ov=false):=by simpa[Hid] using hit
     have HF:Hid (qD ts k=false):=by unfold Hid;rw[HA.o,HI.o,hov'];rfl
     clear hit
     rcases hgood with hg|⟨hg,hk1,hk2,hkm,hls',d0⟩
     focus
      go_wp2_with fail
     rotate_left
     focus
      go_wp2_with fail
     all_goals
      go_quiet (first|(go_at_call 122;exact Calls.quiet_of_same (zw HNm.o (yg _ _ hsn)))|(go_at_call 116;exact Calls.quiet_of_same (zw HI.o (zek _ _ ts _ _ (by exact HWr.o _ _)))))
      go_wp2
      go_ret;exact⟨ze (HN.o HF.o).symm,HB.o.trans ((HBx.o _ _).mono hsz)⟩
  ·have HF:Hid (zaW ts=true):=by
    have e:k=ts.length:=by omega
    subst e;rw[Hid,HG.o,hup]
   clear hup;go_wp2
   go_ret;exact⟨ze HF.o.symm,hB⟩
structure ObE (lo:Nat)(w:World)(own:Nat->Lb)(c:Nat->Option Value)(i:Nat)(x:Ob)(a0 a1:OA)(c0 c1:Nat):Prop where
 cell:∀j,j<7->c j=(#[.s x.kd,.s x.nm,.s x.tm,.l a0 x.vs.length c0,.bool x.en,.l a1 x.hs.length c1,.i x.vr]:AV)[j]?
 l0:zk lo w a0 x.vs
 o0:∀g,a0=some g->own g.block=(0,i,1)
 l1:zk lo w a1 x.hs
 o1:∀g,a1=some g->own g.block=(0,i,2)
structure jD (lo:Nat)(w:World)(own:Nat->Lb)(a:OA)(n:Nat)(f:Nat->Ob):Prop where
 rows:0<n->∃b C,a=some (aD b 0)/\lo<=b/\own b=(0,0,0)/\w.heap[b]?=some (.cells C 116)/\n*7<=C.size/\∀i,i<n->∃a0 a1 c0 c1,ObE lo w own (fun j=>C[i*7+j]?) i (f i) a0 a1 c0 c1
theorem jD.left {S:Nat->Prop}{own:Nat->Lb}{f:Nat->Ob}(h:jD lo w own a n f)(hl:Left S w w')(hS:∀k,(own k).1=0->¬S k):jD lo w' own a n f:=by
 refine⟨fun hn=>?_⟩;obtain⟨b,C,ha,hlo,hb,hC,hs,hr⟩:=h.rows hn;refine⟨b,C,ha,hlo,hb,(hl.out b (gES hC).1 (hS b (by rw[hb]))).trans hC,hs,fun i hi=>?_⟩;obtain⟨a0,a1,c0,c1,he⟩:=hr i hi;exact⟨a0,a1,c0,c1,he.cell,he.l0.left hl (fun g hg=>hS _ (by rw[he.o0 g hg])),he.o0,he.l1.left hl (fun g hg=>hS _ (by rw[he.o1 g hg])),he.o1⟩
theorem jD.mono {own:Nat->Lb}{f:Nat->Ob}(h:jD lo w own a n f)(hb:Bw w w'):jD lo w' own a n f:=h.left (Left.of_below (fun _=>False) hb) (fun _ _ h=>h)
theorem jD.own {own own':Nat->Lb}{f:Nat->Ob}(h:jD lo w own a n f)(he:∀k,k<w.heap.size->(own k).1=0->own' k=own k):jD lo w own' a n f:=by
 refine⟨fun hn=>?_⟩;obtain⟨b,C,ha,hlo,hb,hC,hs,hr⟩:=h.rows hn;refine⟨b,C,ha,hlo,(he b (gES hC).1 (by rw[hb])).trans hb,hC,hs,fun i hi=>?_⟩;obtain⟨a0,a1,c0,c1,hx⟩:=hr i hi;exact⟨a0,a1,c0,c1,hx.cell,hx.l0,fun g hg=>(he _ (hx.l0.lt g hg) (by rw[hx.o0 g hg])).trans (hx.o0 g hg),hx.l1,fun g hg=>(he _ (hx.l1.lt g hg) (by rw[hx.o1 g hg])).trans (hx.o1 g hg)⟩
theorem jD.low {lo':Nat}{own:Nat->Lb}{f:Nat->Ob}(h:jD lo w own a n f)(hl:lo'<=lo):jD lo' w own a n f:=by
 refine⟨fun hn=>?_⟩;obtain⟨b,C,ha,hlo,hb,hC,hs,hr⟩:=h.rows hn;refine⟨b,C,ha,Nat.le_trans hl hlo,hb,hC,hs,fun i hi=>?_⟩;obtain⟨a0,a1,c0,c1,hx⟩:=hr i hi;exact⟨a0,a1,c0,c1,hx.cell,hx.l0.low hl,hx.o0,hx.l1.low hl,hx.o1⟩
theorem jD.same {own:Nat->Lb}{f f':Nat->Ob}(h:jD lo w own a n f)(he:∀i,i<n->f' i=f i):jD lo w own a n f':=by
 refine⟨fun hn=>?_⟩;obtain⟨b,C,ha,hlo,hb,hC,hs,hr⟩:=h.rows hn;refine⟨b,C,ha,hlo,hb,hC,hs,fun i hi=>?_⟩;rw[he i hi];exact hr i hi
def jo (ms:List Ob)(i:Nat):Ob:=(ms[i]?).getD ⟨ByteArray.empty,ByteArray.empty,ByteArray.empty,[],false,[],0⟩
theorem qW {i:Nat}(h:i<ms.length):jo ms i=ms[i]:=by unfold jo;rw[List.getElem?_eq_getElem h];rfl
theorem jD.at {own:Nat->Lb}(h:jD lo w own a ms.length (jo ms))(hs:zbJ ms)(hl:ms.length<=maxLen):zby w a ms:=by
 refine⟨hl,fun hne=>?_⟩;obtain⟨b,C,ha,hlo,hb,hC,hsz,hr⟩:=h.rows (List.length_pos_iff.2 hne);refine⟨b,0,ha,(gES hC).1,fun i hi=>?_⟩;obtain⟨a0,a1,c0,c1,hx⟩:=hr i hi;rw[qW hi]at hx;obtain⟨s0,s1,s2⟩:=hs.small i hi;refine⟨a0,a1,c0,c1,s0,hx.l0.at s1.1 s1.2,hx.l1.at s2.1 s2.2,fun j hj=>?_⟩;rw[cell_of_block hC,Nat.zero_add];exact hx.cell j hj
def zhu (k:Int)(x:Ob):Ob:=⟨(mkT (k)),(mkT (k+1)),(mkT (k+1+1)),(zmg (k+1+1+1) x.vs.length),((k+1+1+1+x.vs.length) % 3 == 0),(zmg (k+1+1+1+x.vs.length+1) x.hs.length),(k+1+1+1+x.vs.length+1+x.hs.length)⟩
def zs9 (k:Int)(x:Ob):Int:=k+1+1+1+x.vs.length+1+x.hs.length+1
def kOb (k:Int)(ms:List Ob):Nat->Int
 | 0=>k
 | i+1=>zs9 (kOb k ms i) (jo ms i)
def zk4 (k:Int)(ms:List Ob)(i:Nat):Ob:=zhu (kOb k ms i) (jo ms i)
def zmH (k:Int)(ms:List Ob)(i j:Nat):Ob:=if j<i then zk4 k ms j else jo ms j
theorem zrg (k:Int)(ms:List Ob)(i:Nat)(h:∀i,(jo ms i).vs.length<=1048576/\(jo ms i).hs.length<=1048576):k+i<=kOb k ms i/\kOb k ms i<=k+i*2097159:=by
 induction i with
 | zero=>exact⟨by show k+0<=k;omega,by show k<=k+0*2097159;omega⟩
 | succ i ih=>
  have h1:kOb k ms (i+1)=zs9 (kOb k ms i) (jo ms i):=rfl;have h2:=h i;unfold zs9 at h1;rw[h1];exact⟨by omega,by omega⟩
theorem zkI (h:∀i (h:i<ms.length),ms[i].vs.length<=1048576/\ms[i].hs.length<=1048576)(i:Nat):(jo ms i).vs.length<=1048576/\(jo ms i).hs.length<=1048576:=by
 by_cases hi:i<ms.length
 ·rw[qW hi];exact h i hi
 ·unfold jo;rw[List.getElem?_eq_none (by omega)];exact⟨Nat.zero_le _,Nat.zero_le _⟩
theorem zf0 (lo:Nat)(own:Nat->Lb)(a:OA)(cap:Nat)(ms:List Ob)(k:Int)(w:World)(h:jD lo w own a ms.length (jo ms))(hl:ms.length<=1048576)(hls:∀i,(jo ms i).vs.length<=1048576/\(jo ms i).hs.length<=1048576)(hk:0<k)(hk2:k<5000000000000000000) :
 Calls Tryz.prog 47 #[.l a ms.length cap,.i k] w fun e w'=>e=.returned (.i (kOb k ms ms.length))/\jD lo w' own a ms.length (zk4 k ms)/\Left (fun q=>(own q).1=0) w w':=by
 have HF:=hid h;have HL:=yB hl hls;have HK:=yB hk hk2;clear h hl hk hk2 hls;go_in;go_wp2
 go_loopw [1,5] (fun kv iv wr=>∃i:Nat,i<=ms.length/\kv=.i (kOb k ms i)/\iv=.i i/\Hid (jD lo wr own a ms.length (zmH k ms i)/\Left (fun q=>(own q).1=0) w wr)) (fun _ iv _=>ms.length-(intOf iv).toNat)
 case atStart=>exact⟨0,Nat.zero_le _,rfl,rfl,HF.o.same (fun i _=>if_neg (Nat.not_lt_zero i)),Left.refl _ _⟩
 case round=>
  obtain⟨i,hile,rfl,rfl,HQ⟩:=hrel
  by_cases hlt:i<ms.length
  ·have hltI:(i:Int)<(ms.length:Int):=by omega
   have HKI:Hid (kOb k ms (i+1)=zs9 (kOb k ms i) (jo ms i)):=rfl;have hkb:=zrg k ms i HL.o.2;have HMX:Hid (zk4 k ms i=zhu (kOb k ms i) (jo ms i)):=rfl
   generalize kOb k ms i=kk at hkb HKI HMX ⊢
   have HB:Hid (0<kk/\kk<7000000000000000000):=by have a:=HK.o;have b:=HL.o.1;exact⟨by omega,by omega⟩
   clear hkb;obtain⟨bo,C,rfl,hlo,hbo,hC,hsz,hr⟩:=HQ.o.1.rows (by omega);obtain⟨a0,a1,c0,c1,hx⟩:=hr i hlt;rw[show zmH k ms i i=jo ms i from if_neg (Nat.lt_irrefl i)]at hx;have HFX:=hid (HL.o.2 i)
   generalize jo ms i=x at hx HKI HMX HFX
   have HS:=hid (show i*7+7<=C.size by omega);have HRR:=j3 hlo hbo hC hsz;have M0:Hid (Mid own lo bo 116 C 7 i 0 wr wr (oC x a0 a1 c0 c1) a0 a1 none x.vs x.hs []):=⟨jh.new hC hx.cell,rfl,Left.refl _ _,hbo,hx.l0,hx.o0,hx.l1,hx.o1,Or.inl ⟨rfl,rfl⟩,(fun _ h=>by cases h)⟩
   clear hr hx hlo hbo hC hsz;go_wp2_with fail
   refine(yG _ _ (by have a:=HB.o;have b:=HFX.o;omega) (by have a:=HB.o;have b:=HFX.o;omega)).mono ?_;rintro e wm1⟨rfl,hb⟩;have M1:=hid (M0.out.below hb);clear hb M0;obtain⟨y1,hv1⟩:=M1.out.ex 0 (by omega);have hf1:=fun o=>M1.out.row.fz o
   have hg1:=M1.out.row.lt;rw[Nat.add_zero]at hv1;have M2:=hid (M1.out.set 0 (.s (mkT (kk))) (by omega) HS.o);rw[Nat.add_zero]at M2;clear M1;have hw_2:wrap64 (kk+1)=kk+1:=zx _ ⟨by have a:=HB.o;have b:=HFX.o;omega,by have a:=HB.o;have b:=HFX.o;omega⟩;go_wp2_with fail
   clear hv1 hf1 hg1;refine(yG _ _ (by have a:=HB.o;have b:=HFX.o;omega) (by have a:=HB.o;have b:=HFX.o;omega)).mono ?_;rintro e wm2⟨rfl,hb⟩;have M3:=hid (M2.out.below hb);clear hb M2;obtain⟨y2,hv2⟩:=M3.out.ex 1 (by omega);have hf2:=fun o=>M3.out.row.fz o
   have hg2:=M3.out.row.lt;have M4:=hid (M3.out.set 1 (.s (mkT (kk+1))) (by omega) HS.o);clear M3;have hw_4:wrap64 (kk+1+1)=kk+1+1:=zx _ ⟨by have a:=HB.o;have b:=HFX.o;omega,by have a:=HB.o;have b:=HFX.o;omega⟩;go_wp2_with fail
   clear hv2 hf2 hg2;refine(yG _ _ (by have a:=HB.o;have b:=HFX.o;omega) (by have a:=HB.o;have b:=HFX.o;omega)).mono ?_;rintro e wm3⟨rfl,hb⟩;have M5:=hid (M4.out.below hb);clear hb M4;obtain⟨y3,hv3⟩:=M5.out.ex 2 (by omega);have hf3:=fun o=>M5.out.row.fz o
   have hg3:=M5.out.row.lt;have M6:=hid (M5.out.set 2 (.s (mkT (kk+1+1))) (by omega) HS.o);clear M5;have hw_6:wrap64 (kk+1+1+1)=kk+1+1+1:=zx _ ⟨by have a:=HB.o;have b:=HFX.o;omega,by have a:=HB.o;have b:=HFX.o;omega⟩;have hg4:=M6.out.row.lt;have hv4:_=some (Value.slice a0 x.vs.length c0):=M6.out.row.cell 3 (by omega);go_wp2_with fail
   clear hv3 hf3 hg3 hv4 hg4;refine(zhP lo c0 a0 x.vs _ _ M6.out.t0 (by have a:=HB.o;have b:=HFX.o;omega) (by have a:=HB.o;have b:=HFX.o;omega)).mono ?_;rintro e wm4⟨_,rfl,rfl,ho,hf⟩;have M7:=hid (M6.out.l0 ho hf);clear ho hf M6;obtain⟨y5,hv5⟩:=M7.out.ex 4 (by omega);have hf5:=fun o=>M7.out.row.fz o
   have hg5:=M7.out.row.lt;have htm:(kk+1+1+1+x.vs.length).tmod 3=(kk+1+1+1+x.vs.length) % 3:=Int.tmod_eq_emod_of_nonneg (by have a:=HB.o;have b:=HFX.o;omega);have hwm:wrap64 ((kk+1+1+1+x.vs.length) % 3)=(kk+1+1+1+x.vs.length) % 3:=zx _ ⟨by omega,by omega⟩;have M8:=hid (M7.out.set 4 (.bool ((kk+1+1+1+x.vs.length) % 3 == 0)) (by omega) HS.o);clear M7;have hw_8:wrap64 (kk+1+1+1+x.vs.length+1)=kk+1+1+1+x.vs.length+1:=zx _ ⟨by have a:=HB.o;have b:=HFX.o;omega,by have a:=HB.o;have b:=HFX.o;omega⟩;have hg6:=M8.out.row.lt;have hv6:_=some (Value.slice a1 x.hs.length c1):=M8.out.row.cell 5 (by omega);go_wp2_with fail
   clear hv5 hf5 hg5 htm hwm hv6 hg6;refine(zhP lo c1 a1 x.hs _ _ M8.out.t1 (by have a:=HB.o;have b:=HFX.o;omega) (by have a:=HB.o;have b:=HFX.o;omega)).mono ?_;rintro e wm5⟨_,rfl,rfl,ho,hf⟩;have M9:=hid (M8.out.l1 ho hf);clear ho hf M8;obtain⟨y7,hv7⟩:=M9.out.ex 6 (by omega);have hf7:=fun o=>M9.out.row.fz o
   have hg7:=M9.out.row.lt;have M10:=hid (M9.out.set 6 (.i (kk+1+1+1+x.vs.length+1+x.hs.length)) (by omega) HS.o);clear M9;have hw_10:wrap64 (kk+1+1+1+x.vs.length+1+x.hs.length+1)=kk+1+1+1+x.vs.length+1+x.hs.length+1:=zx _ ⟨by have a:=HB.o;have b:=HFX.o;omega,by have a:=HB.o;have b:=HFX.o;omega⟩;go_wp2
   go_roundw
   case rel=>
    have hkn:kk+1+1+1+x.vs.length+1+x.hs.length+1=kOb k ms (i+1):=HKI.o.symm;refine⟨i+1,by omega,by first|rw[hw_10,hkn]|rw[hkn],by rw[wrap_one (by have:=HL.o.1;omega)],⟨fun _=>?_⟩,HQ.o.2.trans (M10.out.left.wide ?_)⟩
    ·obtain⟨C',hC',hs',ho',hd'⟩:=M10.out.row.ex
     refine⟨bo,C',rfl,HRR.o.1,HRR.o.2.1,hC',by rw[hs'];exact HRR.o.2.2.2,fun z hz=>?_⟩
     by_cases ez:z=i
     ·subst ez
      rw[show zmH k ms (z+1) z=zk4 k ms z from if_pos (Nat.lt_succ_self z),HMX.o];refine⟨a0,a1,c0,c1,fun j hj=>(hd' j hj).trans ?_,M10.out.t0,M10.out.o0,M10.out.t1,M10.out.o1⟩;unfold zhu;simp only[zbw];rfl
     ·rw[show zmH k ms (i+1) z=zmH k ms i z by unfold zmH;by_cases hz1:z<i <;> simp[hz1] <;> omega]
      obtain⟨b2,C2,h2a,_,_,h2C,_,h2r⟩:=HQ.o.1.rows (by omega)
      cases h2a
      obtain rfl:C2=C:=by have h3:=HRR.o.2.2.1;rw[h2C]at h3;cases h3;rfl
      obtain⟨d0,d1,e0,e1,hy⟩:=h2r z hz;exact⟨d0,d1,e0,e1,fun j hj=>(ho' _ (by omega)).trans (hy.cell j hj),hy.l0.left M10.out.left (fun g hg hh=>by simp only[hy.o0 g hg,Prod.mk.injEq]at hh;omega),hy.o0,hy.l1.left M10.out.left (fun g hg hh=>by simp only[hy.o1 g hg,Prod.mk.injEq]at hh;omega),hy.o1⟩
    ·rintro z (hz|hz|hz|hz) <;> rw[hz]
   case measure=>exact yO hlt (by have:=HL.o.1;omega)
  ·have e:i=ms.length:=by omega
   subst e;go_wp2
   go_ret;exact⟨rfl,HQ.o.1.same (fun j hj=>(if_pos hj).symm),HQ.o.2⟩
theorem zf1 (lo:Nat)(own:Nat->Lb)(a:OA)(cap:Nat)(ms:List Ob)(k:Int)(w:World)(h:jD lo w own a ms.length (zk4 k ms))(hl:ms.length<=1048576)(hls:∀i,(jo ms i).vs.length<=1048576/\(jo ms i).hs.length<=1048576)(hk:0<k)(hk2:k<5000000000000000000) :
 Calls Tryz.prog 51 #[.l a ms.length cap,.i k] w fun e w'=>e=.returned (.i (kOb k ms ms.length))/\Bw w w':=by
 have HF:=hid h;have HL:=yB hl hls;have HK:=yB hk hk2;clear h hl hk hk2 hls;go_in;go_wp2
 go_loopw [1,5] (fun kv iv wr=>∃i:Nat,i<=ms.length/\kv=.i (kOb k ms i)/\iv=.i i/\Bw w wr) (fun _ iv _=>ms.length-(intOf iv).toNat)
 case atStart=>exact⟨0,Nat.zero_le _,rfl,rfl,bRf _ _⟩
 case round=>
  obtain⟨i,hile,rfl,rfl,hB⟩:=hrel
  by_cases hlt:i<ms.length
  ·have hltI:(i:Int)<(ms.length:Int):=by omega
   have HKI:Hid (kOb k ms (i+1)=zs9 (kOb k ms i) (jo ms i)):=rfl;have hkb:=zrg k ms i HL.o.2;have HMX:Hid (zk4 k ms i=zhu (kOb k ms i) (jo ms i)):=rfl
   generalize kOb k ms i=kk at hkb HKI HMX ⊢
   have HB:Hid (0<kk/\kk<7000000000000000000):=by have a:=HK.o;have b:=HL.o.1;exact⟨by omega,by omega⟩
   clear hkb;obtain⟨bo,C,rfl,hlo,hbo,hC,hsz,hr⟩:=HF.o.rows (by omega);obtain⟨a0,a1,c0,c1,hx⟩:=hr i hlt;rw[HMX.o]at hx;have HFX:=hid (HL.o.2 i)
   generalize jo ms i=x at hx HKI HMX HFX
   have HR0:Hid (jh w bo 116 C 7 i #[.s (zhu kk x).kd,.s (zhu kk x).nm,.s (zhu kk x).tm,.l a0 (zhu kk x).vs.length c0,.bool (zhu kk x).en,.l a1 (zhu kk x).hs.length c1,.i (zhu kk x).vr]):=jh.new hC hx.cell;have HT0:Hid (zD w a0 (zhu kk x).vs):=hx.l0.at (by show(zmg _ _).length<=_;rw[zbw];have b:=HFX.o;unfold maxLen;omega) (zkj _ _ (by have a:=HB.o;have b:=HFX.o;omega) (by have a:=HB.o;have b:=HFX.o;omega));have HT1:Hid (zD w a1 (zhu kk x).hs):=hx.l1.at (by show(zmg _ _).length<=_;rw[zbw];have b:=HFX.o;unfold maxLen;omega) (zkj _ _ (by have a:=HB.o;have b:=HFX.o;omega) (by have a:=HB.o;have b:=HFX.o;omega));have HR1:Hid (jh wr bo 116 C 7 i #[.s (mkT (kk)),.s (mkT (kk+1)),.s (mkT (kk+1+1)),.l a0 x.vs.length c0,.bool ((kk+1+1+1+x.vs.length) % 3 == 0),.l a1 x.hs.length c1,.i (kk+1+1+1+x.vs.length+1+x.hs.length)]):=by have hh:=(HR0.o).left (Left.of_below (fun _=>False) (hB.mono (Nat.le_refl _))) (fun h=>h);unfold zhu at hh;simp only[zbw]at hh;exact hh
   have HB0:=hid hB;clear hr hx hlo hbo hC hsz hB HR0;have hv1:wr.drew.cell? (aD bo (i*7))=some (.s (mkT (kk))):=by have hh:=(HR1.o).cell 0 (by omega);rw[Nat.add_zero]at hh;exact hh
   have hlt1:bo<wr.drew.heap.size:=(HR1.o).lt;have hBd:Below wr.drew.heap.size wr wr.drew:=(bRf _ _).drew;go_wp2_with fail
   go_region_held3 (fun w'=>w'.cell? (aD bo (i*7))=some (.s (mkT (kk)))) (exact hv1) (first|(go_at_call 104;refine(yG _ _ (by have a:=HB.o;have b:=HFX.o;omega) (by have a:=HB.o;have b:=HFX.o;omega)).mono ?_;rintro e wm1⟨rfl,hb⟩;have hv1:=(hb.cell (p:=(aD bo (i*7))) hlt1).trans hv1;have hBd:=hBd.trans (hb.mono hBd.size);clear hb))
   all_goals have HR2:=hid ((HR1.o).below hBd)
   all_goals have HB1:=hid (HB0.o.trans (hBd.mono HB0.o.size))
   all_goals clear hBd hlt1 HR1 HB0
   have hw_13:wrap64 (kk+1)=kk+1:=zx _ ⟨by have a:=HB.o;have b:=HFX.o;omega,by have a:=HB.o;have b:=HFX.o;omega⟩;have hv2:wm1.drew.cell? (aD bo (i*7+1))=some (.s (mkT (kk+1))):=by have hh:=(HR2.o).cell 1 (by omega);exact hh
   have hlt2:bo<wm1.drew.heap.size:=(HR2.o).lt;have hBd:Below wm1.drew.heap.size wm1 wm1.drew:=(bRf _ _).drew;go_wp2_with fail
   clear hv1
   go_region_held3 (fun w'=>w'.cell? (aD bo (i*7+1))=some (.s (mkT (kk+1)))) (exact hv2) (first|(go_at_call 104;refine(yG _ _ (by have a:=HB.o;have b:=HFX.o;omega) (by have a:=HB.o;have b:=HFX.o;omega)).mono ?_;rintro e wm2⟨rfl,hb⟩;have hv2:=(hb.cell (p:=(aD bo (i*7+1))) hlt2).trans hv2;have hBd:=hBd.trans (hb.mono hBd.size);clear hb))
   all_goals have HR3:=hid ((HR2.o).below hBd)
   all_goals have HB2:=hid (HB1.o.trans (hBd.mono HB1.o.size))
   all_goals clear hBd hlt2 HR2 HB1
   have hw_23:wrap64 (kk+1+1)=kk+1+1:=zx _ ⟨by have a:=HB.o;have b:=HFX.o;omega,by have a:=HB.o;have b:=HFX.o;omega⟩;have hv3:wm2.drew.cell? (aD bo (i*7+2))=some (.s (mkT (kk+1+1))):=by have hh:=(HR3.o).cell 2 (by omega);exact hh
   have hlt3:bo<wm2.drew.heap.size:=(HR3.o).lt;have hBd:Below wm2.drew.heap.size wm2 wm2.drew:=(bRf _ _).drew;go_wp2_with fail
   clear hv2
   go_region_held3 (fun w'=>w'.cell? (aD bo (i*7+2))=some (.s (mkT (kk+1+1)))) (exact hv3) (first|(go_at_call 104;refine(yG _ _ (by have a:=HB.o;have b:=HFX.o;omega) (by have a:=HB.o;have b:=HFX.o;omega)).mono ?_;rintro e wm3⟨rfl,hb⟩;have hv3:=(hb.cell (p:=(aD bo (i*7+2))) hlt3).trans hv3;have hBd:=hBd.trans (hb.mono hBd.size);clear hb))
   all_goals have HR4:=hid ((HR3.o).below hBd)
   all_goals have HB3:=hid (HB2.o.trans (hBd.mono HB2.o.size))
   all_goals clear hBd hlt3 HR3 HB2
   have hw_33:wrap64 (kk+1+1+1)=kk+1+1+1:=zx _ ⟨by have a:=HB.o;have b:=HFX.o;omega,by have a:=HB.o;have b:=HFX.o;omega⟩;have hsl0:=(HR4.o).cell 3 (by omega);have hltl0:=(HR4.o).lt;go_wp2_with fail
   clear hv3 hsl0 hltl0;refine(zgX a0 c0 x.vs.length _ _ (HT0.o.mono HB3.o) (by have a:=HB.o;have b:=HFX.o;omega) (by have a:=HB.o;have b:=HFX.o;omega)).mono ?_;rintro e wm4⟨kq0,rfl,hke,hb⟩;obtain rfl:=hke;have HR5:=hid ((HR4.o).below hb);have HB4:=hid (HB3.o.trans (hb.mono HB3.o.size));clear hb HR4 HB3;have hng0:decide (kk+1+1+1+x.vs.length<0)=false:=by simp only[decide_eq_false_iff_not];have a:=HB.o;have b:=HFX.o;omega
   have hv_4:=(HR5.o).cell 4 (by omega);have hlt_4:=(HR5.o).lt;have htm:(kk+1+1+1+x.vs.length).tmod 3=(kk+1+1+1+x.vs.length) % 3:=Int.tmod_eq_emod_of_nonneg (by have a:=HB.o;have b:=HFX.o;omega);have hwm:wrap64 ((kk+1+1+1+x.vs.length) % 3)=(kk+1+1+1+x.vs.length) % 3:=zx _ ⟨by omega,by omega⟩;have hne_4:(((kk+1+1+1+x.vs.length) % 3 == 0) != ((kk+1+1+1+x.vs.length) % 3 == 0))=false:=by simp
   have hw_50:wrap64 (kk+1+1+1+x.vs.length+1)=kk+1+1+1+x.vs.length+1:=zx _ ⟨by have a:=HB.o;have b:=HFX.o;omega,by have a:=HB.o;have b:=HFX.o;omega⟩;have hsl1:=(HR5.o).cell 5 (by omega);have hltl1:=(HR5.o).lt;go_wp2_with fail
   clear hng0 hv_4 hlt_4 htm hwm hne_4 hsl1 hltl1;refine(zgX a1 c1 x.hs.length _ _ (HT1.o.mono HB4.o) (by have a:=HB.o;have b:=HFX.o;omega) (by have a:=HB.o;have b:=HFX.o;omega)).mono ?_;rintro e wm5⟨kq1,rfl,hke,hb⟩;obtain rfl:=hke;have HR6:=hid ((HR5.o).below hb);have HB5:=hid (HB4.o.trans (hb.mono HB4.o.size));clear hb HR5 HB4;have hng1:decide (kk+1+1+1+x.vs.length+1+x.hs.length<0)=false:=by simp only[decide_eq_false_iff_not];have a:=HB.o;have b:=HFX.o;omega
   have hv_6:=(HR6.o).cell 6 (by omega);have hlt_6:=(HR6.o).lt;have hne_6:((kk+1+1+1+x.vs.length+1+x.hs.length) != (kk+1+1+1+x.vs.length+1+x.hs.length))=false:=by simp
   have hw_65:wrap64 (kk+1+1+1+x.vs.length+1+x.hs.length+1)=kk+1+1+1+x.vs.length+1+x.hs.length+1:=zx _ ⟨by have a:=HB.o;have b:=HFX.o;omega,by have a:=HB.o;have b:=HFX.o;omega⟩;go_wp2_with fail
   have hkn:kk+1+1+1+x.vs.length+1+x.hs.length+1=kOb k ms (i+1):=by rw[HKI.o];rfl
   exact⟨⟨i+1,by omega,by first|rw[hw_65,hkn]|rw[hkn],by rw[wrap_one (by have:=HL.o.1;omega)],HB5.o⟩,yO hlt (by have:=HL.o.1;omega)⟩
  ·have e:i=ms.length:=by omega
   subst e;go_wp2
   go_ret;exact⟨rfl,hB⟩
structure PuE (c:Nat->Option Value)(x:Pu):Prop where
 cell:∀j,j<5->c j=(#[.s x.dr,.s x.tm,.s x.rs,.i x.am,.i x.un]:AV)[j]?
structure zc0 (lo:Nat)(w:World)(own:Nat->Lb)(a:OA)(n:Nat)(f:Nat->Pu):Prop where
 rows:0<n->∃b C,a=some (aD b 0)/\lo<=b/\own b=(3,0,0)/\w.heap[b]?=some (.cells C 140)/\n*5<=C.size/\∀i,i<n->PuE (fun j=>C[i*5+j]?) (f i)
theorem zc0.left {S:Nat->Prop}{own:Nat->Lb}{f:Nat->Pu}(h:zc0 lo w own a n f)(hl:Left S w w')(hS:∀k,(own k).1=3->¬S k):zc0 lo w' own a n f:=by
 refine⟨fun hn=>?_⟩;obtain⟨b,C,ha,hlo,hb,hC,hs,hr⟩:=h.rows hn;refine⟨b,C,ha,hlo,hb,(hl.out b (gES hC).1 (hS b (by rw[hb]))).trans hC,hs,hr⟩
theorem zc0.mono {own:Nat->Lb}{f:Nat->Pu}(h:zc0 lo w own a n f)(hb:Bw w w'):zc0 lo w' own a n f:=h.left (Left.of_below (fun _=>False) hb) (fun _ _ h=>h)
theorem zc0.own {own own':Nat->Lb}{f:Nat->Pu}(h:zc0 lo w own a n f)(he:∀k,k<w.heap.size->(own k).1=3->own' k=own k):zc0 lo w own' a n f:=by
 refine⟨fun hn=>?_⟩;obtain⟨b,C,ha,hlo,hb,hC,hs,hr⟩:=h.rows hn;refine⟨b,C,ha,hlo,(he b (gES hC).1 (by rw[hb])).trans hb,hC,hs,hr⟩
theorem zc0.low {lo':Nat}{own:Nat->Lb}{f:Nat->Pu}(h:zc0 lo w own a n f)(hl:lo'<=lo):zc0 lo' w own a n f:=by
 refine⟨fun hn=>?_⟩;obtain⟨b,C,ha,hlo,hb,hC,hs,hr⟩:=h.rows hn;refine⟨b,C,ha,Nat.le_trans hl hlo,hb,hC,hs,hr⟩
theorem zc0.same {own:Nat->Lb}{f f':Nat->Pu}(h:zc0 lo w own a n f)(he:∀i,i<n->f' i=f i):zc0 lo w own a n f':=by
 refine⟨fun hn=>?_⟩;obtain⟨b,C,ha,hlo,hb,hC,hs,hr⟩:=h.rows hn;refine⟨b,C,ha,hlo,hb,hC,hs,fun i hi=>?_⟩;rw[he i hi];exact hr i hi
def zfM (ms:List Pu)(i:Nat):Pu:=(ms[i]?).getD ⟨ByteArray.empty,ByteArray.empty,ByteArray.empty,0,0⟩
theorem zrG {ms:List Pu}{i:Nat}(h:i<ms.length):zfM ms i=ms[i]:=by unfold zfM;rw[List.getElem?_eq_getElem h];rfl
theorem zc0.at {own:Nat->Lb}{ms:List Pu}(h:zc0 lo w own a ms.length (zfM ms))(hs:∀i (h:i<ms.length),ms[i].Small)(hl:ms.length<=maxLen):zcp w a ms:=by
 refine⟨hl,hs,fun hne=>?_⟩;obtain⟨b,C,ha,hlo,hb,hC,hsz,hr⟩:=h.rows (List.length_pos_iff.2 hne);refine⟨b,0,ha,(gES hC).1,fun i hi j hj=>?_⟩;have hx:=hr i hi;rw[zrG hi]at hx;rw[cell_of_block hC,Nat.zero_add];exact hx.cell j hj
def zn1 (k:Int)(_x:Pu):Pu:=⟨(mkT (k)),(mkT (k+1)),(mkT (k+1+1)),(k+1+1+1),(k+1+1+1+1)⟩
def zts (k:Int)(_x:Pu):Int:=k+1+1+1+1+1
def kPu (k:Int)(ms:List Pu):Nat->Int
 | 0=>k
 | i+1=>zts (kPu k ms i) (zfM ms i)
def zlp (k:Int)(ms:List Pu)(i:Nat):Pu:=zn1 (kPu k ms i) (zfM ms i)
def znj (k:Int)(ms:List Pu)(i j:Nat):Pu:=if j<i then zlp k ms j else zfM ms j
theorem zqn (k:Int)(ms:List Pu)(i:Nat):k+i<=kPu k ms i/\kPu k ms i<=k+i*5:=by
 induction i with
 | zero=>exact⟨by show k+0<=k;omega,by show k<=k+0*5;omega⟩
 | succ i ih=>
  have h1:kPu k ms (i+1)=zts (kPu k ms i) (zfM ms i):=rfl;unfold zts at h1;rw[h1];exact⟨by omega,by omega⟩
theorem zgD (lo:Nat)(own:Nat->Lb)(a:OA)(cap:Nat)(ms:List Pu)(k:Int)(w:World)(h:zc0 lo w own a ms.length (zfM ms))(hl:ms.length<=1048576)(hk:0<k)(hk2:k<5000000000000000000) :
 Calls Tryz.prog 50 #[.l a ms.length cap,.i k] w fun e w'=>e=.returned (.i (kPu k ms ms.length))/\zc0 lo w' own a ms.length (zlp k ms)/\Left (fun q=>(own q).1=3) w w':=by
 have HF:=hid h;have HL:=hid hl;have HK:=yB hk hk2;clear h hl hk hk2;go_in;go_wp2
 go_loopw [1,5] (fun kv iv wr=>∃i:Nat,i<=ms.length/\kv=.i (kPu k ms i)/\iv=.i i/\Hid (zc0 lo wr own a ms.length (znj k ms i)/\Left (fun q=>(own q).1=3) w wr)) (fun _ iv _=>ms.length-(intOf iv).toNat)
 case atStart=>exact⟨0,Nat.zero_le _,rfl,rfl,HF.o.same (fun i _=>if_neg (Nat.not_lt_zero i)),Left.refl _ _⟩
 case round=>
  obtain⟨i,hile,rfl,rfl,HQ⟩:=hrel
  by_cases hlt:i<ms.length
  ·have hltI:(i:Int)<(ms.length:Int):=by omega
   have HKI:Hid (kPu k ms (i+1)=zts (kPu k ms i) (zfM ms i)):=rfl;have hkb:=zqn k ms i;have HMX:Hid (zlp k ms i=zn1 (kPu k ms i) (zfM ms i)):=rfl
   generalize kPu k ms i=kk at hkb HKI HMX ⊢
   have HB:Hid (0<kk/\kk<7000000000000000000):=by have a:=HK.o;have b:=HL.o;exact⟨by omega,by omega⟩
   clear hkb;obtain⟨bo,C,rfl,hlo,hbo,hC,hsz,hr⟩:=HQ.o.1.rows (by omega);have hx:=hr i hlt;rw[show znj k ms i i=zfM ms i from if_neg (Nat.lt_irrefl i)]at hx
   generalize zfM ms i=x at hx HKI HMX
   have HS:=hid (show i*5+5<=C.size by omega);have HRR:=j3 hlo hbo hC hsz;have M0:Hid (Mid own lo bo 140 C 5 i 3 wr wr #[.s x.dr,.s x.tm,.s x.rs,.i x.am,.i x.un] none none none [] [] []):=⟨jh.new hC hx.cell,rfl,Left.refl _ _,hbo,Or.inl ⟨rfl,rfl⟩,(fun _ h=>by cases h),Or.inl ⟨rfl,rfl⟩,(fun _ h=>by cases h),Or.inl ⟨rfl,rfl⟩,(fun _ h=>by cases h)⟩
   clear hr hx hlo hbo hC hsz;go_wp2_with fail
   refine(yG _ _ (by have a:=HB.o;omega) (by have a:=HB.o;omega)).mono ?_;rintro e wm1⟨rfl,hb⟩;have M1:=hid (M0.out.below hb);clear hb M0;obtain⟨y1,hv1⟩:=M1.out.ex 0 (by omega);have hf1:=fun o=>M1.out.row.fz o
   have hg1:=M1.out.row.lt;rw[Nat.add_zero]at hv1;have M2:=hid (M1.out.set 0 (.s (mkT (kk))) (by omega) HS.o);rw[Nat.add_zero]at M2;clear M1;have hw_2:wrap64 (kk+1)=kk+1:=zx _ ⟨by have a:=HB.o;omega,by have a:=HB.o;omega⟩;go_wp2_with fail
   clear hv1 hf1 hg1;refine(yG _ _ (by have a:=HB.o;omega) (by have a:=HB.o;omega)).mono ?_;rintro e wm2⟨rfl,hb⟩;have M3:=hid (M2.out.below hb);clear hb M2;obtain⟨y2,hv2⟩:=M3.out.ex 1 (by omega);have hf2:=fun o=>M3.out.row.fz o
   have hg2:=M3.out.row.lt;have M4:=hid (M3.out.set 1 (.s (mkT (kk+1))) (by omega) HS.o);clear M3;have hw_4:wrap64 (kk+1+1)=kk+1+1:=zx _ ⟨by have a:=HB.o;omega,by have a:=HB.o;omega⟩;go_wp2_with fail
   clear hv2 hf2 hg2;refine(yG _ _ (by have a:=HB.o;omega) (by have a:=HB.o;omega)).mono ?_;rintro e wm3⟨rfl,hb⟩;have M5:=hid (M4.out.below hb);clear hb M4;obtain⟨y3,hv3⟩:=M5.out.ex 2 (by omega);have hf3:=fun o=>M5.out.row.fz o
   have hg3:=M5.out.row.lt;have M6:=hid (M5.out.set 2 (.s (mkT (kk+1+1))) (by omega) HS.o);clear M5;have hw_6:wrap64 (kk+1+1+1)=kk+1+1+1:=zx _ ⟨by have a:=HB.o;omega,by have a:=HB.o;omega⟩;obtain⟨y4,hv4⟩:=M6.out.ex 3 (by omega);have hf4:=fun o=>M6.out.row.fz o
   have hg4:=M6.out.row.lt;have M7:=hid (M6.out.set 3 (.i (kk+1+1+1)) (by omega) HS.o);clear M6;have hw_7:wrap64 (kk+1+1+1+1)=kk+1+1+1+1:=zx _ ⟨by have a:=HB.o;omega,by have a:=HB.o;omega⟩;obtain⟨y5,hv5⟩:=M7.out.ex 4 (by omega);have hf5:=fun o=>M7.out.row.fz o
   have hg5:=M7.out.row.lt;have M8:=hid (M7.out.set 4 (.i (kk+1+1+1+1)) (by omega) HS.o);clear M7;have hw_8:wrap64 (kk+1+1+1+1+1)=kk+1+1+1+1+1:=zx _ ⟨by have a:=HB.o;omega,by have a:=HB.o;omega⟩;go_wp2
   go_roundw
   case rel=>
    have hkn:kk+1+1+1+1+1=kPu k ms (i+1):=HKI.o.symm;refine⟨i+1,by omega,by first|rw[hw_8,hkn]|rw[hkn],by rw[wrap_one (by have:=HL.o;omega)],⟨fun _=>?_⟩,HQ.o.2.trans (M8.out.left.wide ?_)⟩
    ·obtain⟨C',hC',hs',ho',hd'⟩:=M8.out.row.ex
     refine⟨bo,C',rfl,HRR.o.1,HRR.o.2.1,hC',by rw[hs'];exact HRR.o.2.2.2,fun z hz=>?_⟩
     by_cases ez:z=i
     ·subst ez
      rw[show znj k ms (z+1) z=zlp k ms z from if_pos (Nat.lt_succ_self z),HMX.o];exact⟨fun j hj=>hd' j hj⟩
     ·rw[show znj k ms (i+1) z=znj k ms i z by unfold znj;by_cases hz1:z<i <;> simp[hz1] <;> omega]
      obtain⟨b2,C2,h2a,_,_,h2C,_,h2r⟩:=HQ.o.1.rows (by omega)
      cases h2a
      obtain rfl:C2=C:=by have h3:=HRR.o.2.2.1;rw[h2C]at h3;cases h3;rfl
      exact⟨fun j hj=>(ho' _ (by omega)).trans ((h2r z hz).cell j hj)⟩
    ·rintro z (hz|hz|hz|hz) <;> rw[hz]
   case measure=>exact yO hlt (by have:=HL.o;omega)
  ·have e:i=ms.length:=by omega
   subst e;go_wp2
   go_ret;exact⟨rfl,HQ.o.1.same (fun j hj=>(if_pos hj).symm),HQ.o.2⟩
theorem zgP (lo:Nat)(own:Nat->Lb)(a:OA)(cap:Nat)(ms:List Pu)(k:Int)(w:World)(h:zc0 lo w own a ms.length (zlp k ms))(hl:ms.length<=1048576)(hk:0<k)(hk2:k<5000000000000000000) :
 Calls Tryz.prog 54 #[.l a ms.length cap,.i k] w fun e w'=>e=.returned (.i (kPu k ms ms.length))/\Bw w w':=by
 have HF:=hid h;have HL:=hid hl;have HK:=yB hk hk2;clear h hl hk hk2;go_in;go_wp2
 go_loopw [1,5] (fun kv iv wr=>∃i:Nat,i<=ms.length/\kv=.i (kPu k ms i)/\iv=.i i/\Bw w wr) (fun _ iv _=>ms.length-(intOf iv).toNat)
 case atStart=>exact⟨0,Nat.zero_le _,rfl,rfl,bRf _ _⟩
 case round=>
  obtain⟨i,hile,rfl,rfl,hB⟩:=hrel
  by_cases hlt:i<ms.length
  ·have hltI:(i:Int)<(ms.length:Int):=by omega
   have HKI:Hid (kPu k ms (i+1)=zts (kPu k ms i) (zfM ms i)):=rfl;have hkb:=zqn k ms i;have HMX:Hid (zlp k ms i=zn1 (kPu k ms i) (zfM ms i)):=rfl
   generalize kPu k ms i=kk at hkb HKI HMX ⊢
   have HB:Hid (0<kk/\kk<7000000000000000000):=by have a:=HK.o;have b:=HL.o;exact⟨by omega,by omega⟩
   clear hkb;obtain⟨bo,C,rfl,hlo,hbo,hC,hsz,hr⟩:=HF.o.rows (by omega);have hx:=hr i hlt;rw[HMX.o]at hx
   generalize zfM ms i=x at hx HKI HMX
   have HR0:Hid (jh w bo 140 C 5 i #[.s (zn1 kk x).dr,.s (zn1 kk x).tm,.s (zn1 kk x).rs,.i (zn1 kk x).am,.i (zn1 kk x).un]):=jh.new hC hx.cell;have HR1:Hid (jh wr bo 140 C 5 i #[.s (mkT (kk)),.s (mkT (kk+1)),.s (mkT (kk+1+1)),.i (kk+1+1+1),.i (kk+1+1+1+1)]):=by have hh:=(HR0.o).left (Left.of_below (fun _=>False) (hB.mono (Nat.le_refl _))) (fun h=>h);unfold zn1 at hh;exact hh
   have HB0:=hid hB;clear hr hx hlo hbo hC hsz hB HR0;have hv1:wr.drew.cell? (aD bo (i*5))=some (.s (mkT (kk))):=by have hh:=(HR1.o).cell 0 (by omega);rw[Nat.add_zero]at hh;exact hh
   have hlt1:bo<wr.drew.heap.size:=(HR1.o).lt;have hBd:Below wr.drew.heap.size wr wr.drew:=(bRf _ _).drew;go_wp2_with fail
   go_region_held3 (fun w'=>w'.cell? (aD bo (i*5))=some (.s (mkT (kk)))) (exact hv1) (first|(go_at_call 104;refine(yG _ _ (by have a:=HB.o;omega) (by have a:=HB.o;omega)).mono ?_;rintro e wm1⟨rfl,hb⟩;have hv1:=(hb.cell (p:=(aD bo (i*5))) hlt1).trans hv1;have hBd:=hBd.trans (hb.mono hBd.size);clear hb))
   all_goals have HR2:=hid ((HR1.o).below hBd)
   all_goals have HB1:=hid (HB0.o.trans (hBd.mono HB0.o.size))
   all_goals clear hBd hlt1 HR1 HB0
   have hw_11:wrap64 (kk+1)=kk+1:=zx _ ⟨by have a:=HB.o;omega,by have a:=HB.o;omega⟩;have hv2:wm1.drew.cell? (aD bo (i*5+1))=some (.s (mkT (kk+1))):=by have hh:=(HR2.o).cell 1 (by omega);exact hh
   have hlt2:bo<wm1.drew.heap.size:=(HR2.o).lt;have hBd:Below wm1.drew.heap.size wm1 wm1.drew:=(bRf _ _).drew;go_wp2_with fail
   clear hv1
   go_region_held3 (fun w'=>w'.cell? (aD bo (i*5+1))=some (.s (mkT (kk+1)))) (exact hv2) (first|(go_at_call 104;refine(yG _ _ (by have a:=HB.o;omega) (by have a:=HB.o;omega)).mono ?_;rintro e wm2⟨rfl,hb⟩;have hv2:=(hb.cell (p:=(aD bo (i*5+1))) hlt2).trans hv2;have hBd:=hBd.trans (hb.mono hBd.size);clear hb))
   all_goals have HR3:=hid ((HR2.o).below hBd)
   all_goals have HB2:=hid (HB1.o.trans (hBd.mono HB1.o.size))
   all_goals clear hBd hlt2 HR2 HB1
   have hw_21:wrap64 (kk+1+1)=kk+1+1:=zx _ ⟨by have a:=HB.o;omega,by have a:=HB.o;omega⟩;have hv3:wm2.drew.cell? (aD bo (i*5+2))=some (.s (mkT (kk+1+1))):=by have hh:=(HR3.o).cell 2 (by omega);exact hh
   have hlt3:bo<wm2.drew.heap.size:=(HR3.o).lt;have hBd:Below wm2.drew.heap.size wm2 wm2.drew:=(bRf _ _).drew;go_wp2_with fail
   clear hv2
   go_region_held3 (fun w'=>w'.cell? (aD bo (i*5+2))=some (.s (mkT (kk+1+1)))) (exact hv3) (first|(go_at_call 104;refine(yG _ _ (by have a:=HB.o;omega) (by have a:=HB.o;omega)).mono ?_;rintro e wm3⟨rfl,hb⟩;have hv3:=(hb.cell (p:=(aD bo (i*5+2))) hlt3).trans hv3;have hBd:=hBd.trans (hb.mono hBd.size);clear hb))
   all_goals have HR4:=hid ((HR3.o).below hBd)
   all_goals have HB3:=hid (HB2.o.trans (hBd.mono HB2.o.size))
   all_goals clear hBd hlt3 HR3 HB2
   have hw_31:wrap64 (kk+1+1+1)=kk+1+1+1:=zx _ ⟨by have a:=HB.o;omega,by have a:=HB.o;omega⟩;have hv_3:=(HR4.o).cell 3 (by omega);have hlt_3:=(HR4.o).lt;have hne_3:((kk+1+1+1) != (kk+1+1+1))=false:=by simp
   have hw_35:wrap64 (kk+1+1+1+1)=kk+1+1+1+1:=zx _ ⟨by have a:=HB.o;omega,by have a:=HB.o;omega⟩;have hv_4:=(HR4.o).cell 4 (by omega);have hlt_4:=(HR4.o).lt;have hne_4:((kk+1+1+1+1) != (kk+1+1+1+1))=false:=by simp
   have hw_39:wrap64 (kk+1+1+1+1+1)=kk+1+1+1+1+1:=zx _ ⟨by have a:=HB.o;omega,by have a:=HB.o;omega⟩;go_wp2_with fail
   have hkn:kk+1+1+1+1+1=kPu k ms (i+1):=by rw[HKI.o];rfl
   exact⟨⟨i+1,by omega,by first|rw[hw_39,hkn]|rw[hkn],by rw[wrap_one (by have:=HL.o;omega)],HB3.o⟩,yO hlt (by have:=HL.o;omega)⟩
  ·have e:i=ms.length:=by omega
   subst e;go_wp2
   go_ret;exact⟨rfl,hB⟩
end Go.Proofs.YtjnpjkigofldlaaGreat
