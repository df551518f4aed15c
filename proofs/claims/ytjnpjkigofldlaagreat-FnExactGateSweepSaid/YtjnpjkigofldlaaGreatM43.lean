import Derived.Test.YtjnpjkigofldlaaGreatM40
import Derived.Deep.CutRange
set_option maxRecDepth 20000
set_option maxHeartbeats 40000000
namespace Go.Proofs.YtjnpjkigofldlaaGreat
open Go.RowKit
variable {l:Lw}{b:Bk}
noncomputable def jM (l:Lw)(b:Bk):Bool:=yQ l.ts b&&(yV b&&zcV l b)
theorem ztB (ls:List Lg)(tm rs:BA):ls.any (zgL tm rs)=jA ls tm rs:=rfl
theorem zfP (h:yQ l.ts b=false):jM l b=false:=by unfold jM;rw[h];rfl
theorem zfj (h:yV b=false):jM l b=false:=by unfold jM;rw[h];simp
theorem zp3 (h:zcV l b=false):jM l b=false:=by unfold jM;rw[h];simp
theorem zoV (h:b.ps.all (yT b.ls b.tick)=true):∀i (h:i<b.ps.length),0<=b.ps[i].am/\b.ps[i].am<=1000000:=fun i hi=>by
 have h4:=List.all_eq_true.1 h _ (List.getElem_mem hi);unfold yT within at h4;simp only[Bool.and_eq_true,decide_eq_true_eq]at h4;omega
theorem znZ (l:Lw)(la lb lc:OA)(lca lcb lcc:Nat)(b:Bk)(a0 a1 a2 a3:OA)(c0 c1 c2 c3:Nat)(w:World)(hl:qp w l la lb lc)(hb:qj w b a0 a1 a2 a3)(htk:0<=b.tick/\b.tick<=1000000)(hz:qK b.os<=1048576) :
 Calls Tryz.prog 66 #[.agg (l.cells la lb lc lca lcb lcc),.agg (b.cells a0 a1 a2 a3 c0 c1 c2 c3)] w fun e w'=>e=.returned (.bool (jM l b))/\Bw w w':=by
 have HK:=hid hb;have HL:=hid hl;have HZ:=yB hz htk;clear hb hl hz htk;unfold Lw.cells Bk.cells;go_in
 go_upto_region 1 with fail
 refine jG (fun W=>Bw w W/\W.heap[w.heap.size]?=some (.cells (lC l la lb lc lca lcb lcc) 47)/\W.heap[w.heap.size+1]?=some (.cells (bC b a0 a1 a2 a3 c0 c1 c2 c3) 40)) ⟨zo _ _ _,(zK _ _ _).1,(zK _ _ _).2⟩ ?_;rintro W0⟨h01,h02,h03⟩;have HB:Hid (∀W,Bw W0 W->Bw w W/\(∀j,W.cell? (aD w.heap.size j)=(lC l la lb lc lca lcb lcc)[j]?)/\(∀j,W.cell? (aD (w.heap.size+1) j)=(bC b a0 a1 a2 a3 c0 c1 c2 c3)[j]?)):=fun W h=>⟨h01.trans (h.mono h01.size),fun j=>cell_of_block ((h.block _ (gES h02).1).trans h02),fun j=>cell_of_block ((h.block _ (gES h03).1).trans h03)⟩
 clear h01 h02 h03;have cX:=(HB.o W0 (bRf _ _)).2.2
 by_cases hln:b.ls.length<=10
 rotate_left
 ·have HF:Hid (jM l b=false):=zfP (by unfold yQ;rw[decide_eq_false hln];rfl)
  have hg:(10:Int)<(b.ls.length:Int):=by omega
  go_wp2
  go_ret;exact⟨ze HF.o.symm,(HB.o _ (bRf _ _)).1⟩
 have hg:decide ((10:Int)<(b.ls.length:Int))=false:=by simp;omega
 have HLN:=hid hln;clear hln
 by_cases hpn:b.ps.length<=24
 rotate_left
 ·have HF:Hid (jM l b=false):=zfj (by unfold yV;rw[decide_eq_false hpn];rfl)
  have hg2:(24:Int)<(b.ps.length:Int):=by omega
  go_wp2
  go_ret;exact⟨ze HF.o.symm,(HB.o _ (bRf _ _)).1⟩
 have hg2:decide ((24:Int)<(b.ps.length:Int))=false:=by simp;omega
 have HPN:=hid hpn;clear hpn;go_wp2_with fail
 clear hg hg2 cX
 go_loopg [5] b.ps.length (fun gn iv wr=>∃k:Nat,k+gn=b.ps.length/\iv=.i k/\Hid ((b.ps.take k).all (yT b.ls b.tick)=true/\za1 zan b.ps k/\Bw W0 wr))
 case atStart=>exact⟨0,by omega,rfl,by simp,fun i _ h=>by omega,bRf _ _⟩
 case round=>
  obtain⟨k,hk,rfl,HQ⟩:=hrel;have hkn:k<=24:=by have:=HPN.o;omega
  have cX:=(HB.o _ HQ.o.2.2).2.2;have hstep:IntKind.i64.wrap ((k:Int)+1)=((k+1:Nat):Int):=by rw[IntKind.wrap_i64];omega
  by_cases hlt:k<b.ps.length
  ·obtain⟨g1,rfl⟩:∃g,gk=g+1:=⟨gk-1,by omega⟩
   obtain⟨ob,off,rfl,hob,d0,d1,d2,d3,d4⟩:=HK.o.ps.load (HB.o _ HQ.o.2.2).1 k hlt;have hltI:(k:Int)<(b.ps.length:Int):=by omega
   have HSm:=hid (HK.o.ps.small k hlt);have HNo:Hid (yT b.ls b.tick b.ps[k]=false->jM l b=false):=fun h=>zfj (by unfold yV;rw[zaE _ _ _ hlt h];simp)
   have HNa:Hid (∀h0:0<k,0<=zan (b.ps[k-1]'(by omega)) b.ps[k]->jM l b=false):=fun h0 h=>zfj (by unfold yV;rw[zeI hlt h0 (Int.not_lt.2 h)];simp)
   have HYes:Hid (yT b.ls b.tick b.ps[k]=true->(∀h0:0<k,zan (b.ps[k-1]'(by omega)) b.ps[k]<0)->(b.ps.take (k+1)).all (yT b.ls b.tick)=true/\za1 zan b.ps (k+1)):=fun h h'=>⟨by rw[qM _ _ _ hlt,HQ.o.1,h];rfl,zfY HQ.o.2.1 hlt (zj6 hlt h')⟩
   obtain⟨v,hvE⟩:∃v:Pu,∀h0:0<k,v=b.ps[k-1]'(by omega):=by
    by_cases h0:0<k
    ·exact⟨b.ps[k-1]'(by omega),fun _=>rfl⟩
    ·exact⟨b.ps[k],fun h=>absurd h h0⟩
   have HVC:Hid (∀W,Bw w W->0<k->W.cell? (aD ob (off+(k-1)*5))=some (.s v.dr)/\W.cell? (aD ob (off+(k-1)*5+1))=some (.s v.tm)/\W.cell? (aD ob (off+(k-1)*5+2))=some (.s v.rs)/\W.cell? (aD ob (off+(k-1)*5+3))=some (.i v.am)/\W.cell? (aD ob (off+(k-1)*5+4))=some (.i v.un)):=fun W hW h0=>by
    obtain⟨ob',off',e',-,e0,e1,e2,e3,e4⟩:=HK.o.ps.load hW (k-1) (by omega)
    cases e'
    rw[hvE h0];exact⟨e0,e1,e2,e3,e4⟩
   have HVE:=hid hvE;clear hvE hob;obtain⟨u,huE⟩:=xN (b.ps[k]);rw[<- huE]at d0 d1 d2 d3 d4 HSm HNo HYes;have HNa:Hid (∀h0:0<k,0<=zan v u->jM l b=false):=fun h0 h=>HNa.o h0 (by rw[<- HVE.o h0,<- huE];exact h)
   have HYes:Hid (yT b.ls b.tick u=true->(0<k->zan v u<0)->(b.ps.take (k+1)).all (yT b.ls b.tick)=true/\za1 zan b.ps (k+1)):=fun h h'=>HYes.o h fun h0=>by rw[<- HVE.o h0];exact h' h0
   clear huE HVE
   go_upto_region 7 with fail
   refine jG (fun W=>Bw W0 W/\W.heap[wr.heap.size]?=some (.cells #[.s u.dr,.s u.tm,.s u.rs,.i u.am,.i u.un] 140)) ⟨HQ.o.2.2.alloc HQ.o.2.2.size _,(MapKept.heap_alloc wr _).1⟩ ?_;rintro W5⟨h51,h52⟩;obtain⟨kP,hkP⟩:∃x,x=wr.heap.size:=⟨_,rfl⟩
   rw[<- hkP]at h52 ⊢
   have HV:Hid (∀W,Bw W5 W->((∀j,W.cell? (aD (w.heap.size+1) j)=(bC b a0 a1 a2 (some (aD ob off)) c0 c1 c2 c3)[j]?)/\(∀j,W.cell? (aD kP j)=(#[.s u.dr,.s u.tm,.s u.rs,.i u.am,.i u.un]:AV)[j]?)/\(0<k->W.cell? (aD ob (off+(k-1)*5))=some (.s v.dr)/\W.cell? (aD ob (off+(k-1)*5+1))=some (.s v.tm)/\W.cell? (aD ob (off+(k-1)*5+2))=some (.s v.rs)/\W.cell? (aD ob (off+(k-1)*5+3))=some (.i v.am)/\W.cell? (aD ob (off+(k-1)*5+4))=some (.i v.un)))/\Bw W0 W/\qj W b a0 a1 a2 (some (aD ob off))):=fun W h=>by
    have h5:=h51.trans (h.mono h51.size);have hB:=HB.o _ h5;exact⟨⟨hB.2.2,fun j=>cell_of_block ((h.block _ (gES h52).1).trans h52),HVC.o _ hB.1⟩,h5,HK.o.mono hB.1⟩
   obtain⟨x1,hx1⟩:∃x,x=(!zC u.dr||decide (zep (zgL u.tm u.rs) b.ls<0)):=⟨_,rfl⟩
   obtain⟨x2,hx2⟩:∃x,x=(x1||!(decide (1<=u.am)&&decide (u.am<=1000000))):=⟨_,rfl⟩
   obtain⟨x3,hx3⟩:∃x,x=(x2||!(decide (b.tick<=u.un)&&decide (u.un<=b.tick+10))):=⟨_,rfl⟩
   obtain⟨x4,hx4⟩:∃x,x=(x3||(decide (0<k)&&decide (0<=zan v u))):=⟨_,rfl⟩
   have HX:=j3 hx1 hx2 hx3 hx4;have hwr:IntKind.i64.wrap (b.tick+10)=b.tick+10:=by rw[IntKind.wrap_i64];have:=HZ.o;omega
   have hkw:IntKind.i64.wrap ((k:Int)-1)=(k:Int)-1:=by rw[IntKind.wrap_i64];omega
   have HD5:=hid (show Bw W5 W5.drew from(bRf _ _).drew);clear h51 h52 hkP d0 d1 d2 d3 d4 HVC hx1 hx2 hx3 hx4 cX;refine wp_region_held_drew (S:=fun W=>(∀j,W.cell? (aD (w.heap.size+1) j)=(bC b a0 a1 a2 (some (aD ob off)) c0 c1 c2 c3)[j]?)/\(∀j,W.cell? (aD kP j)=(#[.s u.dr,.s u.tm,.s u.rs,.i u.am,.i u.un]:AV)[j]?)/\(0<k->W.cell? (aD ob (off+(k-1)*5))=some (.s v.dr)/\W.cell? (aD ob (off+(k-1)*5+1))=some (.s v.tm)/\W.cell? (aD ob (off+(k-1)*5+2))=some (.s v.rs)/\W.cell? (aD ob (off+(k-1)*5+3))=some (.i v.am)/\W.cell? (aD ob (off+(k-1)*5+4))=some (.i v.un))) (by kernel_rfl) (HV.o _ HD5.o).1 (fun H_=>?_);obtain⟨V,hVe⟩:∃x,x=W5.drew:=⟨_,rfl⟩
   rw[<- hVe]at HD5 H_ ⊢;clear hVe;refine tG 0 ?_;refine tG 1 ?_;refine cH 2 rfl fun K hK=>?_
   go_simp
   refine(yg _ _ HSm.o.dr).mono ?_;rintro e w6⟨rfl,rfl⟩
   (try go_wp2_with fail)
   refine hK.out _ _ H_ (fun H_=>?_);clear hK K
   (try simp only[Act.put,sA,s0,sS])
   refine tG 3 ?_;refine tG 4 ?_;refine sF 5 ?_;refine sF 6 ?_;refine sF 7 ?_;refine sF 8 ?_;refine sF 9 ?_;refine cF 10 (.i (zep (zgL u.tm u.rs) b.ls)) (fun W=>Bw W5 W) (fun hg K hK=>?_) ?_ HD5.o
   ·go_simp
    refine(znL b a0 a1 a2 (some (aD ob off)) c0 c1 c2 c3 _ _ _ (HV.o _ HD5.o).2.2 (by have:=HLN.o;omega)).mono ?_;rintro e w6⟨rfl,hb6⟩
    (try go_wp2_with fail)
    have hb6:=HD5.o.trans (hb6.mono HD5.o.size)
    first|exact⟨rfl,hK.out _ (HV.o _ hb6).1 hb6⟩|exact hK.out _ (HV.o _ hb6).1 hb6
   rintro w7 hw7 H_;have HD6:=hid hw7;clear hw7 HD5
   (try simp only[Act.put,sA,s0,sS])
   refine sF 11 ?_;refine tG (v:=.bool x1) 12 ?_ (hy:=by intro w hSw;rw[HX.o.1];cases h:zC u.dr <;> go_simp);refine tG 13 ?_;refine sF 14 ?_;refine sF 15 ?_;refine cF 16 (.bool (decide (1<=u.am)&&decide (u.am<=1000000))) (fun W=>Bw W5 W) (fun hg K hK=>?_) ?_ HD6.o
   ·go_simp
    refine(zah _ _ _ _).mono ?_;rintro e w6⟨rfl,rfl⟩
    (try go_wp2_with fail)
    first|exact⟨rfl,hK.out _ H_ HD6.o⟩|exact hK.out _ H_ HD6.o
   rintro w8 hw8 H_;have HD7:=hid hw8;clear hw8 HD6
   (try simp only[Act.put,sA,s0,sS])
   refine sF 17 ?_;refine tG (v:=.bool x2) 18 ?_ (hy:=by intro w hSw;rw[HX.o.2.1];cases h:x1 <;> go_simp);refine tG 19 ?_;refine sF 20 ?_;refine sF 21 ?_;refine sF 22 ?_;refine sF 23 ?_;refine sF 24 ?_;refine sF 25 ?_;refine sF 26 ?_;refine cF 27 (.bool (decide (b.tick<=u.un)&&decide (u.un<=b.tick+10))) (fun W=>Bw W5 W) (fun hg K hK=>?_) ?_ HD7.o
   ·go_simp
    refine(zah _ _ _ _).mono ?_;rintro e w6⟨rfl,rfl⟩
    (try go_wp2_with fail)
    first|exact⟨rfl,hK.out _ H_ HD7.o⟩|exact hK.out _ H_ HD7.o
   rintro w9 hw9 H_;have HD8:=hid hw9;clear hw9 HD7
   (try simp only[Act.put,sA,s0,sS])
   refine sF 28 ?_;refine tG (v:=.bool x3) 29 ?_ (hy:=by intro w hSw;rw[HX.o.2.2.1];cases h:x2 <;> go_simp);refine tG 30 ?_;refine sF 31 ?_;refine sF 32 ?_;refine sF 33 ?_;refine sFT 34 ?_;refine sFT 35 ?_;refine sFT 36 ?_;refine sFT 37 ?_;have hki:decide (0<k)=true->0<k/\(0:Int)<=(k:Int)-1/\(k:Int)-1<(b.ps.length:Int)/\((k:Int)-1).toNat=k-1/\(1:Int)<=(k:Int):=fun h=>by have h:=of_decide_eq_true h;omega
   have HKI:=hid hki;clear hki
   refine sFT 38 ?_ (hy:=by
    intro hg hx w hSw;obtain⟨-,h1,h2,h3,h4⟩:=HKI.o hx
    go_simp
    try with_reducible rfl)
   refine sFT (v:=.agg #[.s v.dr,.s v.tm,.s v.rs,.i v.am,.i v.un]) 39 ?_ (hy:=by
    intro hg hx w hSw;obtain⟨h0,h1,h2,h3,h4⟩:=HKI.o hx;obtain⟨e0,e1,e2,e3,e4⟩:=hSw.2.2 h0
    go_simp)
   refine sFT 40 ?_;refine cFT 41 (.i (zan v u)) (fun W=>Bw W5 W) (fun hg hx K hK=>?_) ?_ HD8.o
   ·go_simp
    refine(zlz v u _).mono ?_;rintro e w6⟨rfl,hb6⟩
    (try go_wp2_with fail)
    have hb6:=HD8.o.trans (hb6.mono HD8.o.size)
    first|exact⟨rfl,hK.out _ (HV.o _ hb6).1 hb6⟩|exact hK.out _ (HV.o _ hb6).1 hb6
   rintro w10 hw10 H_;have HD9:=hid hw10;clear hw10 HD8
   (try simp only[Act.put,sA,s0,sS])
   refine sFT 42 ?_
   refine sF (v:=.bool (decide (0<k)&&decide (0<=zan v u))) 43 ?_ (hy:=by
    intro hg w hSw
    cases h:decide (0<k) <;> go_simp)
   refine tG (v:=.bool x4) 44 ?_ (hy:=by intro w hSw;rw[HX.o.2.2.2];cases h:x3 <;> go_simp);refine wpAnyH_done (by kernel_rfl) ?_ _;clear H_ HKI
   have HPA:Hid (yT b.ls b.tick u=!x3):=by
    unfold Hid yT within
    have e:jA b.ls u.tm u.rs=!decide (zep (zgL u.tm u.rs) b.ls<0):=by
     rw[<- ztB]
     cases hq:b.ls.any (zgL u.tm u.rs) with
     | true=>rw[decide_eq_false (fun h=>by have:=(zhk _ _).1 h;rw[hq]at this;cases this)];rfl
     | false=>rw[decide_eq_true ((zhk _ _).2 hq)];rfl
    rw[e,HX.o.2.2.1,HX.o.2.1,HX.o.1]
    cases zC u.dr <;> cases decide (zep (zgL u.tm u.rs) b.ls<0) <;> cases (decide (1<=u.am)&&decide (u.am<=1000000)) <;> cases (decide (b.tick<=u.un)&&decide (u.un<=b.tick+10)) <;> rfl
   have HR9:=hid (HV.o _ HD9.o).2.1
   cases x4 with
   | true=>
    have HF:Hid (jM l b=false):=by
     cases x3 with
     | true=>exact HNo.o HPA.o
     | false=>
      have h:=HX.o.2.2.2.symm;simp only[Bool.false_or,Bool.and_eq_true,decide_eq_true_eq]at h;exact HNa.o (by omega) h.2
    go_wp2
    go_ret;exact⟨ze HF.o.symm,(HB.o _ HR9.o).1⟩
   | false=>
    have HY:Hid ((b.ps.take (k+1)).all (yT b.ls b.tick)=true/\za1 zan b.ps (k+1)):=by
     have h:=HX.o.2.2.2.symm;simp only[Bool.or_eq_false_iff]at h;refine HYes.o (by rw[HPA.o,h.1];rfl) fun h0=>?_
     have h2:=h.2;rw[decide_eq_true (by omega:0<k)]at h2
     have:=of_decide_eq_false h2
     omega
    go_wp2
    go_roundg g1
    case measure=>omega
    case rel=>exact⟨k+1,by omega,rfl,HY.o.1,HY.o.2,HR9.o⟩
  ·have e:k=b.ps.length:=by omega
   subst e
   have HAm:Hid (b.ps.all (yT b.ls b.tick)=true):=by
    have:=HQ.o.1
    rwa [tOl (Nat.le_refl _)]at this
   have HPu:Hid (yV b=true):=by
    unfold Hid yV;rw[zg1 HQ.o.2.1 (Nat.le_refl _),decide_eq_true HPN.o,HAm.o];rfl
   have HQ0:=hid HQ.o.2.2;clear HQ hlt hk hstep;go_wp2_with fail
   clear cX
   go_loopg [7] b.ls.length (fun gn iv wr=>∃k:Nat,k+gn=b.ls.length/\iv=.i k/\Hid ((b.ls.take k).all (yH l.ts)=true/\za1 qz b.ls k/\(b.ls.take k).all (zbZ l b)=true/\Bw W0 wr))
   case atStart=>exact⟨0,by omega,rfl,by simp,fun i _ h=>by omega,by simp,HQ0.o⟩
   case round=>
    clear HQ0;obtain⟨k,hk,rfl,HQ⟩:=hrel;have hkn':k<=10:=by have:=HLN.o;omega
    have cX:=(HB.o _ HQ.o.2.2.2).2.2;have hstep:IntKind.i64.wrap ((k:Int)+1)=((k+1:Nat):Int):=by rw[IntKind.wrap_i64];omega
    by_cases hlt:k<b.ls.length
    ·obtain⟨g1,rfl⟩:∃g,gk=g+1:=⟨gk-1,by omega⟩
     obtain⟨ob,off,rfl,hob,d0,d1,d2,d3⟩:=HK.o.ls.load (HB.o _ HQ.o.2.2.2).1 k hlt;have hltI:(k:Int)<(b.ls.length:Int):=by omega
     have HSm:=hid (HK.o.ls.small k hlt);have HNo:Hid (yH l.ts b.ls[k]=false->jM l b=false):=fun h=>zfP (by unfold yQ;rw[zaE _ _ _ hlt h];simp)
     have HNs:Hid (zbZ l b b.ls[k]=false->jM l b=false):=fun h=>zp3 (by unfold zcV;rw[zaE _ _ _ hlt h])
     obtain⟨v,hvE⟩:∃v:Lg,∀h0:0<k,v=b.ls[k-1]'(by omega):=by
      by_cases h0:0<k
      ·exact⟨b.ls[k-1]'(by omega),fun _=>rfl⟩
      ·exact⟨b.ls[k],fun h=>absurd h h0⟩
     have HNa:Hid (0<k->0<=qz v b.ls[k]->jM l b=false):=fun h0 h=>zfP (by unfold yQ;rw[zeI hlt h0 (Int.not_lt.2 (by rw[<- hvE h0];exact h))];simp)
     have HYes:Hid (yH l.ts b.ls[k]=true->(0<k->qz v b.ls[k]<0)->zbZ l b b.ls[k]=true->(b.ls.take (k+1)).all (yH l.ts)=true/\za1 qz b.ls (k+1)/\(b.ls.take (k+1)).all (zbZ l b)=true):=fun h h' h''=>⟨by rw[qM _ _ _ hlt,HQ.o.1,h];rfl,zfY HQ.o.2.1 hlt (zj6 hlt fun h0=>by rw[<- hvE h0];exact h' h0),by rw[qM _ _ _ hlt,HQ.o.2.2.1,h''];rfl⟩
     have HVC:Hid (∀W,Bw w W->0<k->W.cell? (aD ob (off+(k-1)*4))=some (.s v.tm)/\W.cell? (aD ob (off+(k-1)*4+1))=some (.s v.rs)):=fun W hW h0=>by
      obtain⟨ob',off',e',-,e0,e1,e2,e3⟩:=HK.o.ls.load hW (k-1) (by omega)
      cases e'
      rw[hvE h0];exact⟨e0,e1⟩
     obtain⟨g,hgE⟩:=xN (b.ls[k]);rw[<- hgE]at d0 d1 d2 d3 HSm HNo HNs HNa HYes;clear hvE hob hgE
     go_upto_region 13 with fail
     refine jG (fun W=>Bw W0 W/\W.heap[wr.heap.size]?=some (.cells #[.s g.tm,.s g.rs,.i g.mo,.i g.fr] 138)) ⟨HQ.o.2.2.2.alloc HQ.o.2.2.2.size _,(MapKept.heap_alloc wr _).1⟩ ?_;rintro W5⟨h51,h52⟩;obtain⟨kG,hkG⟩:∃x,x=wr.heap.size:=⟨_,rfl⟩
     rw[<- hkG]at h52 ⊢
     have HV:Hid (∀W,Bw W5 W->Bw W0 W/\Bw w W/\((∀j,W.cell? (aD w.heap.size j)=(lC l la lb lc lca lcb lcc)[j]?)/\(∀j,W.cell? (aD (w.heap.size+1) j)=(bC b a0 a1 (some (aD ob off)) a3 c0 c1 c2 c3)[j]?)/\(∀j,W.cell? (aD kG j)=(#[.s g.tm,.s g.rs,.i g.mo,.i g.fr]:AV)[j]?))):=fun W h=>by
      have h5:=h51.trans (h.mono h51.size);have hB:=HB.o _ h5;exact⟨h5,hB.1,hB.2.1,hB.2.2,fun j=>cell_of_block ((h.block _ (gES h52).1).trans h52)⟩
     clear h51 h52 hkG d0 d1 d2 d3 cX HQ;have HF5:=hid (HV.o W5 (bRf _ _));obtain⟨y,hyE⟩:=xN (!yH l.ts g);have HY:=hid hyE;clear hyE
     go_cut [116] from 76 to 160 (fun vx W=>vx=.bool y/\W=W5)
     case first=>
      have cL:=HF5.o.2.2.1;have cX:=HF5.o.2.2.2.1;have cG:=HF5.o.2.2.2.2;go_wp2_with fail
      refine(zek _ _ l.ts g.tm _ (HL.o.ts.mono HF5.o.2.1)).mono ?_;rintro e w6⟨rfl,rfl⟩
      rcases t1:yD l.ts g.tm with _|_
      ·go_wp2
       go_meet
       case rel=>exact⟨by rw[HY.o];unfold yH;simp[t1],rfl⟩
      go_wp2_with fail
      refine(yg g.rs _ HSm.o.rs).mono ?_;rintro e w6⟨rfl,rfl⟩
      rcases t2:zC g.rs with _|_
      ·go_wp2
       go_meet
       case rel=>exact⟨by rw[HY.o];unfold yH;simp[t1,t2],rfl⟩
      rcases t3:decide (g.fr<0) with _|_ <;> rcases t4:decide (g.mo<g.fr) with _|_ <;> rcases t5:decide ((1000000:Int)<g.mo) with _|_ <;> (go_wp2;go_meet;case rel=>exact⟨by rw[HY.o];unfold yH jO;rw[t1,t2];simp only[decide_eq_false_iff_not,decide_eq_true_eq]at t3 t4 t5;simp;omega,rfl⟩)
     case rest=>
      obtain⟨rfl,rfl⟩:=hcut
      cases y with
      | true=>
       have HF:Hid (jM l b=false):=HNo.o (by have:=HY.o;revert this;cases yH l.ts g <;> simp);go_wp2
       go_ret;exact⟨ze HF.o.symm,HF5.o.2.1⟩
      | false=>
       have HLa:Hid (yH l.ts g=true):=by have:=HY.o;revert this;unfold Hid;cases yH l.ts g <;> simp
       have HFr:Hid (0<=g.fr/\g.fr<=1000000):=by
        have h:=HLa.o;unfold yH jO at h;simp only[Bool.and_eq_true,decide_eq_true_eq]at h;unfold Hid;omega
       go_upto_region 15 with fail
       have hkw:IntKind.i64.wrap ((k:Int)-1)=(k:Int)-1:=by rw[IntKind.wrap_i64];omega
       have hki:decide (0<k)=true->0<k/\(0:Int)<=(k:Int)-1/\(k:Int)-1<(b.ls.length:Int)/\((k:Int)-1).toNat=k-1/\(1:Int)<=(k:Int):=fun h=>by have h:=of_decide_eq_true h;omega
       have HKI:=hid hki;clear hki;have HS2:Hid (∀W,Bw wc W->(∀j,W.cell? (aD (w.heap.size+1) j)=(bC b a0 a1 (some (aD ob off)) a3 c0 c1 c2 c3)[j]?)/\(∀j,W.cell? (aD kG j)=(#[.s g.tm,.s g.rs,.i g.mo,.i g.fr]:AV)[j]?)/\(0<k->W.cell? (aD ob (off+(k-1)*4))=some (.s v.tm)/\W.cell? (aD ob (off+(k-1)*4+1))=some (.s v.rs))):=fun W h=>⟨(HV.o _ h).2.2.2.1,(HV.o _ h).2.2.2.2,HVC.o _ (HV.o _ h).2.1⟩
       refine wp_region_held_drew (S:=fun W=>(∀j,W.cell? (aD (w.heap.size+1) j)=(bC b a0 a1 (some (aD ob off)) a3 c0 c1 c2 c3)[j]?)/\(∀j,W.cell? (aD kG j)=(#[.s g.tm,.s g.rs,.i g.mo,.i g.fr]:AV)[j]?)/\(0<k->W.cell? (aD ob (off+(k-1)*4))=some (.s v.tm)/\W.cell? (aD ob (off+(k-1)*4+1))=some (.s v.rs))) (by kernel_rfl) (HS2.o _ (bRf _ _).drew) (fun H_=>?_);refine tG 0 ?_;refine tG 1 ?_;refine tG 2 ?_;refine sT 3 ?_;refine sT 4 ?_;refine sT 5 ?_;refine sT 6 ?_
       refine sT 7 ?_ (hy:=by
        intro hg w hSw;obtain⟨-,h1,h2,h3,h4⟩:=HKI.o hg
        go_simp
        try with_reducible rfl)
       refine sT 8 ?_
       refine sT (v:=.s v.tm) 9 ?_ (hy:=by
        intro hg w hSw;obtain⟨h0,h1,h2,h3,h4⟩:=HKI.o hg;obtain⟨e0,e1⟩:=hSw.2.2 h0
        go_simp)
       refine sT 10 ?_;refine sT 11 ?_;refine sT 12 ?_;refine sT 13 ?_
       refine sT 14 ?_ (hy:=by
        intro hg w hSw;obtain⟨-,h1,h2,h3,h4⟩:=HKI.o hg
        go_simp
        try with_reducible rfl)
       refine sT 15 ?_
       refine sT (v:=.s v.rs) 16 ?_ (hy:=by
        intro hg w hSw;obtain⟨h0,h1,h2,h3,h4⟩:=HKI.o hg;obtain⟨e0,e1⟩:=hSw.2.2 h0
        go_simp)
       refine sT 17 ?_;refine sT 18 ?_;refine sT 19 ?_;refine sT 20 ?_;refine cT 21 (.i (qz v g)) (fun W=>W=wc.drew) (fun hg K hK=>?_) ?_ rfl
       ·go_simp
        refine(zis v.tm v.rs g.tm g.rs _).mono ?_;rintro e w6⟨rfl,rfl⟩
        (try go_wp2_with fail)
        first|exact⟨rfl,hK.out _ H_ rfl⟩|exact hK.out _ H_ rfl
       rintro _ rfl H_
       (try simp only[Act.put,sA,s0,sS])
       refine sT 22 ?_;refine tG (v:=.bool (decide (0<k)&&decide (0<=qz v g))) 23 ?_ (hy:=by intro w hSw;cases h:decide (0<k) <;> go_simp);refine wpAnyH_done (by kernel_rfl) ?_ _;clear H_
       rcases hT:(decide (0<k)&&decide (0<=qz v g)) with _|_
       rotate_left
       ·have HF:Hid (jM l b=false):=by
         simp only[Bool.and_eq_true,decide_eq_true_eq]at hT;exact HNa.o (by omega) hT.2
        go_wp2
        go_ret;exact⟨ze HF.o.symm,(HV.o _ (bRf _ _).drew).2.1⟩
       have HT6:Hid (0<k->qz v g<0):=fun h0=>by
        rw[decide_eq_true (by omega:0<k),Bool.true_and]at hT
        have:=of_decide_eq_false hT
        omega
       clear hT
       go_upto_region 17 with fail
       have HD2:=hid (show Bw wc wc.drew.drew from(bRf _ _).drew.drew);have HUs:=zgV l b g.tm g.rs HZ.o.1;have HOs:=zcM b.ps g.tm g.rs (zoV HAm.o) b.ps.length (Nat.le_refl _);have hw1:IntKind.i64.wrap (used l b.os g.tm g.rs+out b.ps g.tm g.rs)=used l b.os g.tm g.rs+out b.ps g.tm g.rs:=by rw[IntKind.wrap_i64];have:=HPN.o;unfold out;omega
       have hw2:IntKind.i64.wrap (used l b.os g.tm g.rs+out b.ps g.tm g.rs+g.fr)=used l b.os g.tm g.rs+out b.ps g.tm g.rs+g.fr:=by rw[IntKind.wrap_i64];have:=HPN.o;have:=HFr.o;unfold out;omega
       clear HUs HOs HS2 HKI HVC hkw;refine wp_region_held_drew (S:=fun W=>(∀j,W.cell? (aD w.heap.size j)=(lC l la lb lc lca lcb lcc)[j]?)/\(∀j,W.cell? (aD (w.heap.size+1) j)=(bC b a0 a1 (some (aD ob off)) a3 c0 c1 c2 c3)[j]?)/\(∀j,W.cell? (aD kG j)=(#[.s g.tm,.s g.rs,.i g.mo,.i g.fr]:AV)[j]?)) (by kernel_rfl) (HV.o _ HD2.o).2.2 (fun H_=>?_);refine tG 0 ?_;refine tG 1 ?_;refine tG 2 ?_;refine tG 3 ?_;refine tG 4 ?_;refine tG 5 ?_;refine tG 7 ?_;refine tG 8 ?_;refine tG 9 ?_;refine tG 10 ?_;refine tG 11 ?_;refine tG 14 ?_;refine tG 15 ?_;refine tG 17 ?_;refine tG 18 ?_;refine cH 6 rfl fun K hK=>?_
       go_simp
       refine(znX l la lb lc lca lcb lcc b a0 a1 _ a3 c0 c1 c2 c3 _ _ _ (HL.o.mono (HV.o _ HD2.o).2.1) (HK.o.mono (HV.o _ HD2.o).2.1) HZ.o.1).mono ?_;rintro e w7⟨rfl,hb7⟩;have H7:=hid (HD2.o.trans (hb7.mono HD2.o.size));clear hb7
       (try go_wp2_with fail)
       refine hK.out _ _ (HV.o _ H7.o).2.2 (fun H_=>?_);clear hK K
       (try simp only[Act.put,sA,s0,sS])
       refine cH 12 rfl fun K hK=>?_
       go_simp
       refine(zrQ b a0 a1 _ a3 c0 c1 c2 c3 _ _ _ (HK.o.mono (HV.o _ H7.o).2.1) (by have:=HPN.o;omega) (zoV HAm.o)).mono ?_;rintro e w8⟨rfl,hb8⟩;have H8:=hid (H7.o.trans (hb8.mono H7.o.size));clear hb8
       (try go_wp2_with fail)
       refine hK.out _ _ (HV.o _ H8.o).2.2 (fun H_=>?_);clear hK K
       (try simp only[Act.put,sA,s0,sS])
       refine tG 13 ?_;refine tG 16 ?_;refine tG 19 ?_;refine wpAnyH_done (by kernel_rfl) ?_ _;clear H_;have HR8:=hid (HV.o _ H8.o)
       rcases hT:(used l b.os g.tm g.rs+out b.ps g.tm g.rs+g.fr != g.mo) with _|_
       ·have HD:Hid ((b.ls.take (k+1)).all (yH l.ts)=true/\za1 qz b.ls (k+1)/\(b.ls.take (k+1)).all (zbZ l b)=true):=HYes.o HLa.o HT6.o (by have:=bne_eq_false_iff_eq.1 hT;unfold zbZ sumTo;rw[decide_eq_true_eq];unfold out at this;omega)
        go_wp2
        go_roundg g1
        case measure=>omega
        case rel=>exact⟨k+1,by omega,rfl,HD.o.1,HD.o.2.1,HD.o.2.2,HR8.o.1⟩
       ·have HF:Hid (jM l b=false):=HNs.o (by have:=bne_iff_ne.1 hT;unfold zbZ sumTo;rw[decide_eq_false_iff_not];unfold out at this;omega)
        go_wp2
        go_ret;exact⟨ze HF.o.symm,HR8.o.2.1⟩
    ·have e:k=b.ls.length:=by omega
     subst e
     have HE:Hid (jM l b=true):=by
      unfold Hid jM yQ zcV;have h1:=HQ.o.1;have h2:=HQ.o.2.2.1;rw[tOl (Nat.le_refl _)]at h1 h2;rw[zg1 HQ.o.2.1 (Nat.le_refl _),decide_eq_true HLN.o,HPu.o,h1,h2];rfl
     have HR:=hid (HB.o _ HQ.o.2.2.2).1;clear HQ hlt hk;go_wp2
     go_ret;exact⟨ze HE.o.symm,HR.o⟩
end Go.Proofs.YtjnpjkigofldlaaGreat
