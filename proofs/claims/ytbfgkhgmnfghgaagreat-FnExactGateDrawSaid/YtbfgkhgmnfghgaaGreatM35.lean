import Derived.Test.YtbfgkhgmnfghgaaGreatM34
import Derived.DeepKeys4
set_option maxHeartbeats 8000000
namespace Go.Proofs.YtbfgkhgmnfghgaaGreat
open Go.RowKit
structure PuE (c:Nat->Option Value)(x:Pu):Prop where
 cell:∀j,j<5->c j=(#[.s x.dr,.s x.tm,.s x.rs,.i x.am,.i x.un]:AV)[j]?
structure zcZ (lo:Nat)(w:World)(own:Nat->Lb)(a:OA)(n:Nat)(f:Nat->Pu):Prop where
 rows:0<n->∃b C,a=some (aD b 0)/\lo<=b/\own b=(3,0,0)/\w.heap[b]?=some (.cells C 70)/\n*5<=C.size/\∀i,i<n->PuE (fun j=>C[i*5+j]?) (f i)
theorem zcZ.left {S:Nat->Prop}{lo:Nat}{w w':World}{own:Nat->Lb}{a:OA}{n:Nat}{f:Nat->Pu}(h:zcZ lo w own a n f)(hl:Left S w w')(hS:∀k,(own k).1=3->¬S k):zcZ lo w' own a n f:=by
 refine⟨fun hn=>?_⟩;obtain⟨b,C,ha,hlo,hb,hC,hs,hr⟩:=h.rows hn;refine⟨b,C,ha,hlo,hb,(hl.out b (gES hC).1 (hS b (by rw[hb]))).trans hC,hs,hr⟩
theorem zcZ.mono {lo:Nat}{w w':World}{own:Nat->Lb}{a:OA}{n:Nat}{f:Nat->Pu}(h:zcZ lo w own a n f)(hb:Bw w w'):zcZ lo w' own a n f:=h.left (Left.of_below (fun _=>False) hb) (fun _ _ h=>h)
theorem zcZ.own {lo:Nat}{w:World}{own own':Nat->Lb}{a:OA}{n:Nat}{f:Nat->Pu}(h:zcZ lo w own a n f)(he:∀k,k<w.heap.size->(own k).1=3->own' k=own k):zcZ lo w own' a n f:=by
 refine⟨fun hn=>?_⟩;obtain⟨b,C,ha,hlo,hb,hC,hs,hr⟩:=h.rows hn;refine⟨b,C,ha,hlo,(he b (gES hC).1 (by rw[hb])).trans hb,hC,hs,hr⟩
theorem zcZ.low {lo lo':Nat}{w:World}{own:Nat->Lb}{a:OA}{n:Nat}{f:Nat->Pu}(h:zcZ lo w own a n f)(hl:lo'<=lo):zcZ lo' w own a n f:=by
 refine⟨fun hn=>?_⟩;obtain⟨b,C,ha,hlo,hb,hC,hs,hr⟩:=h.rows hn;refine⟨b,C,ha,Nat.le_trans hl hlo,hb,hC,hs,hr⟩
theorem zcZ.same {lo:Nat}{w:World}{own:Nat->Lb}{a:OA}{n:Nat}{f f':Nat->Pu}(h:zcZ lo w own a n f)(he:∀i,i<n->f' i=f i):zcZ lo w own a n f':=by
 refine⟨fun hn=>?_⟩;obtain⟨b,C,ha,hlo,hb,hC,hs,hr⟩:=h.rows hn;refine⟨b,C,ha,hlo,hb,hC,hs,fun i hi=>?_⟩;rw[he i hi];exact hr i hi
def zfd (ms:List Pu)(i:Nat):Pu:=(ms[i]?).getD ⟨ByteArray.empty,ByteArray.empty,ByteArray.empty,0,0⟩
theorem zpG {ms:List Pu}{i:Nat}(h:i<ms.length):zfd ms i=ms[i]:=by unfold zfd;rw[List.getElem?_eq_getElem h];rfl
theorem zcZ.at {lo:Nat}{w:World}{own:Nat->Lb}{a:OA}{ms:List Pu}(h:zcZ lo w own a ms.length (zfd ms))(hs:∀i (h:i<ms.length),ms[i].Small)(hl:ms.length<=maxLen):zaP w a ms:=by
 refine⟨hl,hs,fun hne=>?_⟩;obtain⟨b,C,ha,hlo,hb,hC,hsz,hr⟩:=h.rows (List.length_pos_iff.2 hne);refine⟨b,0,ha,(gES hC).1,fun i hi j hj=>?_⟩;have hx:=hr i hi;rw[zpG hi]at hx;rw[cell_of_block hC,Nat.zero_add];exact hx.cell j hj
def zlZ (k:Int)(_x:Pu):Pu:=⟨(mkT (k)),(mkT (k+1)),(mkT (k+1+1)),(k+1+1+1),(k+1+1+1+1)⟩
def zrc (k:Int)(_x:Pu):Int:=k+1+1+1+1+1
def kPu (k:Int)(ms:List Pu):Nat->Int
 | 0=>k
 | i+1=>zrc (kPu k ms i) (zfd ms i)
def zkS (k:Int)(ms:List Pu)(i:Nat):Pu:=zlZ (kPu k ms i) (zfd ms i)
def zlS (k:Int)(ms:List Pu)(i j:Nat):Pu:=if j<i then zkS k ms j else zfd ms j
theorem zoU (k:Int)(ms:List Pu)(i:Nat):k+i<=kPu k ms i/\kPu k ms i<=k+i*5:=by
 induction i with
 | zero=>exact⟨by show k+0<=k;omega,by show k<=k+0*5;omega⟩
 | succ i ih=>
  have h1:kPu k ms (i+1)=zrc (kPu k ms i) (zfd ms i):=rfl;unfold zrc at h1;rw[h1];exact⟨by omega,by omega⟩
set_option maxRecDepth 20000 in
theorem zf1 (lo:Nat)(own:Nat->Lb)(a:OA)(cap:Nat)(ms:List Pu)(k:Int)(w:World)(h:zcZ lo w own a ms.length (zfd ms))(hl:ms.length<=1048576)(hk:0<k)(hk2:k<5000000000000000000) :
 Calls Tryz.prog 52 #[.l a ms.length cap,.i k] w fun e w'=>e=.returned (.i (kPu k ms ms.length))/\zcZ lo w' own a ms.length (zkS k ms)/\Left (fun q=>(own q).1=3) w w':=by
 have HF:=hid h;have HL:=hid hl;have HK:=yU hk hk2;clear h hl hk hk2;go_enter Tryz.func52,Tryz.ntmps52;go_wp2_with fail
 go_loopw [1,5] (fun kv iv wr=>∃i:Nat,i<=ms.length/\kv=.i (kPu k ms i)/\iv=.i i/\Hid (zcZ lo wr own a ms.length (zlS k ms i)/\Left (fun q=>(own q).1=3) w wr)) (fun _ iv _=>ms.length-(intOf iv).toNat)
 case atStart=>exact⟨0,Nat.zero_le _,rfl,rfl,HF.o.same (fun i _=>if_neg (Nat.not_lt_zero i)),Left.refl _ _⟩
 case round=>
  obtain⟨i,hile,rfl,rfl,HQ⟩:=hrel
  by_cases hlt:i<ms.length
  ·have hltI:(i:Int)<(ms.length:Int):=by omega
   have HKI:Hid (kPu k ms (i+1)=zrc (kPu k ms i) (zfd ms i)):=rfl;have hkb:=zoU k ms i;have HMX:Hid (zkS k ms i=zlZ (kPu k ms i) (zfd ms i)):=rfl
   generalize kPu k ms i=kk at hkb HKI HMX ⊢
   have HB:Hid (0<kk/\kk<7000000000000000000):=by have a:=HK.o;have b:=HL.o;exact⟨by omega,by omega⟩
   clear hkb;obtain⟨bo,C,rfl,hlo,hbo,hC,hsz,hr⟩:=HQ.o.1.rows (by omega);have hx:=hr i hlt;rw[show zlS k ms i i=zfd ms i from if_neg (Nat.lt_irrefl i)]at hx
   generalize zfd ms i=x at hx HKI HMX
   have HS:=hid (show i*5+5<=C.size by omega);have HRR:=zbT hlo hbo hC hsz;have M0:Hid (Mid own lo bo 70 C 5 i 3 wr wr #[.s x.dr,.s x.tm,.s x.rs,.i x.am,.i x.un] none none none [] [] []):=⟨jl.new hC hx.cell,rfl,Left.refl _ _,hbo,Or.inl ⟨rfl,rfl⟩,(fun _ h=>by cases h),Or.inl ⟨rfl,rfl⟩,(fun _ h=>by cases h),Or.inl ⟨rfl,rfl⟩,(fun _ h=>by cases h)⟩
   clear hr hx hlo hbo hC hsz;go_wp2_with fail
   refine(yI _ _ (by have a:=HB.o;omega) (by have a:=HB.o;omega)).mono ?_;rintro e wm1⟨rfl,hb⟩;have M1:=hid (M0.out.below hb);clear hb M0;obtain⟨y1,hv1⟩:=M1.out.ex 0 (by omega);have hf1:=fun o=>M1.out.row.fz o
   have hg1:=M1.out.row.lt;rw[Nat.add_zero]at hv1;have M2:=hid (M1.out.set 0 (.s (mkT (kk))) (by omega) HS.o);rw[Nat.add_zero]at M2;clear M1;have hw_2:wrap64 (kk+1)=kk+1:=zA _ ⟨by have a:=HB.o;omega,by have a:=HB.o;omega⟩;go_wp2_with fail
   clear hv1 hf1 hg1;refine(yI _ _ (by have a:=HB.o;omega) (by have a:=HB.o;omega)).mono ?_;rintro e wm2⟨rfl,hb⟩;have M3:=hid (M2.out.below hb);clear hb M2;obtain⟨y2,hv2⟩:=M3.out.ex 1 (by omega);have hf2:=fun o=>M3.out.row.fz o
   have hg2:=M3.out.row.lt;have M4:=hid (M3.out.set 1 (.s (mkT (kk+1))) (by omega) HS.o);clear M3;have hw_4:wrap64 (kk+1+1)=kk+1+1:=zA _ ⟨by have a:=HB.o;omega,by have a:=HB.o;omega⟩;go_wp2_with fail
   clear hv2 hf2 hg2;refine(yI _ _ (by have a:=HB.o;omega) (by have a:=HB.o;omega)).mono ?_;rintro e wm3⟨rfl,hb⟩;have M5:=hid (M4.out.below hb);clear hb M4;obtain⟨y3,hv3⟩:=M5.out.ex 2 (by omega);have hf3:=fun o=>M5.out.row.fz o
   have hg3:=M5.out.row.lt;have M6:=hid (M5.out.set 2 (.s (mkT (kk+1+1))) (by omega) HS.o);clear M5;have hw_6:wrap64 (kk+1+1+1)=kk+1+1+1:=zA _ ⟨by have a:=HB.o;omega,by have a:=HB.o;omega⟩;obtain⟨y4,hv4⟩:=M6.out.ex 3 (by omega);have hf4:=fun o=>M6.out.row.fz o
   have hg4:=M6.out.row.lt;have M7:=hid (M6.out.set 3 (.i (kk+1+1+1)) (by omega) HS.o);clear M6;have hw_7:wrap64 (kk+1+1+1+1)=kk+1+1+1+1:=zA _ ⟨by have a:=HB.o;omega,by have a:=HB.o;omega⟩;obtain⟨y5,hv5⟩:=M7.out.ex 4 (by omega);have hf5:=fun o=>M7.out.row.fz o
   have hg5:=M7.out.row.lt;have M8:=hid (M7.out.set 4 (.i (kk+1+1+1+1)) (by omega) HS.o);clear M7;have hw_8:wrap64 (kk+1+1+1+1+1)=kk+1+1+1+1+1:=zA _ ⟨by have a:=HB.o;omega,by have a:=HB.o;omega⟩;go_wp2_with fail
   go_roundw
   case rel=>
    have hkn:kk+1+1+1+1+1=kPu k ms (i+1):=HKI.o.symm;refine⟨i+1,by omega,by first|rw[hw_8,hkn]|rw[hkn],by rw[wrap_one (by have:=HL.o;omega)],⟨fun _=>?_⟩,HQ.o.2.trans (M8.out.left.wide ?_)⟩
    ·obtain⟨C',hC',hs',ho',hd'⟩:=M8.out.row.ex
     refine⟨bo,C',rfl,HRR.o.1,HRR.o.2.1,hC',by rw[hs'];exact HRR.o.2.2.2,fun z hz=>?_⟩
     by_cases ez:z=i
     ·subst ez
      rw[show zlS k ms (z+1) z=zkS k ms z from if_pos (Nat.lt_succ_self z),HMX.o];exact⟨fun j hj=>hd' j hj⟩
     ·rw[show zlS k ms (i+1) z=zlS k ms i z by unfold zlS;by_cases hz1:z<i <;> simp[hz1] <;> omega]
      obtain⟨b2,C2,h2a,_,_,h2C,_,h2r⟩:=HQ.o.1.rows (by omega)
      cases h2a
      obtain rfl:C2=C:=by have h3:=HRR.o.2.2.1;rw[h2C]at h3;cases h3;rfl
      exact⟨fun j hj=>(ho' _ (by omega)).trans ((h2r z hz).cell j hj)⟩
    ·rintro z (hz|hz|hz|hz) <;> rw[hz]
   case measure=>exact yT hlt (by have:=HL.o;omega)
  ·have e:i=ms.length:=by omega
   subst e;go_wp2_with fail
   go_ret;exact⟨rfl,HQ.o.1.same (fun j hj=>(if_pos hj).symm),HQ.o.2⟩
set_option maxRecDepth 20000 in
theorem zf7 (lo:Nat)(own:Nat->Lb)(a:OA)(cap:Nat)(ms:List Pu)(k:Int)(w:World)(h:zcZ lo w own a ms.length (zkS k ms))(hl:ms.length<=1048576)(hk:0<k)(hk2:k<5000000000000000000) :
 Calls Tryz.prog 56 #[.l a ms.length cap,.i k] w fun e w'=>e=.returned (.i (kPu k ms ms.length))/\Bw w w':=by
 have HF:=hid h;have HL:=hid hl;have HK:=yU hk hk2;clear h hl hk hk2;go_enter Tryz.func56,Tryz.ntmps56;go_wp2_with fail
 go_loopw [1,5] (fun kv iv wr=>∃i:Nat,i<=ms.length/\kv=.i (kPu k ms i)/\iv=.i i/\Bw w wr) (fun _ iv _=>ms.length-(intOf iv).toNat)
 case atStart=>exact⟨0,Nat.zero_le _,rfl,rfl,bRf _ _⟩
 case round=>
  obtain⟨i,hile,rfl,rfl,hB⟩:=hrel
  by_cases hlt:i<ms.length
  ·have hltI:(i:Int)<(ms.length:Int):=by omega
   have HKI:Hid (kPu k ms (i+1)=zrc (kPu k ms i) (zfd ms i)):=rfl;have hkb:=zoU k ms i;have HMX:Hid (zkS k ms i=zlZ (kPu k ms i) (zfd ms i)):=rfl
   generalize kPu k ms i=kk at hkb HKI HMX ⊢
   have HB:Hid (0<kk/\kk<7000000000000000000):=by have a:=HK.o;have b:=HL.o;exact⟨by omega,by omega⟩
   clear hkb;obtain⟨bo,C,rfl,hlo,hbo,hC,hsz,hr⟩:=HF.o.rows (by omega);have hx:=hr i hlt;rw[HMX.o]at hx
   generalize zfd ms i=x at hx HKI HMX
   have HR0:Hid (jl w bo 70 C 5 i #[.s (zlZ kk x).dr,.s (zlZ kk x).tm,.s (zlZ kk x).rs,.i (zlZ kk x).am,.i (zlZ kk x).un]):=jl.new hC hx.cell;have HR1:Hid (jl wr bo 70 C 5 i #[.s (mkT (kk)),.s (mkT (kk+1)),.s (mkT (kk+1+1)),.i (kk+1+1+1),.i (kk+1+1+1+1)]):=by have hh:=(HR0.o).left (Left.of_below (fun _=>False) (hB.mono (Nat.le_refl _))) (fun h=>h);unfold zlZ at hh;exact hh
   have HB0:=hid hB;clear hr hx hlo hbo hC hsz hB HR0;have hv1:wr.drew.cell? (aD bo (i*5))=some (.s (mkT (kk))):=by have hh:=(HR1.o).cell 0 (by omega);rw[Nat.add_zero]at hh;exact hh
   have hlt1:bo<wr.drew.heap.size:=(HR1.o).lt;have hBd:Below wr.drew.heap.size wr wr.drew:=(bRf _ _).drew;go_wp2_with fail
   go_region_held3 (fun w'=>w'.cell? (aD bo (i*5))=some (.s (mkT (kk)))) (exact hv1) (first|(go_at_call 97;refine(yI _ _ (by have a:=HB.o;omega) (by have a:=HB.o;omega)).mono ?_;rintro e wm1⟨rfl,hb⟩;have hv1:=(hb.cell (p:=(aD bo (i*5))) hlt1).trans hv1;have hBd:=hBd.trans (hb.mono hBd.size);clear hb))
   all_goals have HR2:=hid ((HR1.o).below hBd)
   all_goals have HB1:=hid (HB0.o.trans (hBd.mono HB0.o.size))
   all_goals clear hBd hlt1 HR1 HB0
   have hw_11:wrap64 (kk+1)=kk+1:=zA _ ⟨by have a:=HB.o;omega,by have a:=HB.o;omega⟩;have hv2:wm1.drew.cell? (aD bo (i*5+1))=some (.s (mkT (kk+1))):=by have hh:=(HR2.o).cell 1 (by omega);exact hh
   have hlt2:bo<wm1.drew.heap.size:=(HR2.o).lt;have hBd:Below wm1.drew.heap.size wm1 wm1.drew:=(bRf _ _).drew;go_wp2_with fail
   clear hv1
   go_region_held3 (fun w'=>w'.cell? (aD bo (i*5+1))=some (.s (mkT (kk+1)))) (exact hv2) (first|(go_at_call 97;refine(yI _ _ (by have a:=HB.o;omega) (by have a:=HB.o;omega)).mono ?_;rintro e wm2⟨rfl,hb⟩;have hv2:=(hb.cell (p:=(aD bo (i*5+1))) hlt2).trans hv2;have hBd:=hBd.trans (hb.mono hBd.size);clear hb))
   all_goals have HR3:=hid ((HR2.o).below hBd)
   all_goals have HB2:=hid (HB1.o.trans (hBd.mono HB1.o.size))
   all_goals clear hBd hlt2 HR2 HB1
   have hw_21:wrap64 (kk+1+1)=kk+1+1:=zA _ ⟨by have a:=HB.o;omega,by have a:=HB.o;omega⟩;have hv3:wm2.drew.cell? (aD bo (i*5+2))=some (.s (mkT (kk+1+1))):=by have hh:=(HR3.o).cell 2 (by omega);exact hh
   have hlt3:bo<wm2.drew.heap.size:=(HR3.o).lt;have hBd:Below wm2.drew.heap.size wm2 wm2.drew:=(bRf _ _).drew;go_wp2_with fail
   clear hv2
   go_region_held3 (fun w'=>w'.cell? (aD bo (i*5+2))=some (.s (mkT (kk+1+1)))) (exact hv3) (first|(go_at_call 97;refine(yI _ _ (by have a:=HB.o;omega) (by have a:=HB.o;omega)).mono ?_;rintro e wm3⟨rfl,hb⟩;have hv3:=(hb.cell (p:=(aD bo (i*5+2))) hlt3).trans hv3;have hBd:=hBd.trans (hb.mono hBd.size);clear hb))
   all_goals have HR4:=hid ((HR3.o).below hBd)
   all_goals have HB3:=hid (HB2.o.trans (hBd.mono HB2.o.size))
   all_goals clear hBd hlt3 HR3 HB2
   have hw_31:wrap64 (kk+1+1+1)=kk+1+1+1:=zA _ ⟨by have a:=HB.o;omega,by have a:=HB.o;omega⟩;have hv_3:=(HR4.o).cell 3 (by omega);have hlt_3:=(HR4.o).lt;have hne_3:((kk+1+1+1) != (kk+1+1+1))=false:=by simp
   have hw_35:wrap64 (kk+1+1+1+1)=kk+1+1+1+1:=zA _ ⟨by have a:=HB.o;omega,by have a:=HB.o;omega⟩;have hv_4:=(HR4.o).cell 4 (by omega);have hlt_4:=(HR4.o).lt;have hne_4:((kk+1+1+1+1) != (kk+1+1+1+1))=false:=by simp
   have hw_39:wrap64 (kk+1+1+1+1+1)=kk+1+1+1+1+1:=zA _ ⟨by have a:=HB.o;omega,by have a:=HB.o;omega⟩;go_wp2_with fail
   have hkn:kk+1+1+1+1+1=kPu k ms (i+1):=by rw[HKI.o];rfl
   exact⟨⟨i+1,by omega,by first|rw[hw_39,hkn]|rw[hkn],by rw[wrap_one (by have:=HL.o;omega)],HB3.o⟩,yT hlt (by have:=HL.o;omega)⟩
  ·have e:i=ms.length:=by omega
   subst e;go_wp2_with fail
   go_ret;exact⟨rfl,hB⟩
theorem zlw {w:World}{b off:Nat}{xs:List Int}(h:qp w (some (aD b off)) xs):∀j u,(ints xs)[j]?=some u->w.cell? (((aD b off):Addr).add j)=some u:=by
 intro j u hj
 have hlt:j<xs.length:=by
  have:=(List.getElem?_eq_some_iff.1 hj).1
  simpa[ints] using this
 obtain⟨b',off',e,_,hc⟩:=h.cells (by rintro rfl;simp at hlt)
 cases e
 have h1:=hc j hlt
 have e1:((aD b off):Addr).add j=(aD b (off+j)):=by
  unfold Addr.add;split
  ·rename_i h;subst h;simp
  ·rfl
 rw[e1,h1];unfold ints at hj;rw[List.getElem?_map,List.getElem?_eq_getElem hlt]at hj
 simpa using hj
theorem zng {xs:List Int}:∀u∈ints xs,u.oneCell'=true:=by
 intro u hu;unfold ints at hu;simp only[List.mem_map]at hu;obtain⟨s,_,rfl⟩:=hu;rfl
set_option maxRecDepth 20000 in
theorem zmv (r:Rl)(a:OA)(cap:Nat)(w:World)(hw:qp w a r.vs)(hl:r.vs.length<=1048576) :
 Calls Tryz.prog 131 #[.agg #[.l a r.vs.length cap,.s r.kd,.s r.tm,.s r.px]] w fun e w'=>∃a' cap',e=.returned (.agg #[.l a' r.vs.length cap',.s r.kd,.s r.tm,.s r.px])/\yu w.heap.size w' a' r.vs/\Bw w w':=by
 by_cases h0:r.vs=[]
 ·have hn:r.vs.length=0:=by rw[h0];rfl
  rw[hn]
  rcases a with _|g
  all_goals
   go_enter Tryz.func131,Tryz.ntmps131;go_wp2_with fail
   refine bodyPost_ret (v:=.agg #[.l none 0 0,.s r.kd,.s r.tm,.s r.px]) (by simp[results,Tryz.results131,go_sem]) rfl ⟨none,0,rfl,Or.inl ⟨rfl,h0⟩,zw _ _ _⟩
 ·obtain⟨b,off,rfl,_⟩:=hw.cells h0
  obtain⟨i0,hi,hz0,hz1,hz2⟩:=info_parts Tryz.zhi;have k0:=zS w (.cells #[.l (some (aD b off)) r.vs.length cap,.s r.kd,.s r.tm,.s r.px] 125) (.cells #[.l none 0 0,.s ⟨#[]⟩,.s ⟨#[]⟩,.s ⟨#[]⟩] 125);have hB0:=zw w (.cells #[.l (some (aD b off)) r.vs.length cap,.s r.kd,.s r.tm,.s r.px] 125) (.cells #[.l none 0 0,.s ⟨#[]⟩,.s ⟨#[]⟩,.s ⟨#[]⟩] 125);obtain⟨W,hW⟩:=nm ((w.alloc (.cells #[.l (some (aD b off)) r.vs.length cap,.s r.kd,.s r.tm,.s r.px] 125)).alloc (.cells #[.l none 0 0,.s ⟨#[]⟩,.s ⟨#[]⟩,.s ⟨#[]⟩] 125));have hz:W.heap.size=w.heap.size+1+1:=by rw[hW];simp
  go_enter Tryz.func131,Tryz.ntmps131
  go_wp2_with (at_builtin;refine zcn ?_)
  rw[<- hW]at k0 hB0 ⊢;clear hW
  show wpList _ _ _ _ _ _
  refine wpList_append_own _ rfl (.const (.l none 0 0)) (.tmp 4) 112 rfl (w.heap.size+1+1) 3 i0 (.i 0) 1 8 Tryz.underlying112 hi hz0 hz1 hz2 rfl (by decide) (.l none 0 0) 0 [] rfl ⟨rfl,.inl ⟨rfl,rfl⟩⟩ (aD b off) r.vs.length cap (ints r.vs) rfl (by simp[ints]) (zlw (hw.mono hB0)) zng (by unfold maxLen;omega) (by omega) (by omega) ?_;intro v' w1 hown hgr _;simp only[Nat.zero_add,List.nil_append]at hown;obtain⟨a',cap',rfl,ho⟩:=yu.zdK hown;have hb1:Bw W w1:=(bRf _ _).grown hgr (Nat.le_refl _) (by simp[Value.ownBlock]);have K0:=(hb1.block _ (by omega)).trans k0.1;have K1:=(hb1.block _ (by omega)).trans k0.2;have HF:Hid (yu (w.heap.size+1+1) w1 a' r.vs/\Bw w w1):=⟨ho,hB0.trans (hb1.mono (by omega))⟩
  have cQ:=fun j=>cell_of_block (o:=j) K0
  have fQ:=fun j=>zf (o:=j) K0
  have cR:=fun j=>cell_of_block (o:=j) K1
  have fR:=fun j=>zf (o:=j) K1
  have hsz:=hb1.size;clear hown hgr K0 K1 hb1 k0 hB0 ho;go_wp2_with fail
  refine bodyPost_ret (v:=.agg #[.l a' r.vs.length cap',.s r.kd,.s r.tm,.s r.px]) (by simp[results,Tryz.results131,go_sem,cR]) rfl ⟨a',⟨cap',rfl⟩,?_,?_⟩
  ·refine yu.low (lo:=w.heap.size+1+1) ?_ (by omega)
   iterate 4 refine yu.setCell ?_ _ (by show w.heap.size+1<_;omega) _
   refine yu.setCell ?_ _ (by show w.heap.size<_;omega) _;exact HF.o.1
  ·have h0:w.heap.size<=w.heap.size:=Nat.le_refl _
   have h1:w.heap.size<=w.heap.size+1:=Nat.le_succ _
   iterate 4 refine Below.setCell ?_ h1 _
   refine Below.setCell ?_ h0 _;exact HF.o.2
set_option maxRecDepth 20000 in
theorem zlc (g:Gr)(a:OA)(cap:Nat)(w:World)(hw:qp w a g.r.vs)(hl:g.r.vs.length<=1048576) :
 Calls Tryz.prog 84 #[.agg #[.i g.no,.s g.to,.s g.gb,.l a g.r.vs.length cap,.s g.r.kd,.s g.r.tm,.s g.r.px]] w fun e w'=>∃a' cap',e=.returned (.agg #[.i g.no,.s g.to,.s g.gb,.l a' g.r.vs.length cap',.s g.r.kd,.s g.r.tm,.s g.r.px])/\yu w.heap.size w' a' g.r.vs/\Bw w w':=by
 have k0:=zS w (.cells #[.i g.no,.s g.to,.s g.gb,.l a g.r.vs.length cap,.s g.r.kd,.s g.r.tm,.s g.r.px] 127) (.cells #[.i 0,.s ⟨#[]⟩,.s ⟨#[]⟩,.l none 0 0,.s ⟨#[]⟩,.s ⟨#[]⟩,.s ⟨#[]⟩] 127);have hB0:=zw w (.cells #[.i g.no,.s g.to,.s g.gb,.l a g.r.vs.length cap,.s g.r.kd,.s g.r.tm,.s g.r.px] 127) (.cells #[.i 0,.s ⟨#[]⟩,.s ⟨#[]⟩,.l none 0 0,.s ⟨#[]⟩,.s ⟨#[]⟩,.s ⟨#[]⟩] 127);obtain⟨W,hW⟩:=nm ((w.alloc (.cells #[.i g.no,.s g.to,.s g.gb,.l a g.r.vs.length cap,.s g.r.kd,.s g.r.tm,.s g.r.px] 127)).alloc (.cells #[.i 0,.s ⟨#[]⟩,.s ⟨#[]⟩,.l none 0 0,.s ⟨#[]⟩,.s ⟨#[]⟩,.s ⟨#[]⟩] 127));have hz:W.heap.size=w.heap.size+1+1:=by rw[hW];simp
 go_enter Tryz.func84,Tryz.ntmps84;go_wp2_with fail
 rw[<- hW]at k0 hB0 ⊢;clear hW;refine(zmv g.r a cap W (hw.mono hB0) hl).mono ?_;rintro e w1⟨a',cap',rfl,ho,hb1⟩;have K0:=(hb1.block _ (by omega)).trans k0.1;have K1:=(hb1.block _ (by omega)).trans k0.2;have HF:Hid (yu (w.heap.size+1+1) w1 a' g.r.vs/\Bw w w1):=⟨by rw[<- hz];exact ho,hB0.trans (hb1.mono (by omega))⟩
 have cQ:=fun j=>cell_of_block (o:=j) K0
 have fQ:=fun j=>zf (o:=j) K0
 have cR:=fun j=>cell_of_block (o:=j) K1
 have fR:=fun j=>zf (o:=j) K1
 have hsz:=hb1.size;clear K0 K1 hb1 k0 hB0 ho;go_wp2_with fail
 refine bodyPost_ret (v:=.agg #[.i g.no,.s g.to,.s g.gb,.l a' g.r.vs.length cap',.s g.r.kd,.s g.r.tm,.s g.r.px]) (by simp[results,Tryz.results84,go_sem,cR]) rfl ⟨a',cap',rfl,?_,?_⟩
 ·refine yu.low (lo:=w.heap.size+1+1) ?_ (by omega)
  iterate 7 refine yu.setCell ?_ _ (by show w.heap.size+1<_;omega) _
  iterate 4 refine yu.setCell ?_ _ (by show w.heap.size<_;omega) _
  exact HF.o.1
 ·have h0:w.heap.size<=w.heap.size:=Nat.le_refl _
  have h1:w.heap.size<=w.heap.size+1:=Nat.le_succ _
  iterate 7 refine Below.setCell ?_ h1 _
  iterate 4 refine Below.setCell ?_ h0 _
  exact HF.o.2
theorem qB (a:OA)(cap:Nat)(fs:List Fld)(v:BA)(w:World)(hw:yc w a fs) :
 Calls Tryz.prog 190 #[.l a fs.length cap,.s v] w fun e w'=>e=.returned (.i (zR fs v))/\w'=w:=by
 have hl:=hw.len;unfold maxLen at hl;go_enter Tryz.func190,Tryz.ntmps190
 go_wp2
 go_loop [5] (fun i=>∃k:Nat,k<=fs.length/\i=.i k/\hasName (fs.take k) v=false) (fun i=>fs.length-(intOf i).toNat)
 case atStart=>exact⟨0,Nat.zero_le _,rfl,rfl⟩
 case round=>
  obtain⟨k,hk,rfl,hno⟩:=hrel
  by_cases hlt:k<fs.length
  ·obtain⟨b,off,rfl,hb,hr⟩:=hw.rows (by rintro rfl;simp at hlt)
   obtain⟨wa,wcap,hf⟩:=hr k hlt;obtain⟨c0,c1,c2,c3,c4,c5,c6,c7,c8,c9,c10⟩:=hf.load;clear hw hr hf c1 c2 c3 c4 c5 c6 c7 c8 c9 c10
   by_cases he:fs[k].nm=v
   ·have hbe:(fs[k].nm.toList == v.toList)=true:=by rw[beq_toList];simpa using he
    have HB:Hid (zR fs v=(k:Int)):=zej fs v k hlt hno he;clear he hno
    go_wp2
    go_ret;exact⟨by rw[HB.o];rfl,rfl⟩
   ·have hbe:(fs[k].nm.toList == v.toList)=false:=by rw[beq_toList];simpa using he
    have HS:Hid (hasName (fs.take (k+1)) v=false):=by unfold Hid;rw[zev fs v k hlt,hno,decide_eq_false he];rfl
    clear he hno
    go_wp2
    go_round
    case rel=>exact⟨k+1,by omega,by go_num,HS.o⟩
    case measure=>simp[intOf];omega
  ·have HA:Hid (zR fs v=-1):=zgx fs v (by rw[<- ziw fs v k (by omega)];exact hno)
   clear hno hw
   go_wp2
   go_ret;exact⟨by rw[HA.o];rfl,rfl⟩
theorem zF (a:OA)(cap:Nat)(fs:List Fld)(v:BA)(w:World)(hw:yc w a fs) :
 Calls Tryz.prog 189 #[.l a fs.length cap,.s v] w fun e w'=>e=.returned (.bool (plain fs v))/\Bw w w':=by
 have hl:=hw.len;unfold maxLen at hl
 rcases jE fs v with⟨h1,h2⟩|⟨i,hi,h1,h2,h3⟩
 ·have HP:Hid (plain fs v=false):=zaJ h2
  go_enter Tryz.func189,Tryz.ntmps189;go_wp2_with fail
  have h:=qB a cap fs v w hw;rw[h1]at h;refine h.mono ?_;rintro e w1⟨rfl,rfl⟩;clear h;go_wp2_with fail
  go_ret;exact⟨by rw[HP.o];rfl,bRf _ _⟩
 ·have HP:Hid (plain fs v=decide (fs[i].kd≠4)):=zjL h3
  obtain⟨b,off,rfl,hb,hr⟩:=hw.rows (by rintro rfl;simp at hi);obtain⟨wa,wcap,hf0⟩:=hr i hi;go_enter Tryz.func189,Tryz.ntmps189;go_wp2_with fail
  have h:=qB (some (aD b off)) cap fs v w hw;rw[h1]at h;refine h.mono ?_;rintro e w1⟨rfl,rfl⟩;obtain⟨c0,c1,c2,c3,c4,c5,c6,c7,c8,c9,c10⟩:=hf0.load;have hiI:(i:Int)<(fs.length:Int):=by omega
  have hge:decide ((i:Int)≥0)=true:=by simp
  clear h hw hr hf0 h3 h2 h1;go_wp2_with fail
  go_ret;exact⟨by rw[HP.o];exact zrP fs[i].kd,bRf _ _⟩
def yF (fs:List Fld)(m:Mnd):Bool:=
 plain fs m.fd&&(!isSet m.wh||plain fs m.wh)&&(!isSet m.fr||plain fs m.fr)&&!decide (m.wh=m.fd)&&!decide (m.fr=m.fd)&&yG fs m
theorem zpX (s:BA):isSet s=true↔s≠ByteArray.empty:=by
 unfold isSet;rw[zy]
 constructor
 ·intro h e;subst e;simp at h
 ·intro h
  simp only[Bool.not_eq_true',decide_eq_false_iff_not];intro h0
  apply h
  have:s.data.size=0:=h0
  cases s with
  | mk d=>simp only at this;have:=Array.eq_empty_of_size_eq_zero this;subst this;rfl
def qC (a b:BA):Value:=.agg #[.s a,.s b]
structure yV (w:World)(r:Nat)(f:BA->BA->Option Int):Prop where
 ex:∃es clock,w.heap[r]?=some (.map es clock)/\(∀x∈es.toList,∃a b v,x.key=qC a b/\a.size<=maxLen/\b.size<=maxLen/\x.val=.i v/\f a b=some v)/\(∀a b v,f a b=some v->∃x∈es.toList,x.key=qC a b)/\∀(i j:Nat) (x y:MapEntry),es[i]?=some x->es[j]?=some y->x.key=y.key->i=j
 stamps:∀es clock,w.heap[r]?=some (.map es clock)->(∀x∈es.toList,x.born<clock)/\(es.toList.map (·.born)).Nodup
theorem yV.keep {w w':World}{r:Nat}{f:BA->BA->Option Int}(h:yV w r f)(hb:w'.heap[r]?=w.heap[r]?):yV w' r f:=by
 obtain⟨es,clock,h1,h2⟩:=h.ex;exact⟨⟨es,clock,hb.trans h1,h2⟩,fun es' c' h'=>h.stamps es' c' (hb.symm.trans h')⟩
theorem yV.lt {w:World}{r:Nat}{f:BA->BA->Option Int}(h:yV w r f):r<w.heap.size:=by
 obtain⟨es,clock,h1,_⟩:=h.ex;exact(gES h1).1
theorem yV.mono {w w':World}{r:Nat}{f:BA->BA->Option Int}(h:yV w r f)(hb:Bw w w'):yV w' r f:=h.keep (hb.block r h.lt)
structure zju (kt:TypeId):Prop where
 law:WideMaps.KeyLaw Tryz.prog kt
 key:∀a b:BA,a.size<=maxLen->b.size<=maxLen->∃l,keyOf Tryz.prog kt (qC a b)=some l
theorem znu (a b:BA)(ha:a.size<=maxLen)(hb:b.size<=maxLen):Tryz.prog.keyLits (Tryz.prog.types.size+1) 82 [.string a,.string b]=some [.string a.data.toList,.string b.data.toList]:=by
 have e:Tryz.prog.types.size=(Tryz.prog.types.size-1)+1:=by kernel_rfl
 rw[e]
 generalize Tryz.prog.types.size-1=n
 have c:Tryz.prog.cellsOf 82=2:=by kernel_rfl
 have cs:Tryz.prog.cellsOf 9=1:=by kernel_rfl
 simp[Program.keyLits,Tryz.underlying82,Tryz.underlying9,c,cs,ha,hb]
theorem zdf:zju 82:=by
 refine⟨deep_law_laid (m:=3) (by kernel_rfl) (by omega) (by decide +kernel) (by kernel_rfl) (by kernel_rfl),fun a b ha hb=>?_⟩;have h1:Tryz.prog.keyType 82=true:=by kernel_rfl
 have h2:(qC a b).formed Tryz.prog 82=true:=by kernel_rfl
 have h3:(qC a b).cells.toList=[.s a,.s b]:=rfl;refine⟨.string (keyBytes [.string a.data.toList,.string b.data.toList]),?_⟩
 ·unfold keyOf
  rw[Tryz.underlying82];simp only[h1,h2,h3,Bool.and_self,if_true];rw[znu a b ha hb]
  rfl
theorem znp (a b:BA)(ha:a.size<=maxLen)(hb:b.size<=maxLen):Tryz.prog.keyLits (Tryz.prog.types.size+1) 256 [.string a,.string b]=some [.string a.data.toList,.string b.data.toList]:=by
 have e:Tryz.prog.types.size=(Tryz.prog.types.size-1)+1:=by kernel_rfl
 rw[e]
 generalize Tryz.prog.types.size-1=n
 have c:Tryz.prog.cellsOf 256=2:=by kernel_rfl
 have cs:Tryz.prog.cellsOf 9=1:=by kernel_rfl
 simp[Program.keyLits,Tryz.underlying256,Tryz.underlying9,c,cs,ha,hb]
theorem zkd:zju 256:=by
 refine⟨deep_law_laid (m:=3) (by kernel_rfl) (by omega) (by decide +kernel) (by kernel_rfl) (by kernel_rfl),fun a b ha hb=>?_⟩;have h1:Tryz.prog.keyType 256=true:=by kernel_rfl
 have h2:(qC a b).formed Tryz.prog 256=true:=by kernel_rfl
 have h3:(qC a b).cells.toList=[.s a,.s b]:=rfl;refine⟨.string (keyBytes [.string a.data.toList,.string b.data.toList]),?_⟩
 ·unfold keyOf
  rw[Tryz.underlying256];simp only[h1,h2,h3,Bool.and_self,if_true];rw[znp a b ha hb]
  rfl
section
variable {kt mt:TypeId} (K:zju kt) (hm:Tryz.prog.underlying mt=some (.map kt 3))
include K hm
theorem yV.look {w:World}{r:Nat}{f:BA->BA->Option Int}(h:yV w r f)(a b:BA)(ha:a.size<=maxLen)(hb:b.size<=maxLen)(ok:Bool) :
 (Instr.lookup mt (.map (some r)) (qC a b) ok).run Tryz.prog w=.ok (if ok then .tuple #[.i ((f a b).getD 0),.bool (f a b).isSome] else .i ((f a b).getD 0)) w:=by
 obtain⟨es,clock,hh,h1,h2,h3⟩:=h.ex;obtain⟨l,hl⟩:=K.key a b ha hb;have hz:(zeroValue 3).run Tryz.prog w=.ok (.i 0) w:=by kernel_rfl
 have hkeys:∀e∈es.toList,∃l,keyOf Tryz.prog kt e.key=some l:=fun e he=>by
  obtain⟨a',b',v,e1,ha',hb',_⟩:=h1 e he;rw[e1];exact K.key a' b' ha' hb'
 have hc:=K.law.check w es.isEmpty hl
 rcases K.law.find w hl es.toList hkeys with⟨g1,g2⟩|⟨j,e,g1,g2,g3⟩
 ·have hn:f a b=none:=by
   cases hf:f a b with
   | none=>rfl
   | some v=>
    obtain⟨x,hx,hk⟩:=h2 a b v hf;exact absurd hk (g2 x hx)
  rw[hn]
  cases ok <;> simp[Instr.lookup,run_underlying hm,MapKept.run_getObj_map hh,hc,g1,hz,Result.andThen]
 ·obtain⟨a',b',v',e1,_,_,e2,e3⟩:=h1 e (List.mem_of_getElem? g2)
  rw[g3]at e1;have hab:a=a'/\b=b':=by unfold qC at e1;simpa using e1
  obtain⟨rfl,rfl⟩:=hab;rw[e3];rw[e2]at g1
  cases ok <;> simp[Instr.lookup,run_underlying hm,MapKept.run_getObj_map hh,hc,g1,Result.andThen]
theorem yV.upd {w:World}{r:Nat}{f:BA->BA->Option Int}(h:yV w r f)(a b:BA)(ha:a.size<=maxLen)(hb:b.size<=maxLen)(v:Int) :
 ∃w',(Instr.mapUpdate mt (.map (some r)) (qC a b) (.i v)).run Tryz.prog w=.ok () w'/\yV w' r (fun p q=>if p=a/\q=b then some v else f p q)/\zhx r w w':=by
 obtain⟨es,clock,hh,h1,h2,h3⟩:=h.ex;obtain⟨l,hl⟩:=K.key a b ha hb
 have hkeys:∀e∈es.toList,∃l,keyOf Tryz.prog kt e.key=some l:=fun e he=>by
  obtain⟨a',b',v,e1,ha',hb',_⟩:=h1 e he;rw[e1];exact K.key a' b' ha' hb'
 have hc:=K.law.check w es.isEmpty hl;have hs:=K.law.stays w hl;have inj:∀p q,qC p q=qC a b↔p=a/\q=b:=fun p q=>by unfold qC;simp
 rcases K.law.find w hl es.toList hkeys with⟨g1,g2⟩|⟨j,e,g1,g2,g3⟩
 ·refine⟨{ w with heap:=w.heap.setIfInBounds r (.map (es.push ⟨qC a b,.i v,clock⟩) (clock+1)) },?_,⟨⟨_,_,(MapKept.heap_set hh).1,?_,?_,?_⟩,?_⟩,rfl,rfl,rfl,by simp,fun q hq=>(MapKept.heap_set hh).2 q hq⟩
  ·have hc':=K.law.check w false hl
   simp[Instr.mapUpdate,run_underlying hm,MapKept.run_getObj_map hh,hc',g1,MapKept.run_setObj_map _ hh,Result.andThen]
  ·intro x hx
   rw[Array.toList_push,List.mem_append,List.mem_singleton]at hx
   rcases hx with hx|rfl
   ·obtain⟨a',b',v',e1,s1,s2,e2,e3⟩:=h1 x hx
    refine⟨a',b',v',e1,s1,s2,e2,?_⟩
    have:¬(a'=a/\b'=b):=fun he=>g2 x hx (e1.trans ((inj a' b').2 he))
    simp only[if_neg this];exact e3
   ·exact⟨a,b,v,rfl,ha,hb,rfl,by simp⟩
  ·intro p q u hq
   by_cases e:p=a/\q=b
   ·obtain⟨rfl,rfl⟩:=e
    exact⟨⟨qC p q,.i v,clock⟩,by simp,rfl⟩
   ·rw[if_neg e]at hq
    obtain⟨x,hx,hk⟩:=h2 p q u hq;exact⟨x,by simp[Array.toList_push];exact Or.inl (by simpa using hx),hk⟩
  ·intro i j' x y hx hy hxy
   rw[Array.getElem?_push]at hx hy
   by_cases e1:i=es.size
   ·by_cases e2:j'=es.size
    ·omega
    ·rw[if_pos e1]at hx
     rw[if_neg e2]at hy;have hm:y∈es.toList:=by rw[<- Array.mem_def];exact Array.mem_of_getElem? hy
     cases hx
     exact absurd hxy.symm (g2 y hm)
   ·by_cases e2:j'=es.size
    ·rw[if_neg e1]at hx
     rw[if_pos e2]at hy;have hm:x∈es.toList:=by rw[<- Array.mem_def];exact Array.mem_of_getElem? hx
     cases hy
     exact absurd hxy (g2 x hm)
    ·rw[if_neg e1]at hx
     rw[if_neg e2]at hy;exact h3 i j' x y hx hy hxy
  ·intro es' c' h'
   rw[(MapKept.heap_set hh).1]at h'
   cases h'
   obtain⟨s1,s2⟩:=h.stamps es clock hh;refine⟨fun x hx=>?_,?_⟩
   ·rw[Array.toList_push,List.mem_append,List.mem_singleton]at hx
    rcases hx with hx|rfl
    ·have:=s1 x hx;omega
    ·exact Nat.lt_succ_self _
   ·simp only[Array.toList_push,List.map_append,List.map_cons,List.map_nil]
    refine List.nodup_append.2 ⟨s2,by simp,fun a ha c hc e1=>?_⟩;simp only[List.mem_singleton]at hc;obtain⟨x,hx,rfl⟩:=List.mem_map.1 ha
    have:=s1 x hx
    omega
 ·have hj:es[j]?=some e:=by simpa using g2
  have hj':j<es.size:=(gES hj).1;refine⟨{ w with heap:=w.heap.setIfInBounds r (.map (es.modify j fun x=>{ x with key:=qC a b,val:=.i v }) clock) },?_,⟨⟨_,_,(MapKept.heap_set hh).1,?_,?_,?_⟩,?_⟩,rfl,rfl,rfl,by simp,fun q hq=>(MapKept.heap_set hh).2 q hq⟩
  ·have hc':=K.law.check w false hl
   simp[Instr.mapUpdate,run_underlying hm,MapKept.run_getObj_map hh,hc',g1,hj,g3,hs,MapKept.run_setObj_map _ hh,Result.andThen]
  ·intro x hx
   obtain⟨i,hi,rfl⟩:=List.mem_iff_getElem.1 hx;have hi':i<es.size:=by simpa using hi
   simp only[Array.getElem_toList,Array.getElem_modify]
   by_cases e':j=i
   ·subst e'
    simp only[if_true];exact⟨a,b,v,rfl,ha,hb,rfl,by simp⟩
   ·simp only[if_neg e']
    obtain⟨a',b',v',e1,s1,s2,e2,e3⟩:=h1 es[i] (by simp)
    have ek:¬(a'=a/\b'=b):=by
     intro he;exact e' (h3 j i e es[i] hj (Array.getElem?_eq_getElem hi') (g3.trans (e1.trans ((inj a' b').2 he)).symm))
    exact⟨a',b',v',e1,s1,s2,e2,by rw[if_neg ek];exact e3⟩
  ·intro p q u hq
   by_cases e':p=a/\q=b
   ·obtain⟨rfl,rfl⟩:=e'
    refine⟨(es.modify j fun x=>{ x with key:=qC p q,val:=.i v })[j]'(by simpa using hj'),?_,?_⟩
    ·rw[<- Array.mem_def];exact Array.getElem_mem _
    ·rw[Array.getElem_modify];simp
   ·rw[if_neg e']at hq
    obtain⟨x,hx,hk⟩:=h2 p q u hq;obtain⟨i,hi,rfl⟩:=List.mem_iff_getElem.1 hx;have hi':i<es.size:=by simpa using hi
    refine⟨(es.modify j fun x=>{ x with key:=qC a b,val:=.i v })[i]'(by simpa using hi'),?_,?_⟩
    ·rw[<- Array.mem_def];exact Array.getElem_mem _
    ·rw[Array.getElem_modify]
     by_cases e2:j=i
     ·subst e2
      have hjj:es[j]=e:=by
       have:=Array.getElem?_eq_getElem hj'
       rw[hj]at this;exact(Option.some.inj this).symm
      simp only[Array.getElem_toList]at hk;rw[hjj,g3]at hk;exact absurd ((inj p q).1 hk.symm) e'
     ·rw[if_neg e2];exact hk
  ·have hkey:∀(i:Nat) (x:MapEntry),(es.modify j fun x=>{ x with key:=qC a b,val:=.i v })[i]?=some x->∃y,es[i]?=some y/\x.key=y.key:=by
    intro i x hx;obtain⟨hi,rfl⟩:=gES hx;have hi':i<es.size:=by simpa using hi
    refine⟨es[i],Array.getElem?_eq_getElem hi',?_⟩;rw[Array.getElem_modify]
    by_cases e':j=i
    ·subst e'
     rw[Array.getElem?_eq_getElem hi']at hj
     cases hj
     simp[g3]
    ·rw[if_neg e']
   intro i j' x y hx hy hxy;obtain⟨x',hx',ex⟩:=hkey i x hx;obtain⟨y',hy',ey⟩:=hkey j' y hy;exact h3 i j' x' y' hx' hy' (ex.symm.trans (hxy.trans ey))
  ·intro es' c' h'
   rw[(MapKept.heap_set hh).1]at h'
   cases h'
   obtain⟨s1,s2⟩:=h.stamps es clock hh
   have hb:(es.modify j fun x=>{ x with key:=qC a b,val:=.i v }).toList.map (·.born)=es.toList.map (·.born):=by
    apply List.ext_getElem?
    intro i;simp only[Array.toList_modify,List.getElem?_map,List.getElem?_modify]
    by_cases e':j=i
    ·simp only[if_pos e'];cases es.toList[i]? <;> rfl
    ·simp[if_neg e']
   refine⟨fun x hx=>?_,by rw[hb];exact s2⟩;have h4:x.born∈es.toList.map (·.born):=by rw[<- hb];exact List.mem_map.2 ⟨x,hx,rfl⟩
   obtain⟨y,hy,e5⟩:=List.mem_map.1 h4;rw[<- e5];exact s1 y hy
end
set_option maxRecDepth 20000 in
theorem zeU (a a':OA)(cap cap':Nat)(ss:List Shp)(ms:List Mnd)(w:World)(hw:yX w a ss)(hm:qN w a' ms)(hml:ms.length<=1048576) :
 Calls Tryz.prog 122 #[.l a ss.length cap,.l a' ms.length cap'] w fun e w'=>e=.returned (.bool (yB ss ms))/\Bw w w':=by
 have HW:=yU hw hm;have hl:=hw.len;unfold maxLen at hl;clear hw hm
 by_cases h12:ms.length<=12
 rotate_left
 ·have HF:Hid (yB ss ms=false):=by unfold Hid yB;rw[decide_eq_false h12];simp
  go_enter Tryz.func122,Tryz.ntmps122;go_wp2_with fail
  go_ret;exact⟨by rw[HF.o];rfl,bRf _ _⟩
 have h12I:(ms.length:Int)<=12:=by omega
 by_cases hok:zZ ss=true
 rotate_left
 ·have hokf:zZ ss=false:=by simpa using hok
  have HF:Hid (yB ss ms=false):=by unfold Hid yB;rw[hokf];simp
  go_enter Tryz.func122,Tryz.ntmps122;go_wp2_with fail
  have h:=zd9 a cap ss w HW.o.1;rw[hokf]at h;refine h.mono ?_;rintro e w1⟨rfl,hb1⟩;clear h;go_wp2_with fail
  go_ret;exact⟨by rw[HF.o];rfl,hb1⟩
 have HOK:=hid hok;go_enter Tryz.func122,Tryz.ntmps122;go_wp2_with fail
 have h:=zd9 a cap ss w HW.o.1;rw[hok]at h;refine h.mono ?_;rintro e w1⟨rfl,hb1⟩;have HB1:=hid hb1;clear h hb1 hok;go_wp2_with fail
 refine(zdc _).mono ?_;rintro e w2⟨rfl,hw2⟩
 have HB2:Hid (Bw w w2/\w2.heap[w1.heap.size]?=some (.map yQ 4)/\w1.heap.size<w2.heap.size):=by
  rw[hw2];exact⟨HB1.o.trans ((bAl _ _).mono HB1.o.size),alloc_at _ _,by simp⟩
 clear hw2;go_wp2_with fail
 go_loopw [25] (fun iv wr=>∃k:Nat,k<=ms.length/\iv=.i k/\(ms.take k).all (j4 ss)=true/\Bw w2 wr) (fun iv _=>ms.length-(intOf iv).toNat)
 case atStart=>exact⟨0,Nat.zero_le _,rfl,rfl,bRf _ _⟩
 case round=>
  obtain⟨k,hk,rfl,hall,hB⟩:=hrel;have HB:=yU hB (HB2.o.1.trans (hB.mono HB2.o.1.size));have HA:=hid hall;clear hall hB
  by_cases hlt:k<ms.length
  ·obtain⟨b,off,rfl,hb,c0,c1,c2,c3,c4,c5⟩:=HW.o.2.load HB.o.2 k hlt
   have hltI:(k:Int)<(ms.length:Int):=by omega
   have hsm:=HW.o.2.small k hlt
   have HTK:Hid ((ms.take (k+1)).all (j4 ss)=j4 ss ms[k]):=by
    unfold Hid;rw[tSe hlt,List.all_append,HA.o];simp
   have HNO:Hid (j4 ss ms[k]=false->yB ss ms=false):=by
    intro h
    have:ms.all (j4 ss)=false:=by rw[List.all_eq_false];exact⟨_,List.getElem_mem hlt,by rw[h];simp⟩
    unfold yB;rw[this];simp
   have hba:=(bRf wr.heap.size wr).alloc (Nat.le_refl _) (.cells #[.s ms[k].kd,.s ms[k].fd,.s ms[k].wh,.s ms[k].wi,.s ms[k].pt,.s ms[k].fr] 135);have HSM:=hid hsm;clear hsm;go_wp2_with fail
   have h:=qL a cap ss ms[k].kd _ (HW.o.1.mono (HB.o.2.trans (hba.mono HB.o.2.size)))
   by_cases hkk:zJ ss ms[k].kd=true
   rotate_left
   ·have hkf:zJ ss ms[k].kd=false:=by simpa using hkk
    rw[hkf]at h;refine h.mono ?_;rintro e w3⟨fa,fcap,rfl,hfl,hb3⟩;have HF:=yU (HNO.o (by unfold j4;rw[hkf];rfl)) (HB.o.2.trans ((hba.trans (hb3.mono hba.size)).mono HB.o.2.size));clear h hba hfl hb3 c0 c1 c2 c3 c4 c5;go_wp2_with fail
    go_ret;exact⟨by rw[HF.o.1];rfl,HF.o.2.alloc HF.o.2.size _⟩
   rw[hkk]at h;refine h.mono ?_;rintro e w3⟨fa,fcap,rfl,hfl,hb3⟩;have hX3:=za (zl wr _ _) (by simp) hb3;have hz3:wr.heap.size<w3.heap.size:=by have:=hb3.size;simp at this;omega
   have HB3:=hid (hba.trans (hb3.mono hba.size));have hbs:=(bRf w3.heap.size w3).alloc (Nat.le_refl _) (.cells #[.s (shapeOf ss ms[k].kd).kd,.l fa (shapeOf ss ms[k].kd).fs.length fcap] 133);have HB4:=hid (HB3.o.trans (hbs.mono HB3.o.size));have HFL:=hid ((hfl.mono hb3).mono hbs);have HMA:Hid (j4 ss ms[k]=za4 (shapeOf ss ms[k].kd).fs ms[k]):=by unfold Hid j4;rw[hkk];simp
   have HRM:Hid ((w3.alloc (.cells #[.s (shapeOf ss ms[k].kd).kd,.l fa (shapeOf ss ms[k].kd).fs.length fcap] 133)).heap[w1.heap.size]?=some (.map yQ 4)):=by
    have h1:=HB.o.1.size;have h2:=HB2.o.2.2;exact(HB4.o.block w1.heap.size (by omega)).trans ((HB.o.1.block w1.heap.size h2).trans HB2.o.2.1)
   clear h hba hfl hb3 hbs hkk c0 c1 c2 c3 c4 c5;go_wp2_with fail
   have h:=zpb w1.heap.size fa fcap (shapeOf ss ms[k].kd).fs ms[k] _ HRM.o HFL.o HSM.o
   by_cases hmo:za4 (shapeOf ss ms[k].kd).fs ms[k]=true
   ·rw[hmo]at h
    refine h.mono ?_;rintro e w5⟨rfl,hb5⟩;have HY:Hid ((ms.take (k+1)).all (j4 ss)=true/\Bw w2 w5):=⟨by rw[HTK.o,HMA.o];exact hmo,HB.o.1.trans ((HB4.o.trans (hb5.mono HB4.o.size)).mono HB.o.1.size)⟩
    clear h hb5 hmo hX3;go_wp2_with fail
    exact⟨⟨k+1,by omega,by go_num,HY.o.1,HY.o.2⟩,zn hlt⟩
   ·have hmf:za4 (shapeOf ss ms[k].kd).fs ms[k]=false:=by simpa using hmo
    rw[hmf]at h;refine h.mono ?_;rintro e w5⟨rfl,hb5⟩;have HF:=yU (HNO.o (by rw[HMA.o];exact hmf)) (HB.o.2.trans ((HB4.o.trans (hb5.mono HB4.o.size)).mono HB.o.2.size));clear h hb5 hmo hX3;go_wp2_with fail
    go_ret;exact⟨by rw[HF.o.1];rfl,HF.o.2⟩
  ·have e:k=ms.length:=by omega
   have hall:=HA.o;rw[e,tOl (Nat.le_refl _)]at hall;have HALL:=hid hall;subst e;clear hall HA;go_wp2_with fail
   have HBw:=hid HB.o.2;clear HB
   go_loopw [49] (fun iv wq=>∃k:Nat,k<=ss.length/\iv=.i k/\(ss.take k).all (rowOk ms)=true/\Bw w wq) (fun iv _=>ss.length-(intOf iv).toNat)
   case atStart=>exact⟨0,Nat.zero_le _,rfl,rfl,HBw.o⟩
   case round=>
    obtain⟨k,hk,rfl,hall,hB⟩:=hrel;have HB:=hid hB;have HA:=hid hall;clear hall hB
    by_cases hlt:k<ss.length
    ·obtain⟨b,off,rfl,hb,hr⟩:=HW.o.1.rows (by rintro rfl;simp at hlt)
     obtain⟨fa,fcap,hs0⟩:=hr k hlt;have hs:=hs0.mono hb HB.o;have hck:=hs.kind;have hcl:=hs.list;have hfl:=hs.zdS;have hltI:(k:Int)<(ss.length:Int):=by omega
     have HTK:Hid ((ss.take (k+1)).all (rowOk ms)=rowOk ms ss[k]):=by
      unfold Hid;rw[tSe hlt,List.all_append,HA.o];simp
     have HNO:Hid (rowOk ms ss[k]=false->yB ss ms=false):=by
      intro h
      have:ss.all (rowOk ms)=false:=by rw[List.all_eq_false];exact⟨_,List.getElem_mem hlt,by rw[h];simp⟩
      unfold yB;rw[this];simp
     have hba:=(bRf wr.heap.size wr).alloc (Nat.le_refl _) (.cells #[.s ss[k].kd,.l fa ss[k].fs.length fcap] 133);have HFL:=hid (hfl.mono hba);have HBA:Hid (Bw w (wr.alloc (.cells #[.s ss[k].kd,.l fa ss[k].fs.length fcap] 133))):=HB.o.trans (hba.mono HB.o.size);clear hr hs0 hs hfl hba;go_wp2_with fail
     have h:=ziB ss[k] ms a' fa cap' fcap _ (HW.o.2.mono HBA.o) HFL.o hml (zf9 HOK.o k hlt) (zj6 HOK.o HALL.o k hlt)
     by_cases hrk:rowOk ms ss[k]=true
     ·have hrk':(zI (zm ss[k] ms) ss[k].fs.length).1=true:=hrk
      refine h.mono ?_;rintro e w5⟨v5,rfl,hb5,_⟩;have HY:Hid ((ss.take (k+1)).all (rowOk ms)=true/\Bw w w5):=⟨by rw[HTK.o];exact hrk,HBA.o.trans (hb5.mono HBA.o.size)⟩
      rw[hrk'];clear h hb5 hrk hrk' hck hcl;go_wp2_with fail
      exact⟨⟨k+1,by omega,by go_num,HY.o.1,HY.o.2⟩,zn hlt⟩
     ·have hrf:rowOk ms ss[k]=false:=by simpa using hrk
      have hrk':(zI (zm ss[k] ms) ss[k].fs.length).1=false:=hrf;refine h.mono ?_;rintro e w5⟨v5,rfl,hb5,_⟩;have HF:Hid (yB ss ms=false/\Bw w w5):=⟨HNO.o hrf,HBA.o.trans (hb5.mono HBA.o.size)⟩
      rw[hrk'];clear h hb5 hrk hrk' hck hcl;go_wp2_with fail
      go_ret;exact⟨by rw[HF.o.1];rfl,HF.o.2⟩
    ·have e:k=ss.length:=by omega
     have hall:=HA.o;rw[e,tOl (Nat.le_refl _)]at hall;have HF:Hid (yB ss ms=true):=by unfold Hid yB;rw[HALL.o,HOK.o,hall,decide_eq_true h12];rfl
     subst e;clear hall HA;go_wp2_with fail
     go_ret;exact⟨by rw[HF.o];rfl,HB.o⟩
structure BkF (lo hi:Nat)(w:World)(own:Nat->Lb)(a0 a1 a2 a3:OA)(n0 n1 n2 n3:Nat)(f0:Nat->Ob)(f1:Nat->Gr)(f2:Nat->Lg)(f3:Nat->Pu):Prop where
 os:zby lo w own a0 n0 f0
 gs:zcs lo w own a1 n1 f1
 ls:zcA lo w own a2 n2 f2
 ps:zcZ lo w own a3 n3 f3
 out:∀k,(k<lo \/ hi<=k)->(own k).1=9
 le:lo<=hi
 hi:hi<=w.heap.size
def BkL (lo hi:Nat)(w:World)(own:Nat->Lb)(b:Bk)(a0 a1 a2 a3:OA):Prop:=BkF lo hi w own a0 a1 a2 a3 b.os.length b.gs.length b.ls.length b.ps.length (zaW b.os) (zcl b.gs) (zep b.ls) (zfd b.ps)
def kB0 (b:Bk):Int:=kOb 1 b.os b.os.length
def kB1 (b:Bk):Int:=kGr (kB0 b) b.gs b.gs.length
def kB2 (b:Bk):Int:=kLg (kB1 b) b.ls b.ls.length
def kB3 (b:Bk):Int:=kPu (kB2 b) b.ps b.ps.length
def BkM (lo hi:Nat)(w:World)(own:Nat->Lb)(b:Bk)(a0 a1 a2 a3:OA):Prop:=BkF lo hi w own a0 a1 a2 a3 b.os.length b.gs.length b.ls.length b.ps.length (zkQ 1 b.os) (zkk (kB0 b) b.gs) (zjF (kB1 b) b.ls) (zkS (kB2 b) b.ps)
theorem BkF.left {S:Nat->Prop}{lo hi:Nat}{w w':World}{own:Nat->Lb}{a0 a1 a2 a3:OA}{n0 n1 n2 n3:Nat}{f0:Nat->Ob}{f1:Nat->Gr}{f2:Nat->Lg}{f3:Nat->Pu}(h:BkF lo hi w own a0 a1 a2 a3 n0 n1 n2 n3 f0 f1 f2 f3)(hl:Left S w w')(hS:∀k,(own k).1<4->¬S k):BkF lo hi w' own a0 a1 a2 a3 n0 n1 n2 n3 f0 f1 f2 f3:=
 ⟨h.os.left hl (fun k hk=>hS k (by omega)),h.gs.left hl (fun k hk=>hS k (by omega)),h.ls.left hl (fun k hk=>hS k (by omega)),h.ps.left hl (fun k hk=>hS k (by omega)),h.out,h.le,Nat.le_trans h.hi hl.size⟩
theorem BkF.mono {lo hi:Nat}{w w':World}{own:Nat->Lb}{a0 a1 a2 a3:OA}{n0 n1 n2 n3:Nat}{f0:Nat->Ob}{f1:Nat->Gr}{f2:Nat->Lg}{f3:Nat->Pu}(h:BkF lo hi w own a0 a1 a2 a3 n0 n1 n2 n3 f0 f1 f2 f3)(hb:Bw w w'):BkF lo hi w' own a0 a1 a2 a3 n0 n1 n2 n3 f0 f1 f2 f3:=h.left (Left.of_below (fun _=>False) hb) (fun _ _ h=>h)
theorem BkF.marked {lo hi lo' hi':Nat}{w w':World}{own:Nat->Lb}{a0 a1 a2 a3:OA}{n0 n1 n2 n3:Nat}{f0:Nat->Ob}{f1:Nat->Gr}{f2:Nat->Lg}{f3:Nat->Pu}(h:BkF lo hi w own a0 a1 a2 a3 n0 n1 n2 n3 f0 f1 f2 f3)(hm:Marked lo' hi' w w')(hh:hi'<=lo):BkF lo hi w' own a0 a1 a2 a3 n0 n1 n2 n3 f0 f1 f2 f3:=
 h.left (S:=fun k=>k<lo) ⟨hm.os,hm.tape,hm.output,hm.size,fun k hk hn=>hm.out k hk (Or.inr (by omega))⟩ (fun k hk hn=>by have:=h.out k (Or.inl hn);omega)
theorem BkL.at {lo hi:Nat}{w:World}{own:Nat->Lb}{b:Bk}{a0 a1 a2 a3:OA}(h:BkL lo hi w own b a0 a1 a2 a3)(hs:b.Small):jk w b a0 a1 a2 a3:=⟨h.os.at hs.os hs.lo,h.gs.at hs.gs hs.lg,h.ls.at hs.ls hs.ll,h.ps.at hs.ps hs.lp⟩
theorem zrs (b:Bk)(hf:b.Few):1<=kB0 b/\kB0 b<=kB1 b/\kB1 b<=kB2 b/\kB2 b<=kB3 b/\kB3 b<=4000000000000:=by
 have h0:=zoo 1 b.os b.os.length (zjB hf.os.2);have h1:=zpg (kB0 b) b.gs b.gs.length (zjP hf.gs.2);have h2:=zoj (kB1 b) b.ls b.ls.length;have h3:=zoU (kB2 b) b.ps b.ps.length;have e0:kB0 b=kOb 1 b.os b.os.length:=rfl;have e1:kB1 b=kGr (kB0 b) b.gs b.gs.length:=rfl;have e2:kB2 b=kLg (kB1 b) b.ls b.ls.length:=rfl;have e3:kB3 b=kPu (kB2 b) b.ps b.ps.length:=rfl;have c0:=hf.os.1;have c1:=hf.gs.1;have c2:=hf.ls;have c3:=hf.ps;refine⟨?_,?_,?_,?_,?_⟩ <;> omega
theorem zhy (lo hi:Nat)(own:Nat->Lb)(b:Bk)(a0 a1 a2 a3:OA)(c0 c1 c2 c3:Nat)(w:World)(h:BkL lo hi w own b a0 a1 a2 a3)(hf:b.Few) :
 Calls Tryz.prog 13 #[.agg #[.i b.now,.i b.tick,.i b.given,.l a0 b.os.length c0,.l a1 b.gs.length c1,.l a2 b.ls.length c2,.l a3 b.ps.length c3],.i 1] w fun e w'=>e=.returned (.i (kB3 b))/\BkM lo hi w' own b a0 a1 a2 a3/\Left (fun q=>(own q).1<4) w w':=by
 have HF:=hid h;have HL:=hid hf;have HK:=hid (zrs b hf);clear h hf;go_enter Tryz.func13,Tryz.ntmps13;go_wp2_with fail
 have hX0:=zl w (bC b a0 a1 a2 a3 c0 c1 c2 c3) 40;have HM0:=hid (((bRf w.heap.size w).alloc (Nat.le_refl _) (.cells (bC b a0 a1 a2 a3 c0 c1 c2 c3) 40)));obtain⟨W0,hW0⟩:=nm (w.alloc (.cells (bC b a0 a1 a2 a3 c0 c1 c2 c3) 40));have hz0:w.heap.size<W0.heap.size:=by rw[hW0];simp
 rw[<- hW0]at hX0 HM0 ⊢;clear hW0;have HF0:=hid (BkF.mono HF.o HM0.o);have HL0:Hid (Left (fun q=>(own q).1<4) w W0):=Left.of_below _ HM0.o;have HBX:Hid (¬(own w.heap.size).1<4):=by have h1:=HF.o.out w.heap.size (Or.inr HF.o.hi);show ¬_;omega
 refine(zfF lo own _ _ b.os _ _ HF0.o.os HL.o.os.1 (zjB HL.o.os.2) (by omega) (by omega)).mono ?_;rintro e w1⟨he,hn,hl⟩;obtain rfl:e=.returned (.i (kB0 b)):=he;have HF1:=hid (BkF.mk (lo:=lo) (hi:=hi) (w:=w1) (own:=own) (hn) (HF0.o.gs.left hl (fun k h1 h2=>by omega)) (HF0.o.ls.left hl (fun k h1 h2=>by omega)) (HF0.o.ps.left hl (fun k h1 h2=>by omega)) HF0.o.out HF0.o.le (Nat.le_trans HF0.o.hi hl.size));have hX1:∀o,w1.cell? (aD w.heap.size o)=((bC b a0 a1 a2 a3 c0 c1 c2 c3):AV)[o]?:=fun o=>by rw[<- hX0 o];unfold World.cell?;rw[hl.out w.heap.size hz0 (fun h1=>HBX.o (by omega))]
 have hz1:=nLt hz0 hl.size;have HL1:=hid (HL0.o.trans (hl.wide (fun q hq=>by omega)));clear hn hl hX0 hz0 HF0 HL0;go_wp2_with fail
 refine(zf3 lo own _ _ b.gs _ _ HF1.o.gs HL.o.gs.1 (zjP HL.o.gs.2) (by have a0:=HK.o;omega) (by have a0:=HK.o;omega)).mono ?_;rintro e w2⟨he,hn,hl⟩;obtain rfl:e=.returned (.i (kB1 b)):=he;have HF2:=hid (BkF.mk (lo:=lo) (hi:=hi) (w:=w2) (own:=own) (HF1.o.os.left hl (fun k h1 h2=>by omega)) (hn) (HF1.o.ls.left hl (fun k h1 h2=>by omega)) (HF1.o.ps.left hl (fun k h1 h2=>by omega)) HF1.o.out HF1.o.le (Nat.le_trans HF1.o.hi hl.size));have hX2:∀o,w2.cell? (aD w.heap.size o)=((bC b a0 a1 a2 a3 c0 c1 c2 c3):AV)[o]?:=fun o=>by rw[<- hX1 o];unfold World.cell?;rw[hl.out w.heap.size hz1 (fun h1=>HBX.o (by omega))]
 have hz2:=nLt hz1 hl.size;have HL2:=hid (HL1.o.trans (hl.wide (fun q hq=>by omega)));clear hn hl hX1 hz1 HF1 HL1;go_wp2_with fail
 refine(zfD lo own _ _ b.ls _ _ HF2.o.ls HL.o.ls (by have a0:=HK.o;omega) (by have a0:=HK.o;omega)).mono ?_;rintro e w3⟨he,hn,hl⟩;obtain rfl:e=.returned (.i (kB2 b)):=he;have HF3:=hid (BkF.mk (lo:=lo) (hi:=hi) (w:=w3) (own:=own) (HF2.o.os.left hl (fun k h1 h2=>by omega)) (HF2.o.gs.left hl (fun k h1 h2=>by omega)) (hn) (HF2.o.ps.left hl (fun k h1 h2=>by omega)) HF2.o.out HF2.o.le (Nat.le_trans HF2.o.hi hl.size));have hX3:∀o,w3.cell? (aD w.heap.size o)=((bC b a0 a1 a2 a3 c0 c1 c2 c3):AV)[o]?:=fun o=>by rw[<- hX2 o];unfold World.cell?;rw[hl.out w.heap.size hz2 (fun h1=>HBX.o (by omega))]
 have hz3:=nLt hz2 hl.size;have HL3:=hid (HL2.o.trans (hl.wide (fun q hq=>by omega)));clear hn hl hX2 hz2 HF2 HL2;go_wp2_with fail
 refine(zf1 lo own _ _ b.ps _ _ HF3.o.ps HL.o.ps (by have a0:=HK.o;omega) (by have a0:=HK.o;omega)).mono ?_;rintro e w4⟨he,hn,hl⟩;obtain rfl:e=.returned (.i (kB3 b)):=he;have HF4:=hid (BkF.mk (lo:=lo) (hi:=hi) (w:=w4) (own:=own) (HF3.o.os.left hl (fun k h1 h2=>by omega)) (HF3.o.gs.left hl (fun k h1 h2=>by omega)) (HF3.o.ls.left hl (fun k h1 h2=>by omega)) (hn) HF3.o.out HF3.o.le (Nat.le_trans HF3.o.hi hl.size));have hX4:∀o,w4.cell? (aD w.heap.size o)=((bC b a0 a1 a2 a3 c0 c1 c2 c3):AV)[o]?:=fun o=>by rw[<- hX3 o];unfold World.cell?;rw[hl.out w.heap.size hz3 (fun h1=>HBX.o (by omega))]
 have hz4:=nLt hz3 hl.size;have HL4:=hid (HL3.o.trans (hl.wide (fun q hq=>by omega)));clear hn hl hX3 hz3 HF3 HL3;go_wp2_with fail
 go_ret;exact⟨rfl,HF4.o,HL4.o⟩
theorem zdQ (lo hi:Nat)(own:Nat->Lb)(b:Bk)(a0 a1 a2 a3:OA)(c0 c1 c2 c3:Nat)(w:World)(h:BkM lo hi w own b a0 a1 a2 a3)(hf:b.Few) :
 Calls Tryz.prog 14 #[.agg #[.i b.now,.i b.tick,.i b.given,.l a0 b.os.length c0,.l a1 b.gs.length c1,.l a2 b.ls.length c2,.l a3 b.ps.length c3],.i 1] w fun e w'=>e=.returned (.i (kB3 b))/\Bw w w':=by
 have HF:=hid h;have HL:=hid hf;have HK:=hid (zrs b hf);clear h hf;go_enter Tryz.func14,Tryz.ntmps14;go_wp2_with fail
 have hX0:=zl w (bC b a0 a1 a2 a3 c0 c1 c2 c3) 40;have HM0:=hid (((bRf w.heap.size w).alloc (Nat.le_refl _) (.cells (bC b a0 a1 a2 a3 c0 c1 c2 c3) 40)));obtain⟨W0,hW0⟩:=nm (w.alloc (.cells (bC b a0 a1 a2 a3 c0 c1 c2 c3) 40));have hz0:w.heap.size<W0.heap.size:=by rw[hW0];simp
 rw[<- hW0]at hX0 HM0 ⊢;clear hW0;refine(zfH lo own _ _ b.os _ _ (HF.o.os.mono HM0.o) HL.o.os.1 (zjB HL.o.os.2) (by omega) (by omega)).mono ?_;rintro e w1⟨he,hb⟩;obtain rfl:e=.returned (.i (kB0 b)):=he;have hX1:=za hX0 hz0 hb;have hz1:=nLt hz0 hb.size;have HM1:=hid (HM0.o.trans (hb.mono HM0.o.size));have hng0:decide (kB0 b<0)=false:=by have a0:=HK.o;simp only[decide_eq_false_iff_not];omega
 clear hb hX0 hz0 HM0;go_wp2_with fail
 refine(zgc lo own _ _ b.gs _ _ (HF.o.gs.mono HM1.o) HL.o.gs.1 (zjP HL.o.gs.2) (by have a0:=HK.o;omega) (by have a0:=HK.o;omega)).mono ?_;rintro e w2⟨he,hb⟩;obtain rfl:e=.returned (.i (kB1 b)):=he;have hX2:=za hX1 hz1 hb;have hz2:=nLt hz1 hb.size;have HM2:=hid (HM1.o.trans (hb.mono HM1.o.size));have hng1:decide (kB1 b<0)=false:=by have a0:=HK.o;simp only[decide_eq_false_iff_not];omega
 clear hb hX1 hz1 HM1;go_wp2_with fail
 refine(zfE lo own _ _ b.ls _ _ (HF.o.ls.mono HM2.o) HL.o.ls (by have a0:=HK.o;omega) (by have a0:=HK.o;omega)).mono ?_;rintro e w3⟨he,hb⟩;obtain rfl:e=.returned (.i (kB2 b)):=he;have hX3:=za hX2 hz2 hb;have hz3:=nLt hz2 hb.size;have HM3:=hid (HM2.o.trans (hb.mono HM2.o.size));have hng2:decide (kB2 b<0)=false:=by have a0:=HK.o;simp only[decide_eq_false_iff_not];omega
 clear hb hX2 hz2 HM2;go_wp2_with fail
 refine(zf7 lo own _ _ b.ps _ _ (HF.o.ps.mono HM3.o) HL.o.ps (by have a0:=HK.o;omega) (by have a0:=HK.o;omega)).mono ?_;rintro e w4⟨he,hb⟩;obtain rfl:e=.returned (.i (kB3 b)):=he;have hX4:=za hX3 hz3 hb;have hz4:=nLt hz3 hb.size;have HM4:=hid (HM3.o.trans (hb.mono HM3.o.size));have hng3:decide (kB3 b<0)=false:=by have a0:=HK.o;simp only[decide_eq_false_iff_not];omega
 clear hb hX3 hz3 HM3;go_wp2_with fail
 go_ret;exact⟨rfl,HM4.o⟩
end Go.Proofs.YtbfgkhgmnfghgaaGreat
