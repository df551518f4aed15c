import Derived.Test.YtcgpjfcocmcodaaGreatM32
set_option maxHeartbeats 8000000
namespace Go.Proofs.YtcgpjfcocmcodaaGreat
open Go.RowKit
structure PuE (c:Nat->Option Value)(x:Pu):Prop where
 cell:∀j,j<5->c j=(#[.s x.dr,.s x.tm,.s x.rs,.i x.am,.i x.un]:AV)[j]?
structure zc4 (lo:Nat)(w:World)(own:Nat->Lb)(a:OA)(n:Nat)(f:Nat->Pu):Prop where
 rows:0<n->∃b C,a=some (aD b 0)/\lo<=b/\own b=(3,0,0)/\w.heap[b]?=some (.cells C 142)/\n*5<=C.size/\∀i,i<n->PuE (fun j=>C[i*5+j]?) (f i)
theorem zc4.left {S:Nat->Prop}{lo:Nat}{w w':World}{own:Nat->Lb}{a:OA}{n:Nat}{f:Nat->Pu}(h:zc4 lo w own a n f)(hl:Left S w w')(hS:∀k,(own k).1=3->¬S k):zc4 lo w' own a n f:=by
 refine⟨fun hn=>?_⟩;obtain⟨b,C,ha,hlo,hb,hC,hs,hr⟩:=h.rows hn;refine⟨b,C,ha,hlo,hb,(hl.out b (gES hC).1 (hS b (by rw[hb]))).trans hC,hs,hr⟩
theorem zc4.mono {lo:Nat}{w w':World}{own:Nat->Lb}{a:OA}{n:Nat}{f:Nat->Pu}(h:zc4 lo w own a n f)(hb:Bw w w'):zc4 lo w' own a n f:=h.left (Left.of_below (fun _=>False) hb) (fun _ _ h=>h)
theorem zc4.own {lo:Nat}{w:World}{own own':Nat->Lb}{a:OA}{n:Nat}{f:Nat->Pu}(h:zc4 lo w own a n f)(he:∀k,k<w.heap.size->(own k).1=3->own' k=own k):zc4 lo w own' a n f:=by
 refine⟨fun hn=>?_⟩;obtain⟨b,C,ha,hlo,hb,hC,hs,hr⟩:=h.rows hn;refine⟨b,C,ha,hlo,(he b (gES hC).1 (by rw[hb])).trans hb,hC,hs,hr⟩
theorem zc4.low {lo lo':Nat}{w:World}{own:Nat->Lb}{a:OA}{n:Nat}{f:Nat->Pu}(h:zc4 lo w own a n f)(hl:lo'<=lo):zc4 lo' w own a n f:=by
 refine⟨fun hn=>?_⟩;obtain⟨b,C,ha,hlo,hb,hC,hs,hr⟩:=h.rows hn;refine⟨b,C,ha,Nat.le_trans hl hlo,hb,hC,hs,hr⟩
theorem zc4.same {lo:Nat}{w:World}{own:Nat->Lb}{a:OA}{n:Nat}{f f':Nat->Pu}(h:zc4 lo w own a n f)(he:∀i,i<n->f' i=f i):zc4 lo w own a n f':=by
 refine⟨fun hn=>?_⟩;obtain⟨b,C,ha,hlo,hb,hC,hs,hr⟩:=h.rows hn;refine⟨b,C,ha,hlo,hb,hC,hs,fun i hi=>?_⟩;rw[he i hi];exact hr i hi
def ze8 (ms:List Pu)(i:Nat):Pu:=(ms[i]?).getD ⟨ByteArray.empty,ByteArray.empty,ByteArray.empty,0,0⟩
theorem zpv {ms:List Pu}{i:Nat}(h:i<ms.length):ze8 ms i=ms[i]:=by unfold ze8;rw[List.getElem?_eq_getElem h];rfl
theorem zc4.at {lo:Nat}{w:World}{own:Nat->Lb}{a:OA}{ms:List Pu}(h:zc4 lo w own a ms.length (ze8 ms))(hs:∀i (h:i<ms.length),ms[i].Small)(hl:ms.length<=maxLen):zce w a ms:=by
 refine⟨hl,hs,fun hne=>?_⟩;obtain⟨b,C,ha,hlo,hb,hC,hsz,hr⟩:=h.rows (List.length_pos_iff.2 hne);refine⟨b,0,ha,(gES hC).1,fun i hi j hj=>?_⟩;have hx:=hr i hi;rw[zpv hi]at hx;rw[cell_of_block hC,Nat.zero_add];exact hx.cell j hj
def zmy (k:Int)(_x:Pu):Pu:=⟨(mkT (k)),(mkT (k+1)),(mkT (k+1+1)),(k+1+1+1),(k+1+1+1+1)⟩
def zqO (k:Int)(_x:Pu):Int:=k+1+1+1+1+1
def kPu (k:Int)(ms:List Pu):Nat->Int
 | 0=>k
 | i+1=>zqO (kPu k ms i) (ze8 ms i)
def zjR (k:Int)(ms:List Pu)(i:Nat):Pu:=zmy (kPu k ms i) (ze8 ms i)
def zlK (k:Int)(ms:List Pu)(i j:Nat):Pu:=if j<i then zjR k ms j else ze8 ms j
theorem zou (k:Int)(ms:List Pu)(i:Nat):k+i<=kPu k ms i/\kPu k ms i<=k+i*5:=by
 induction i with
 | zero=>exact⟨by show k+0<=k;omega,by show k<=k+0*5;omega⟩
 | succ i ih=>
  have h1:kPu k ms (i+1)=zqO (kPu k ms i) (ze8 ms i):=rfl;unfold zqO at h1;rw[h1];exact⟨by omega,by omega⟩
set_option maxRecDepth 20000 in
theorem zgb (lo:Nat)(own:Nat->Lb)(a:OA)(cap:Nat)(ms:List Pu)(k:Int)(w:World)(h:zc4 lo w own a ms.length (ze8 ms))(hl:ms.length<=1048576)(hk:0<k)(hk2:k<5000000000000000000) :
 Calls Tryz.prog 57 #[.l a ms.length cap,.i k] w fun e w'=>e=.returned (.i (kPu k ms ms.length))/\zc4 lo w' own a ms.length (zjR k ms)/\Left (fun q=>(own q).1=3) w w':=by
 have HF:=hid h;have HL:=hid hl;have HK:=ql hk hk2;clear h hl hk hk2;go_enter Tryz.func57,Tryz.ntmps57;go_wp2_with fail
 go_loopw [1,5] (fun kv iv wr=>∃i:Nat,i<=ms.length/\kv=.i (kPu k ms i)/\iv=.i i/\Hid (zc4 lo wr own a ms.length (zlK k ms i)/\Left (fun q=>(own q).1=3) w wr)) (fun _ iv _=>ms.length-(intOf iv).toNat)
 case atStart=>exact⟨0,Nat.zero_le _,rfl,rfl,HF.o.same (fun i _=>if_neg (Nat.not_lt_zero i)),Left.refl _ _⟩
 case round=>
  obtain⟨i,hile,rfl,rfl,HQ⟩:=hrel
  by_cases hlt:i<ms.length
  ·have hltI:(i:Int)<(ms.length:Int):=by omega
   have HKI:Hid (kPu k ms (i+1)=zqO (kPu k ms i) (ze8 ms i)):=rfl;have hkb:=zou k ms i;have HMX:Hid (zjR k ms i=zmy (kPu k ms i) (ze8 ms i)):=rfl
   generalize kPu k ms i=kk at hkb HKI HMX ⊢
   have HB:Hid (0<kk/\kk<7000000000000000000):=by have a:=HK.o;have b:=HL.o;exact⟨by omega,by omega⟩
   clear hkb;obtain⟨bo,C,rfl,hlo,hbo,hC,hsz,hr⟩:=HQ.o.1.rows (by omega);have hx:=hr i hlt;rw[show zlK k ms i i=ze8 ms i from if_neg (Nat.lt_irrefl i)]at hx
   generalize ze8 ms i=x at hx HKI HMX
   have HS:=hid (show i*5+5<=C.size by omega);have HRR:=zbX hlo hbo hC hsz;have M0:Hid (Mid own lo bo 142 C 5 i 3 wr wr #[.s x.dr,.s x.tm,.s x.rs,.i x.am,.i x.un] none none none [] [] []):=⟨jl.new hC hx.cell,rfl,Left.refl _ _,hbo,Or.inl ⟨rfl,rfl⟩,(fun _ h=>by cases h),Or.inl ⟨rfl,rfl⟩,(fun _ h=>by cases h),Or.inl ⟨rfl,rfl⟩,(fun _ h=>by cases h)⟩
   clear hr hx hlo hbo hC hsz;go_wp2_with fail
   refine(yI _ _ (by have a:=HB.o;omega) (by have a:=HB.o;omega)).mono ?_;rintro e wm1⟨rfl,hb⟩;have M1:=hid (M0.out.below hb);clear hb M0;obtain⟨y1,hv1⟩:=M1.out.ex 0 (by omega);have hf1:=fun o=>M1.out.row.fz o
   have hg1:=M1.out.row.lt;rw[Nat.add_zero]at hv1;have M2:=hid (M1.out.set 0 (.s (mkT (kk))) (by omega) HS.o);rw[Nat.add_zero]at M2;clear M1;have hw_2:wrap64 (kk+1)=kk+1:=zA _ ⟨by have a:=HB.o;omega,by have a:=HB.o;omega⟩;go_wp2_with fail
   clear hv1 hf1 hg1;refine(yI _ _ (by have a:=HB.o;omega) (by have a:=HB.o;omega)).mono ?_;rintro e wm2⟨rfl,hb⟩;have M3:=hid (M2.out.below hb);clear hb M2;obtain⟨y2,hv2⟩:=M3.out.ex 1 (by omega);have hf2:=fun o=>M3.out.row.fz o
   have hg2:=M3.out.row.lt;have M4:=hid (M3.out.set 1 (.s (mkT (kk+1))) (by omega) HS.o);clear M3;have hw_4:wrap64 (kk+1+1)=kk+1+1:=zA _ ⟨by have a:=HB.o;omega,by have a:=HB.o;omega⟩;go_wp2_with fail
   clear hv2 hf2 hg2;refine(yI _ _ (by have a:=HB.o;omega) (by have a:=HB.o;omega)).mono ?_;rintro e wm3⟨rfl,hb⟩;have M5:=hid (M4.out.below hb);clear hb M4;obtain⟨y3,hv3⟩:=M5.out.ex 2 (by omega);have hf3:=fun o=>M5.out.row.fz o
   have hg3:=M5.out.row.lt;have M6:=hid (M5.out.set 2 (.s (mkT (kk+1+1))) (by omega) HS.o);clear M5;have hw_6:wrap64 (kk+1+1+1)=kk+1+1+1:=zA _ ⟨by have a:=HB.o;omega,by have a:=HB.o;omega⟩;obtain⟨y4,hv4⟩:=M6.out.ex 3 (by omega);have hf4:=fun o=>M6.out.row.fz o
   have hg4:=M6.out.row.lt;have M7:=hid (M6.out.set 3 (.i (kk+1+1+1)) (by omega) HS.o);clear M6;have hw_7:wrap64 (kk+1+1+1+1)=kk+1+1+1+1:=zA _ ⟨by have a:=HB.o;omega,by have a:=HB.o;omega⟩;obtain⟨y5,hv5⟩:=M7.out.ex 4 (by omega);have hf5:=fun o=>M7.out.row.fz o
   have hg5:=M7.out.row.lt;have M8:=hid (M7.out.set 4 (.i (kk+1+1+1+1)) (by omega) HS.o);clear M7;have hw_8:wrap64 (kk+1+1+1+1+1)=kk+1+1+1+1+1:=zA _ ⟨by have a:=HB.o;omega,by have a:=HB.o;omega⟩;go_wp2_with fail
   go_roundw
   case rel=>
    have hkn:kk+1+1+1+1+1=kPu k ms (i+1):=HKI.o.symm;refine⟨i+1,by omega,by first|rw[hw_8,hkn]|rw[hkn],by rw[wrap_one (by have:=HL.o;omega)],⟨fun _=>?_⟩,HQ.o.2.trans (M8.out.left.wide ?_)⟩
    ·obtain⟨C',hC',hs',ho',hd'⟩:=M8.out.row.ex
     refine⟨bo,C',rfl,HRR.o.1,HRR.o.2.1,hC',by rw[hs'];exact HRR.o.2.2.2,fun z hz=>?_⟩
     by_cases ez:z=i
     ·subst ez
      rw[show zlK k ms (z+1) z=zjR k ms z from if_pos (Nat.lt_succ_self z),HMX.o];exact⟨fun j hj=>hd' j hj⟩
     ·rw[show zlK k ms (i+1) z=zlK k ms i z by unfold zlK;by_cases hz1:z<i <;> simp[hz1] <;> omega]
      obtain⟨b2,C2,h2a,_,_,h2C,_,h2r⟩:=HQ.o.1.rows (by omega)
      cases h2a
      obtain rfl:C2=C:=by have h3:=HRR.o.2.2.1;rw[h2C]at h3;cases h3;rfl
      exact⟨fun j hj=>(ho' _ (by omega)).trans ((h2r z hz).cell j hj)⟩
    ·rintro z (hz|hz|hz|hz) <;> rw[hz]
   case measure=>exact yR hlt (by have:=HL.o;omega)
  ·have e:i=ms.length:=by omega
   subst e;go_wp2_with fail
   go_ret;exact⟨rfl,HQ.o.1.same (fun j hj=>(if_pos hj).symm),HQ.o.2⟩
set_option maxRecDepth 20000 in
theorem zf8 (lo:Nat)(own:Nat->Lb)(a:OA)(cap:Nat)(ms:List Pu)(k:Int)(w:World)(h:zc4 lo w own a ms.length (zjR k ms))(hl:ms.length<=1048576)(hk:0<k)(hk2:k<5000000000000000000) :
 Calls Tryz.prog 61 #[.l a ms.length cap,.i k] w fun e w'=>e=.returned (.i (kPu k ms ms.length))/\Bw w w':=by
 have HF:=hid h;have HL:=hid hl;have HK:=ql hk hk2;clear h hl hk hk2;go_enter Tryz.func61,Tryz.ntmps61;go_wp2_with fail
 go_loopw [1,5] (fun kv iv wr=>∃i:Nat,i<=ms.length/\kv=.i (kPu k ms i)/\iv=.i i/\Bw w wr) (fun _ iv _=>ms.length-(intOf iv).toNat)
 case atStart=>exact⟨0,Nat.zero_le _,rfl,rfl,bRf _ _⟩
 case round=>
  obtain⟨i,hile,rfl,rfl,hB⟩:=hrel
  by_cases hlt:i<ms.length
  ·have hltI:(i:Int)<(ms.length:Int):=by omega
   have HKI:Hid (kPu k ms (i+1)=zqO (kPu k ms i) (ze8 ms i)):=rfl;have hkb:=zou k ms i;have HMX:Hid (zjR k ms i=zmy (kPu k ms i) (ze8 ms i)):=rfl
   generalize kPu k ms i=kk at hkb HKI HMX ⊢
   have HB:Hid (0<kk/\kk<7000000000000000000):=by have a:=HK.o;have b:=HL.o;exact⟨by omega,by omega⟩
   clear hkb;obtain⟨bo,C,rfl,hlo,hbo,hC,hsz,hr⟩:=HF.o.rows (by omega);have hx:=hr i hlt;rw[HMX.o]at hx
   generalize ze8 ms i=x at hx HKI HMX
   have HR0:Hid (jl w bo 142 C 5 i #[.s (zmy kk x).dr,.s (zmy kk x).tm,.s (zmy kk x).rs,.i (zmy kk x).am,.i (zmy kk x).un]):=jl.new hC hx.cell;have HR1:Hid (jl wr bo 142 C 5 i #[.s (mkT (kk)),.s (mkT (kk+1)),.s (mkT (kk+1+1)),.i (kk+1+1+1),.i (kk+1+1+1+1)]):=by have hh:=(HR0.o).left (Left.of_below (fun _=>False) (hB.mono (Nat.le_refl _))) (fun h=>h);unfold zmy at hh;exact hh
   have HB0:=hid hB;clear hr hx hlo hbo hC hsz hB HR0;have hv1:wr.drew.cell? (aD bo (i*5))=some (.s (mkT (kk))):=by have hh:=(HR1.o).cell 0 (by omega);rw[Nat.add_zero]at hh;exact hh
   have hlt1:bo<wr.drew.heap.size:=(HR1.o).lt;have hBd:Below wr.drew.heap.size wr wr.drew:=(bRf _ _).drew;go_wp2_with fail
   go_region_held3 (fun w'=>w'.cell? (aD bo (i*5))=some (.s (mkT (kk)))) (exact hv1) (first|(go_at_call 107;refine(yI _ _ (by have a:=HB.o;omega) (by have a:=HB.o;omega)).mono ?_;rintro e wm1⟨rfl,hb⟩;have hv1:=(hb.cell (p:=(aD bo (i*5))) hlt1).trans hv1;have hBd:=hBd.trans (hb.mono hBd.size);clear hb))
   all_goals have HR2:=hid ((HR1.o).below hBd)
   all_goals have HB1:=hid (HB0.o.trans (hBd.mono HB0.o.size))
   all_goals clear hBd hlt1 HR1 HB0
   have hw_11:wrap64 (kk+1)=kk+1:=zA _ ⟨by have a:=HB.o;omega,by have a:=HB.o;omega⟩;have hv2:wm1.drew.cell? (aD bo (i*5+1))=some (.s (mkT (kk+1))):=by have hh:=(HR2.o).cell 1 (by omega);exact hh
   have hlt2:bo<wm1.drew.heap.size:=(HR2.o).lt;have hBd:Below wm1.drew.heap.size wm1 wm1.drew:=(bRf _ _).drew;go_wp2_with fail
   clear hv1
   go_region_held3 (fun w'=>w'.cell? (aD bo (i*5+1))=some (.s (mkT (kk+1)))) (exact hv2) (first|(go_at_call 107;refine(yI _ _ (by have a:=HB.o;omega) (by have a:=HB.o;omega)).mono ?_;rintro e wm2⟨rfl,hb⟩;have hv2:=(hb.cell (p:=(aD bo (i*5+1))) hlt2).trans hv2;have hBd:=hBd.trans (hb.mono hBd.size);clear hb))
   all_goals have HR3:=hid ((HR2.o).below hBd)
   all_goals have HB2:=hid (HB1.o.trans (hBd.mono HB1.o.size))
   all_goals clear hBd hlt2 HR2 HB1
   have hw_21:wrap64 (kk+1+1)=kk+1+1:=zA _ ⟨by have a:=HB.o;omega,by have a:=HB.o;omega⟩;have hv3:wm2.drew.cell? (aD bo (i*5+2))=some (.s (mkT (kk+1+1))):=by have hh:=(HR3.o).cell 2 (by omega);exact hh
   have hlt3:bo<wm2.drew.heap.size:=(HR3.o).lt;have hBd:Below wm2.drew.heap.size wm2 wm2.drew:=(bRf _ _).drew;go_wp2_with fail
   clear hv2
   go_region_held3 (fun w'=>w'.cell? (aD bo (i*5+2))=some (.s (mkT (kk+1+1)))) (exact hv3) (first|(go_at_call 107;refine(yI _ _ (by have a:=HB.o;omega) (by have a:=HB.o;omega)).mono ?_;rintro e wm3⟨rfl,hb⟩;have hv3:=(hb.cell (p:=(aD bo (i*5+2))) hlt3).trans hv3;have hBd:=hBd.trans (hb.mono hBd.size);clear hb))
   all_goals have HR4:=hid ((HR3.o).below hBd)
   all_goals have HB3:=hid (HB2.o.trans (hBd.mono HB2.o.size))
   all_goals clear hBd hlt3 HR3 HB2
   have hw_31:wrap64 (kk+1+1+1)=kk+1+1+1:=zA _ ⟨by have a:=HB.o;omega,by have a:=HB.o;omega⟩;have hv_3:=(HR4.o).cell 3 (by omega);have hlt_3:=(HR4.o).lt;have hne_3:((kk+1+1+1) != (kk+1+1+1))=false:=by simp
   have hw_35:wrap64 (kk+1+1+1+1)=kk+1+1+1+1:=zA _ ⟨by have a:=HB.o;omega,by have a:=HB.o;omega⟩;have hv_4:=(HR4.o).cell 4 (by omega);have hlt_4:=(HR4.o).lt;have hne_4:((kk+1+1+1+1) != (kk+1+1+1+1))=false:=by simp
   have hw_39:wrap64 (kk+1+1+1+1+1)=kk+1+1+1+1+1:=zA _ ⟨by have a:=HB.o;omega,by have a:=HB.o;omega⟩;go_wp2_with fail
   have hkn:kk+1+1+1+1+1=kPu k ms (i+1):=by rw[HKI.o];rfl
   exact⟨⟨i+1,by omega,by first|rw[hw_39,hkn]|rw[hkn],by rw[wrap_one (by have:=HL.o;omega)],HB3.o⟩,yR hlt (by have:=HL.o;omega)⟩
  ·have e:i=ms.length:=by omega
   subst e;go_wp2_with fail
   go_ret;exact⟨rfl,hB⟩
theorem zln {w:World}{b off:Nat}{xs:List Int}(h:qm w (some (aD b off)) xs):∀j u,(ints xs)[j]?=some u->w.cell? (((aD b off):Addr).add j)=some u:=by
 intro j u hj
 have hlt:j<xs.length:=by
  have:=(List.getElem?_eq_some_iff.1 hj).1
  simpa[ints] using this
 obtain⟨b',off',e,_,hc⟩:=h.cells (by rintro rfl;simp at hlt)
 cases e
 have h1:=hc j hlt
 have e1:((aD b off):Addr).add j=(aD b (off+j)):=by
  unfold Addr.add;split
  ·rename_i h;subst h;simp
  ·rfl
 rw[e1,h1];unfold ints at hj;rw[List.getElem?_map,List.getElem?_eq_getElem hlt]at hj
 simpa using hj
theorem zmR {xs:List Int}:∀u∈ints xs,u.oneCell'=true:=by
 intro u hu;unfold ints at hu;simp only[List.mem_map]at hu;obtain⟨s,_,rfl⟩:=hu;rfl
set_option maxRecDepth 20000 in
theorem zmw (r:Rl)(a:OA)(cap:Nat)(w:World)(hw:qm w a r.vs)(hl:r.vs.length<=1048576) :
 Calls Tryz.prog 140 #[.agg #[.l a r.vs.length cap,.s r.kd,.s r.tm,.s r.px]] w fun e w'=>∃a' cap',e=.returned (.agg #[.l a' r.vs.length cap',.s r.kd,.s r.tm,.s r.px])/\yx w.heap.size w' a' r.vs/\Bw w w':=by
 by_cases h0:r.vs=[]
 ·have hn:r.vs.length=0:=by rw[h0];rfl
  rw[hn]
  rcases a with _|g
  all_goals
   go_enter Tryz.func140,Tryz.ntmps140;go_wp2_with fail
   refine bodyPost_ret (v:=.agg #[.l none 0 0,.s r.kd,.s r.tm,.s r.px]) (by simp[results,Tryz.results140,go_sem]) rfl ⟨none,0,rfl,Or.inl ⟨rfl,h0⟩,zw _ _ _⟩
 ·obtain⟨b,off,rfl,_⟩:=hw.cells h0
  obtain⟨i0,hi,hz0,hz1,hz2⟩:=info_parts Tryz.zhd;have k0:=zQ w (.cells #[.l (some (aD b off)) r.vs.length cap,.s r.kd,.s r.tm,.s r.px] 123) (.cells #[.l none 0 0,.s ⟨#[]⟩,.s ⟨#[]⟩,.s ⟨#[]⟩] 123);have hB0:=zw w (.cells #[.l (some (aD b off)) r.vs.length cap,.s r.kd,.s r.tm,.s r.px] 123) (.cells #[.l none 0 0,.s ⟨#[]⟩,.s ⟨#[]⟩,.s ⟨#[]⟩] 123);obtain⟨W,hW⟩:=xN ((w.alloc (.cells #[.l (some (aD b off)) r.vs.length cap,.s r.kd,.s r.tm,.s r.px] 123)).alloc (.cells #[.l none 0 0,.s ⟨#[]⟩,.s ⟨#[]⟩,.s ⟨#[]⟩] 123));have hz:W.heap.size=w.heap.size+1+1:=by rw[hW];simp
  go_enter Tryz.func140,Tryz.ntmps140
  go_wp2_with (at_builtin;refine zbB ?_)
  rw[<- hW]at k0 hB0 ⊢;clear hW
  show wpList _ _ _ _ _ _
  refine wpList_append_own _ rfl (.const (.l none 0 0)) (.tmp 4) 109 rfl (w.heap.size+1+1) 3 i0 (.i 0) 1 8 Tryz.underlying109 hi hz0 hz1 hz2 rfl (by decide) (.l none 0 0) 0 [] rfl ⟨rfl,.inl ⟨rfl,rfl⟩⟩ (aD b off) r.vs.length cap (ints r.vs) rfl (by simp[ints]) (zln (hw.mono hB0)) zmR (by unfold maxLen;omega) (by omega) (by omega) ?_;intro v' w1 hown hgr _;simp only[Nat.zero_add,List.nil_append]at hown;obtain⟨a',cap',rfl,ho⟩:=yx.zdq hown;have hb1:Bw W w1:=(bRf _ _).grown hgr (Nat.le_refl _) (by simp[Value.ownBlock]);have K0:=(hb1.block _ (by omega)).trans k0.1;have K1:=(hb1.block _ (by omega)).trans k0.2;have HF:Hid (yx (w.heap.size+1+1) w1 a' r.vs/\Bw w w1):=⟨ho,hB0.trans (hb1.mono (by omega))⟩
  have cQ:=fun j=>cell_of_block (o:=j) K0
  have fQ:=fun j=>zh (o:=j) K0
  have cR:=fun j=>cell_of_block (o:=j) K1
  have fR:=fun j=>zh (o:=j) K1
  have hsz:=hb1.size;clear hown hgr K0 K1 hb1 k0 hB0 ho;go_wp2_with fail
  refine bodyPost_ret (v:=.agg #[.l a' r.vs.length cap',.s r.kd,.s r.tm,.s r.px]) (by simp[results,Tryz.results140,go_sem,cR]) rfl ⟨a',⟨cap',rfl⟩,?_,?_⟩
  ·refine yx.low (lo:=w.heap.size+1+1) ?_ (by omega)
   iterate 4 refine yx.setCell ?_ _ (by show w.heap.size+1<_;omega) _
   refine yx.setCell ?_ _ (by show w.heap.size<_;omega) _;exact HF.o.1
  ·have h0:w.heap.size<=w.heap.size:=Nat.le_refl _
   have h1:w.heap.size<=w.heap.size+1:=Nat.le_succ _
   iterate 4 refine Below.setCell ?_ h1 _
   refine Below.setCell ?_ h0 _;exact HF.o.2
set_option maxRecDepth 20000 in
theorem zkL (g:Gr)(a:OA)(cap:Nat)(w:World)(hw:qm w a g.r.vs)(hl:g.r.vs.length<=1048576) :
 Calls Tryz.prog 91 #[.agg #[.i g.no,.s g.to,.s g.gb,.l a g.r.vs.length cap,.s g.r.kd,.s g.r.tm,.s g.r.px]] w fun e w'=>∃a' cap',e=.returned (.agg #[.i g.no,.s g.to,.s g.gb,.l a' g.r.vs.length cap',.s g.r.kd,.s g.r.tm,.s g.r.px])/\yx w.heap.size w' a' g.r.vs/\Bw w w':=by
 have k0:=zQ w (.cells #[.i g.no,.s g.to,.s g.gb,.l a g.r.vs.length cap,.s g.r.kd,.s g.r.tm,.s g.r.px] 125) (.cells #[.i 0,.s ⟨#[]⟩,.s ⟨#[]⟩,.l none 0 0,.s ⟨#[]⟩,.s ⟨#[]⟩,.s ⟨#[]⟩] 125);have hB0:=zw w (.cells #[.i g.no,.s g.to,.s g.gb,.l a g.r.vs.length cap,.s g.r.kd,.s g.r.tm,.s g.r.px] 125) (.cells #[.i 0,.s ⟨#[]⟩,.s ⟨#[]⟩,.l none 0 0,.s ⟨#[]⟩,.s ⟨#[]⟩,.s ⟨#[]⟩] 125);obtain⟨W,hW⟩:=xN ((w.alloc (.cells #[.i g.no,.s g.to,.s g.gb,.l a g.r.vs.length cap,.s g.r.kd,.s g.r.tm,.s g.r.px] 125)).alloc (.cells #[.i 0,.s ⟨#[]⟩,.s ⟨#[]⟩,.l none 0 0,.s ⟨#[]⟩,.s ⟨#[]⟩,.s ⟨#[]⟩] 125));have hz:W.heap.size=w.heap.size+1+1:=by rw[hW];simp
 go_enter Tryz.func91,Tryz.ntmps91;go_wp2_with fail
 rw[<- hW]at k0 hB0 ⊢;clear hW;refine(zmw g.r a cap W (hw.mono hB0) hl).mono ?_;rintro e w1⟨a',cap',rfl,ho,hb1⟩;have K0:=(hb1.block _ (by omega)).trans k0.1;have K1:=(hb1.block _ (by omega)).trans k0.2;have HF:Hid (yx (w.heap.size+1+1) w1 a' g.r.vs/\Bw w w1):=⟨by rw[<- hz];exact ho,hB0.trans (hb1.mono (by omega))⟩
 have cQ:=fun j=>cell_of_block (o:=j) K0
 have fQ:=fun j=>zh (o:=j) K0
 have cR:=fun j=>cell_of_block (o:=j) K1
 have fR:=fun j=>zh (o:=j) K1
 have hsz:=hb1.size;clear K0 K1 hb1 k0 hB0 ho;go_wp2_with fail
 refine bodyPost_ret (v:=.agg #[.i g.no,.s g.to,.s g.gb,.l a' g.r.vs.length cap',.s g.r.kd,.s g.r.tm,.s g.r.px]) (by simp[results,Tryz.results91,go_sem,cR]) rfl ⟨a',cap',rfl,?_,?_⟩
 ·refine yx.low (lo:=w.heap.size+1+1) ?_ (by omega)
  iterate 7 refine yx.setCell ?_ _ (by show w.heap.size+1<_;omega) _
  iterate 4 refine yx.setCell ?_ _ (by show w.heap.size<_;omega) _
  exact HF.o.1
 ·have h0:w.heap.size<=w.heap.size:=Nat.le_refl _
  have h1:w.heap.size<=w.heap.size+1:=Nat.le_succ _
  iterate 7 refine Below.setCell ?_ h1 _
  iterate 4 refine Below.setCell ?_ h0 _
  exact HF.o.2
end Go.Proofs.YtcgpjfcocmcodaaGreat
