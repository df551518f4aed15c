import Derived.Test.YtjnpjkigofldlaaGreatM24
set_option maxRecDepth 20000
set_option maxHeartbeats 8000000
namespace Go.Proofs.YtjnpjkigofldlaaGreat
open Go.RowKit
variable {lo n:Nat}{w w':World}{a:OA}
structure GrE (lo:Nat)(w:World)(own:Nat->Lb)(c:Nat->Option Value)(i:Nat)(x:Gr)(a0:OA)(c0:Nat):Prop where
 cell:∀j,j<7->c j=(#[.i x.no,.s x.to,.s x.gb,.l a0 x.r.vs.length c0,.s x.r.kd,.s x.r.tm,.s x.r.px]:AV)[j]?
 l0:z8 lo w a0 x.r.vs
 o0:∀g,a0=some g->own g.block=(1,i,3)
structure zcl (lo:Nat)(w:World)(own:Nat->Lb)(a:OA)(n:Nat)(f:Nat->Gr):Prop where
 rows:0<n->∃b C,a=some (aD b 0)/\lo<=b/\own b=(1,0,0)/\w.heap[b]?=some (.cells C 126)/\n*7<=C.size/\∀i,i<n->∃a0 c0,GrE lo w own (fun j=>C[i*7+j]?) i (f i) a0 c0
theorem zcl.left {S:Nat->Prop}{own:Nat->Lb}{f:Nat->Gr}(h:zcl lo w own a n f)(hl:Left S w w')(hS:∀k,(own k).1=1->¬S k):zcl lo w' own a n f:=by
 refine⟨fun hn=>?_⟩;obtain⟨b,C,ha,hlo,hb,hC,hs,hr⟩:=h.rows hn;refine⟨b,C,ha,hlo,hb,(hl.out b (gES hC).1 (hS b (by rw[hb]))).trans hC,hs,fun i hi=>?_⟩;obtain⟨a0,c0,he⟩:=hr i hi;exact⟨a0,c0,he.cell,he.l0.left hl (fun g hg=>hS _ (by rw[he.o0 g hg])),he.o0⟩
theorem zcl.mono {own:Nat->Lb}{f:Nat->Gr}(h:zcl lo w own a n f)(hb:Bw w w'):zcl lo w' own a n f:=h.left (Left.of_below (fun _=>False) hb) (fun _ _ h=>h)
theorem zcl.own {own own':Nat->Lb}{f:Nat->Gr}(h:zcl lo w own a n f)(he:∀k,k<w.heap.size->(own k).1=1->own' k=own k):zcl lo w own' a n f:=by
 refine⟨fun hn=>?_⟩;obtain⟨b,C,ha,hlo,hb,hC,hs,hr⟩:=h.rows hn;refine⟨b,C,ha,hlo,(he b (gES hC).1 (by rw[hb])).trans hb,hC,hs,fun i hi=>?_⟩;obtain⟨a0,c0,hx⟩:=hr i hi;exact⟨a0,c0,hx.cell,hx.l0,fun g hg=>(he _ (hx.l0.lt g hg) (by rw[hx.o0 g hg])).trans (hx.o0 g hg)⟩
theorem zcl.low {lo':Nat}{own:Nat->Lb}{f:Nat->Gr}(h:zcl lo w own a n f)(hl:lo'<=lo):zcl lo' w own a n f:=by
 refine⟨fun hn=>?_⟩;obtain⟨b,C,ha,hlo,hb,hC,hs,hr⟩:=h.rows hn;refine⟨b,C,ha,Nat.le_trans hl hlo,hb,hC,hs,fun i hi=>?_⟩;obtain⟨a0,c0,hx⟩:=hr i hi;exact⟨a0,c0,hx.cell,hx.l0.low hl,hx.o0⟩
theorem zcl.same {own:Nat->Lb}{f f':Nat->Gr}(h:zcl lo w own a n f)(he:∀i,i<n->f' i=f i):zcl lo w own a n f':=by
 refine⟨fun hn=>?_⟩;obtain⟨b,C,ha,hlo,hb,hC,hs,hr⟩:=h.rows hn;refine⟨b,C,ha,hlo,hb,hC,hs,fun i hi=>?_⟩;rw[he i hi];exact hr i hi
def zcm (ms:List Gr)(i:Nat):Gr:=(ms[i]?).getD ⟨0,ByteArray.empty,ByteArray.empty,⟨[],ByteArray.empty,ByteArray.empty,ByteArray.empty⟩⟩
theorem znE {ms:List Gr}{i:Nat}(h:i<ms.length):zcm ms i=ms[i]:=by unfold zcm;rw[List.getElem?_eq_getElem h];rfl
theorem zcl.at {own:Nat->Lb}{ms:List Gr}(h:zcl lo w own a ms.length (zcm ms))(hs:zhK ms)(hl:ms.length<=maxLen):zcs w a ms:=by
 refine⟨hl,fun hne=>?_⟩;obtain⟨b,C,ha,hlo,hb,hC,hsz,hr⟩:=h.rows (List.length_pos_iff.2 hne);refine⟨b,0,ha,(gES hC).1,fun i hi=>?_⟩;obtain⟨a0,c0,hx⟩:=hr i hi;rw[znE hi]at hx;obtain⟨s0,s1⟩:=hs.small i hi;refine⟨a0,c0,s0,hx.l0.at s1,fun j hj=>?_⟩;rw[cell_of_block hC,Nat.zero_add];exact hx.cell j hj
def ziF (k:Int)(x:Gr):Gr:=⟨(k),(mkT (k+1)),(mkT (k+1+1)),⟨(zsW (k+1+1+1) x.r.vs.length),(mkT (k+1+1+1+x.r.vs.length)),(mkT (k+1+1+1+x.r.vs.length+1)),(mkT (k+1+1+1+x.r.vs.length+1+1))⟩⟩
def zsZ (k:Int)(x:Gr):Int:=k+1+1+1+x.r.vs.length+1+1+1
def kGr (k:Int)(ms:List Gr):Nat->Int
 | 0=>k
 | i+1=>zsZ (kGr k ms i) (zcm ms i)
def zk7 (k:Int)(ms:List Gr)(i:Nat):Gr:=ziF (kGr k ms i) (zcm ms i)
def zmD (k:Int)(ms:List Gr)(i j:Nat):Gr:=if j<i then zk7 k ms j else zcm ms j
theorem zqE (k:Int)(ms:List Gr)(i:Nat)(h:∀i,(zcm ms i).r.vs.length<=1048576):k+i<=kGr k ms i/\kGr k ms i<=k+i*1048583:=by
 induction i with
 | zero=>exact⟨by show k+0<=k;omega,by show k<=k+0*1048583;omega⟩
 | succ i ih=>
  have h1:kGr k ms (i+1)=zsZ (kGr k ms i) (zcm ms i):=rfl;have h2:=h i;unfold zsZ at h1;rw[h1];exact⟨by omega,by omega⟩
theorem zlK {ms:List Gr}(h:∀i (h:i<ms.length),ms[i].r.vs.length<=1048576)(i:Nat):(zcm ms i).r.vs.length<=1048576:=by
 by_cases hi:i<ms.length
 ·rw[znE hi];exact h i hi
 ·unfold zcm;rw[List.getElem?_eq_none (by omega)];exact Nat.zero_le _
theorem zgQ (lo:Nat)(own:Nat->Lb)(a:OA)(cap:Nat)(ms:List Gr)(k:Int)(w:World)(h:zcl lo w own a ms.length (zcm ms))(hl:ms.length<=1048576)(hls:∀i,(zcm ms i).r.vs.length<=1048576)(hk:0<k)(hk2:k<5000000000000000000) :
 Calls Tryz.prog 48 #[.l a ms.length cap,.i k] w fun e w'=>e=.returned (.i (kGr k ms ms.length))/\zcl lo w' own a ms.length (zk7 k ms)/\Left (fun q=>(own q).1=1) w w':=by
 have HF:=hid h;have HL:=yB hl hls;have HK:=yB hk hk2;clear h hl hk hk2 hls;go_in;go_wp2
 go_loopw [1,5] (fun kv iv wr=>∃i:Nat,i<=ms.length/\kv=.i (kGr k ms i)/\iv=.i i/\Hid (zcl lo wr own a ms.length (zmD k ms i)/\Left (fun q=>(own q).1=1) w wr)) (fun _ iv _=>ms.length-(intOf iv).toNat)
 case atStart=>exact⟨0,Nat.zero_le _,rfl,rfl,HF.o.same (fun i _=>if_neg (Nat.not_lt_zero i)),Left.refl _ _⟩
 case round=>
  obtain⟨i,hile,rfl,rfl,HQ⟩:=hrel
  by_cases hlt:i<ms.length
  ·have hltI:(i:Int)<(ms.length:Int):=by omega
   have HKI:Hid (kGr k ms (i+1)=zsZ (kGr k ms i) (zcm ms i)):=rfl;have hkb:=zqE k ms i HL.o.2;have HMX:Hid (zk7 k ms i=ziF (kGr k ms i) (zcm ms i)):=rfl
   generalize kGr k ms i=kk at hkb HKI HMX ⊢
   have HB:Hid (0<kk/\kk<7000000000000000000):=by have a:=HK.o;have b:=HL.o.1;exact⟨by omega,by omega⟩
   clear hkb;obtain⟨bo,C,rfl,hlo,hbo,hC,hsz,hr⟩:=HQ.o.1.rows (by omega);obtain⟨a0,c0,hx⟩:=hr i hlt;rw[show zmD k ms i i=zcm ms i from if_neg (Nat.lt_irrefl i)]at hx;have HFX:=hid (HL.o.2 i)
   generalize zcm ms i=x at hx HKI HMX HFX
   have HS:=hid (show i*7+7<=C.size by omega);have HRR:=j3 hlo hbo hC hsz;have M0:Hid (Mid own lo bo 126 C 7 i 1 wr wr #[.i x.no,.s x.to,.s x.gb,.l a0 x.r.vs.length c0,.s x.r.kd,.s x.r.tm,.s x.r.px] none none a0 [] [] x.r.vs):=⟨jh.new hC hx.cell,rfl,Left.refl _ _,hbo,Or.inl ⟨rfl,rfl⟩,(fun _ h=>by cases h),Or.inl ⟨rfl,rfl⟩,(fun _ h=>by cases h),hx.l0,hx.o0⟩
   clear hr hx hlo hbo hC hsz;obtain⟨y1,hv1⟩:=M0.out.ex 0 (by omega);have hf1:=fun o=>M0.out.row.fz o
   have hg1:=M0.out.row.lt;rw[Nat.add_zero]at hv1;have M1:=hid (M0.out.set 0 (.i (kk)) (by omega) HS.o);rw[Nat.add_zero]at M1;clear M0;have hw_1:wrap64 (kk+1)=kk+1:=zx _ ⟨by have a:=HB.o;have b:=HFX.o;omega,by have a:=HB.o;have b:=HFX.o;omega⟩;go_wp2_with fail
   clear hv1 hf1 hg1;refine(yG _ _ (by have a:=HB.o;have b:=HFX.o;omega) (by have a:=HB.o;have b:=HFX.o;omega)).mono ?_;rintro e wm1⟨rfl,hb⟩;have M2:=hid (M1.out.below hb);clear hb M1;obtain⟨y2,hv2⟩:=M2.out.ex 1 (by omega);have hf2:=fun o=>M2.out.row.fz o
   have hg2:=M2.out.row.lt;have M3:=hid (M2.out.set 1 (.s (mkT (kk+1))) (by omega) HS.o);clear M2;have hw_3:wrap64 (kk+1+1)=kk+1+1:=zx _ ⟨by have a:=HB.o;have b:=HFX.o;omega,by have a:=HB.o;have b:=HFX.o;omega⟩;go_wp2_with fail
   clear hv2 hf2 hg2;refine(yG _ _ (by have a:=HB.o;have b:=HFX.o;omega) (by have a:=HB.o;have b:=HFX.o;omega)).mono ?_;rintro e wm2⟨rfl,hb⟩;have M4:=hid (M3.out.below hb);clear hb M3;obtain⟨y3,hv3⟩:=M4.out.ex 2 (by omega);have hf3:=fun o=>M4.out.row.fz o
   have hg3:=M4.out.row.lt;have M5:=hid (M4.out.set 2 (.s (mkT (kk+1+1))) (by omega) HS.o);clear M4;have hw_5:wrap64 (kk+1+1+1)=kk+1+1+1:=zx _ ⟨by have a:=HB.o;have b:=HFX.o;omega,by have a:=HB.o;have b:=HFX.o;omega⟩;have hg4:=M5.out.row.lt;have hv4:_=some (Value.slice a0 x.r.vs.length c0):=M5.out.row.cell 3 (by omega);go_wp2_with fail
   clear hv3 hf3 hg3 hv4 hg4;refine(zsF lo c0 a0 x.r.vs _ _ M5.out.t2 (by have a:=HB.o;have b:=HFX.o;omega) (by have a:=HB.o;have b:=HFX.o;omega)).mono ?_;rintro e wm3⟨_,rfl,rfl,ho,hf⟩;have M6:=hid (M5.out.l2 ho hf);clear ho hf M5;go_wp2_with fail
   refine(yG _ _ (by have a:=HB.o;have b:=HFX.o;omega) (by have a:=HB.o;have b:=HFX.o;omega)).mono ?_;rintro e wm4⟨rfl,hb⟩;have M7:=hid (M6.out.below hb);clear hb M6;obtain⟨y5,hv5⟩:=M7.out.ex 4 (by omega);have hf5:=fun o=>M7.out.row.fz o
   have hg5:=M7.out.row.lt;have M8:=hid (M7.out.set 4 (.s (mkT (kk+1+1+1+x.r.vs.length))) (by omega) HS.o);clear M7;have hw_8:wrap64 (kk+1+1+1+x.r.vs.length+1)=kk+1+1+1+x.r.vs.length+1:=zx _ ⟨by have a:=HB.o;have b:=HFX.o;omega,by have a:=HB.o;have b:=HFX.o;omega⟩;go_wp2_with fail
   clear hv5 hf5 hg5;refine(yG _ _ (by have a:=HB.o;have b:=HFX.o;omega) (by have a:=HB.o;have b:=HFX.o;omega)).mono ?_;rintro e wm5⟨rfl,hb⟩;have M9:=hid (M8.out.below hb);clear hb M8;obtain⟨y6,hv6⟩:=M9.out.ex 5 (by omega);have hf6:=fun o=>M9.out.row.fz o
   have hg6:=M9.out.row.lt;have M10:=hid (M9.out.set 5 (.s (mkT (kk+1+1+1+x.r.vs.length+1))) (by omega) HS.o);clear M9;have hw_10:wrap64 (kk+1+1+1+x.r.vs.length+1+1)=kk+1+1+1+x.r.vs.length+1+1:=zx _ ⟨by have a:=HB.o;have b:=HFX.o;omega,by have a:=HB.o;have b:=HFX.o;omega⟩;go_wp2_with fail
   clear hv6 hf6 hg6;refine(yG _ _ (by have a:=HB.o;have b:=HFX.o;omega) (by have a:=HB.o;have b:=HFX.o;omega)).mono ?_;rintro e wm6⟨rfl,hb⟩;have M11:=hid (M10.out.below hb);clear hb M10;obtain⟨y7,hv7⟩:=M11.out.ex 6 (by omega);have hf7:=fun o=>M11.out.row.fz o
   have hg7:=M11.out.row.lt;have M12:=hid (M11.out.set 6 (.s (mkT (kk+1+1+1+x.r.vs.length+1+1))) (by omega) HS.o);clear M11;have hw_12:wrap64 (kk+1+1+1+x.r.vs.length+1+1+1)=kk+1+1+1+x.r.vs.length+1+1+1:=zx _ ⟨by have a:=HB.o;have b:=HFX.o;omega,by have a:=HB.o;have b:=HFX.o;omega⟩;go_wp2
   go_roundw
   case rel=>
    have hkn:kk+1+1+1+x.r.vs.length+1+1+1=kGr k ms (i+1):=HKI.o.symm;refine⟨i+1,by omega,by first|rw[hw_12,hkn]|rw[hkn],by rw[wrap_one (by have:=HL.o.1;omega)],⟨fun _=>?_⟩,HQ.o.2.trans (M12.out.left.wide ?_)⟩
    ·obtain⟨C',hC',hs',ho',hd'⟩:=M12.out.row.ex
     refine⟨bo,C',rfl,HRR.o.1,HRR.o.2.1,hC',by rw[hs'];exact HRR.o.2.2.2,fun z hz=>?_⟩
     by_cases ez:z=i
     ·subst ez
      rw[show zmD k ms (z+1) z=zk7 k ms z from if_pos (Nat.lt_succ_self z),HMX.o];refine⟨a0,c0,fun j hj=>(hd' j hj).trans ?_,M12.out.t2,M12.out.o2⟩;unfold ziF;simp only[zdC];rfl
     ·rw[show zmD k ms (i+1) z=zmD k ms i z by unfold zmD;by_cases hz1:z<i <;> simp[hz1] <;> omega]
      obtain⟨b2,C2,h2a,_,_,h2C,_,h2r⟩:=HQ.o.1.rows (by omega)
      cases h2a
      obtain rfl:C2=C:=by have h3:=HRR.o.2.2.1;rw[h2C]at h3;cases h3;rfl
      obtain⟨d0,e0,hy⟩:=h2r z hz;exact⟨d0,e0,fun j hj=>(ho' _ (by omega)).trans (hy.cell j hj),hy.l0.left M12.out.left (fun g hg hh=>by simp only[hy.o0 g hg,Prod.mk.injEq]at hh;omega),hy.o0⟩
    ·rintro z (hz|hz|hz|hz) <;> rw[hz]
   case measure=>exact yO hlt (by have:=HL.o.1;omega)
  ·have e:i=ms.length:=by omega
   subst e;go_wp2
   go_ret;exact⟨rfl,HQ.o.1.same (fun j hj=>(if_pos hj).symm),HQ.o.2⟩
theorem zgy (lo:Nat)(own:Nat->Lb)(a:OA)(cap:Nat)(ms:List Gr)(k:Int)(w:World)(h:zcl lo w own a ms.length (zk7 k ms))(hl:ms.length<=1048576)(hls:∀i,(zcm ms i).r.vs.length<=1048576)(hk:0<k)(hk2:k<5000000000000000000) :
 Calls Tryz.prog 52 #[.l a ms.length cap,.i k] w fun e w'=>e=.returned (.i (kGr k ms ms.length))/\Bw w w':=by
 have HF:=hid h;have HL:=yB hl hls;have HK:=yB hk hk2;clear h hl hk hk2 hls;go_in;go_wp2
 go_loopw [1,5] (fun kv iv wr=>∃i:Nat,i<=ms.length/\kv=.i (kGr k ms i)/\iv=.i i/\Bw w wr) (fun _ iv _=>ms.length-(intOf iv).toNat)
 case atStart=>exact⟨0,Nat.zero_le _,rfl,rfl,bRf _ _⟩
 case round=>
  obtain⟨i,hile,rfl,rfl,hB⟩:=hrel
  by_cases hlt:i<ms.length
  ·have hltI:(i:Int)<(ms.length:Int):=by omega
   have HKI:Hid (kGr k ms (i+1)=zsZ (kGr k ms i) (zcm ms i)):=rfl;have hkb:=zqE k ms i HL.o.2;have HMX:Hid (zk7 k ms i=ziF (kGr k ms i) (zcm ms i)):=rfl
   generalize kGr k ms i=kk at hkb HKI HMX ⊢
   have HB:Hid (0<kk/\kk<7000000000000000000):=by have a:=HK.o;have b:=HL.o.1;exact⟨by omega,by omega⟩
   clear hkb;obtain⟨bo,C,rfl,hlo,hbo,hC,hsz,hr⟩:=HF.o.rows (by omega);obtain⟨a0,c0,hx⟩:=hr i hlt;rw[HMX.o]at hx;have HFX:=hid (HL.o.2 i)
   generalize zcm ms i=x at hx HKI HMX HFX
   have HR0:Hid (jh w bo 126 C 7 i #[.i (ziF kk x).no,.s (ziF kk x).to,.s (ziF kk x).gb,.l a0 (ziF kk x).r.vs.length c0,.s (ziF kk x).r.kd,.s (ziF kk x).r.tm,.s (ziF kk x).r.px]):=jh.new hC hx.cell;have HT0:Hid (yZ w a0 (ziF kk x).r.vs):=hx.l0.at (by show(zsW _ _).length<=_;rw[zdC];have b:=HFX.o;unfold maxLen;omega);have HR1:Hid (jh wr bo 126 C 7 i #[.i (kk),.s (mkT (kk+1)),.s (mkT (kk+1+1)),.l a0 x.r.vs.length c0,.s (mkT (kk+1+1+1+x.r.vs.length)),.s (mkT (kk+1+1+1+x.r.vs.length+1)),.s (mkT (kk+1+1+1+x.r.vs.length+1+1))]):=by have hh:=(HR0.o).left (Left.of_below (fun _=>False) (hB.mono (Nat.le_refl _))) (fun h=>h);unfold ziF at hh;simp only[zdC]at hh;exact hh
   have HB0:=hid hB;clear hr hx hlo hbo hC hsz hB HR0;have hv_0:=(HR1.o).cell 0 (by omega);rw[Nat.add_zero]at hv_0;have hlt_0:=(HR1.o).lt;have hne_0:((kk) != (kk))=false:=by simp
   have hw_8:wrap64 (kk+1)=kk+1:=zx _ ⟨by have a:=HB.o;have b:=HFX.o;omega,by have a:=HB.o;have b:=HFX.o;omega⟩;have hv1:wr.drew.cell? (aD bo (i*7+1))=some (.s (mkT (kk+1))):=by have hh:=(HR1.o).cell 1 (by omega);exact hh
   have hlt1:bo<wr.drew.heap.size:=(HR1.o).lt;have hBd:Below wr.drew.heap.size wr wr.drew:=(bRf _ _).drew;go_wp2_with fail
   clear hv_0 hlt_0 hne_0
   go_region_held3 (fun w'=>w'.cell? (aD bo (i*7+1))=some (.s (mkT (kk+1)))) (exact hv1) (first|(go_at_call 104;refine(yG _ _ (by have a:=HB.o;have b:=HFX.o;omega) (by have a:=HB.o;have b:=HFX.o;omega)).mono ?_;rintro e wm1⟨rfl,hb⟩;have hv1:=(hb.cell (p:=(aD bo (i*7+1))) hlt1).trans hv1;have hBd:=hBd.trans (hb.mono hBd.size);clear hb))
   all_goals have HR2:=hid ((HR1.o).below hBd)
   all_goals have HB1:=hid (HB0.o.trans (hBd.mono HB0.o.size))
   all_goals clear hBd hlt1 HR1 HB0
   have hw_18:wrap64 (kk+1+1)=kk+1+1:=zx _ ⟨by have a:=HB.o;have b:=HFX.o;omega,by have a:=HB.o;have b:=HFX.o;omega⟩;have hv2:wm1.drew.cell? (aD bo (i*7+2))=some (.s (mkT (kk+1+1))):=by have hh:=(HR2.o).cell 2 (by omega);exact hh
   have hlt2:bo<wm1.drew.heap.size:=(HR2.o).lt;have hBd:Below wm1.drew.heap.size wm1 wm1.drew:=(bRf _ _).drew;go_wp2_with fail
   clear hv1
   go_region_held3 (fun w'=>w'.cell? (aD bo (i*7+2))=some (.s (mkT (kk+1+1)))) (exact hv2) (first|(go_at_call 104;refine(yG _ _ (by have a:=HB.o;have b:=HFX.o;omega) (by have a:=HB.o;have b:=HFX.o;omega)).mono ?_;rintro e wm2⟨rfl,hb⟩;have hv2:=(hb.cell (p:=(aD bo (i*7+2))) hlt2).trans hv2;have hBd:=hBd.trans (hb.mono hBd.size);clear hb))
   all_goals have HR3:=hid ((HR2.o).below hBd)
   all_goals have HB2:=hid (HB1.o.trans (hBd.mono HB1.o.size))
   all_goals clear hBd hlt2 HR2 HB1
   have hw_28:wrap64 (kk+1+1+1)=kk+1+1+1:=zx _ ⟨by have a:=HB.o;have b:=HFX.o;omega,by have a:=HB.o;have b:=HFX.o;omega⟩;have hsl0:=(HR3.o).cell 3 (by omega);have hltl0:=(HR3.o).lt;go_wp2_with fail
   clear hv2 hsl0 hltl0;refine(zrY a0 c0 x.r.vs.length _ _ (HT0.o.mono HB2.o) (by have b:=HFX.o;omega) (by have a:=HB.o;have b:=HFX.o;omega) (by have a:=HB.o;have b:=HFX.o;omega)).mono ?_;rintro e wm3⟨kq0,rfl,hke,hb⟩;obtain rfl:=hke;have HR4:=hid ((HR3.o).below hb);have HB3:=hid (HB2.o.trans (hb.mono HB2.o.size));clear hb HR3 HB2;have hng0:decide (kk+1+1+1+x.r.vs.length<0)=false:=by simp only[decide_eq_false_iff_not];have a:=HB.o;have b:=HFX.o;omega
   have hv4:wm3.drew.cell? (aD bo (i*7+4))=some (.s (mkT (kk+1+1+1+x.r.vs.length))):=by have hh:=(HR4.o).cell 4 (by omega);exact hh
   have hlt4:bo<wm3.drew.heap.size:=(HR4.o).lt;have hBd:Below wm3.drew.heap.size wm3 wm3.drew:=(bRf _ _).drew;go_wp2_with fail
   clear hng0
   go_region_held3 (fun w'=>w'.cell? (aD bo (i*7+4))=some (.s (mkT (kk+1+1+1+x.r.vs.length)))) (exact hv4) (first|(go_at_call 104;refine(yG _ _ (by have a:=HB.o;have b:=HFX.o;omega) (by have a:=HB.o;have b:=HFX.o;omega)).mono ?_;rintro e wm4⟨rfl,hb⟩;have hv4:=(hb.cell (p:=(aD bo (i*7+4))) hlt4).trans hv4;have hBd:=hBd.trans (hb.mono hBd.size);clear hb))
   all_goals have HR5:=hid ((HR4.o).below hBd)
   all_goals have HB4:=hid (HB3.o.trans (hBd.mono HB3.o.size))
   all_goals clear hBd hlt4 HR4 HB3
   have hw_49:wrap64 (kk+1+1+1+x.r.vs.length+1)=kk+1+1+1+x.r.vs.length+1:=zx _ ⟨by have a:=HB.o;have b:=HFX.o;omega,by have a:=HB.o;have b:=HFX.o;omega⟩;have hv5:wm4.drew.cell? (aD bo (i*7+5))=some (.s (mkT (kk+1+1+1+x.r.vs.length+1))):=by have hh:=(HR5.o).cell 5 (by omega);exact hh
   have hlt5:bo<wm4.drew.heap.size:=(HR5.o).lt;have hBd:Below wm4.drew.heap.size wm4 wm4.drew:=(bRf _ _).drew;go_wp2_with fail
   clear hv4
   go_region_held3 (fun w'=>w'.cell? (aD bo (i*7+5))=some (.s (mkT (kk+1+1+1+x.r.vs.length+1)))) (exact hv5) (first|(go_at_call 104;refine(yG _ _ (by have a:=HB.o;have b:=HFX.o;omega) (by have a:=HB.o;have b:=HFX.o;omega)).mono ?_;rintro e wm5⟨rfl,hb⟩;have hv5:=(hb.cell (p:=(aD bo (i*7+5))) hlt5).trans hv5;have hBd:=hBd.trans (hb.mono hBd.size);clear hb))
   all_goals have HR6:=hid ((HR5.o).below hBd)
   all_goals have HB5:=hid (HB4.o.trans (hBd.mono HB4.o.size))
   all_goals clear hBd hlt5 HR5 HB4
   have hw_59:wrap64 (kk+1+1+1+x.r.vs.length+1+1)=kk+1+1+1+x.r.vs.length+1+1:=zx _ ⟨by have a:=HB.o;have b:=HFX.o;omega,by have a:=HB.o;have b:=HFX.o;omega⟩;have hv6:wm5.drew.cell? (aD bo (i*7+6))=some (.s (mkT (kk+1+1+1+x.r.vs.length+1+1))):=by have hh:=(HR6.o).cell 6 (by omega);exact hh
   have hlt6:bo<wm5.drew.heap.size:=(HR6.o).lt;have hBd:Below wm5.drew.heap.size wm5 wm5.drew:=(bRf _ _).drew;go_wp2_with fail
   clear hv5
   go_region_held3 (fun w'=>w'.cell? (aD bo (i*7+6))=some (.s (mkT (kk+1+1+1+x.r.vs.length+1+1)))) (exact hv6) (first|(go_at_call 104;refine(yG _ _ (by have a:=HB.o;have b:=HFX.o;omega) (by have a:=HB.o;have b:=HFX.o;omega)).mono ?_;rintro e wm6⟨rfl,hb⟩;have hv6:=(hb.cell (p:=(aD bo (i*7+6))) hlt6).trans hv6;have hBd:=hBd.trans (hb.mono hBd.size);clear hb))
   all_goals have HR7:=hid ((HR6.o).below hBd)
   all_goals have HB6:=hid (HB5.o.trans (hBd.mono HB5.o.size))
   all_goals clear hBd hlt6 HR6 HB5
   have hw_69:wrap64 (kk+1+1+1+x.r.vs.length+1+1+1)=kk+1+1+1+x.r.vs.length+1+1+1:=zx _ ⟨by have a:=HB.o;have b:=HFX.o;omega,by have a:=HB.o;have b:=HFX.o;omega⟩;go_wp2_with fail
   have hkn:kk+1+1+1+x.r.vs.length+1+1+1=kGr k ms (i+1):=by rw[HKI.o];rfl
   exact⟨⟨i+1,by omega,by first|rw[hw_69,hkn]|rw[hkn],by rw[wrap_one (by have:=HL.o.1;omega)],HB6.o⟩,yO hlt (by have:=HL.o.1;omega)⟩
  ·have e:i=ms.length:=by omega
   subst e;go_wp2
   go_ret;exact⟨rfl,hB⟩
structure LgE (c:Nat->Option Value)(x:Lg):Prop where
 cell:∀j,j<4->c j=(#[.s x.tm,.s x.rs,.i x.mo,.i x.fr]:AV)[j]?
structure zaR (lo:Nat)(w:World)(own:Nat->Lb)(a:OA)(n:Nat)(f:Nat->Lg):Prop where
 rows:0<n->∃b C,a=some (aD b 0)/\lo<=b/\own b=(2,0,0)/\w.heap[b]?=some (.cells C 138)/\n*4<=C.size/\∀i,i<n->LgE (fun j=>C[i*4+j]?) (f i)
theorem zaR.left {S:Nat->Prop}{own:Nat->Lb}{f:Nat->Lg}(h:zaR lo w own a n f)(hl:Left S w w')(hS:∀k,(own k).1=2->¬S k):zaR lo w' own a n f:=by
 refine⟨fun hn=>?_⟩;obtain⟨b,C,ha,hlo,hb,hC,hs,hr⟩:=h.rows hn;refine⟨b,C,ha,hlo,hb,(hl.out b (gES hC).1 (hS b (by rw[hb]))).trans hC,hs,hr⟩
theorem zaR.mono {own:Nat->Lb}{f:Nat->Lg}(h:zaR lo w own a n f)(hb:Bw w w'):zaR lo w' own a n f:=h.left (Left.of_below (fun _=>False) hb) (fun _ _ h=>h)
theorem zaR.own {own own':Nat->Lb}{f:Nat->Lg}(h:zaR lo w own a n f)(he:∀k,k<w.heap.size->(own k).1=2->own' k=own k):zaR lo w own' a n f:=by
 refine⟨fun hn=>?_⟩;obtain⟨b,C,ha,hlo,hb,hC,hs,hr⟩:=h.rows hn;refine⟨b,C,ha,hlo,(he b (gES hC).1 (by rw[hb])).trans hb,hC,hs,hr⟩
theorem zaR.low {lo':Nat}{own:Nat->Lb}{f:Nat->Lg}(h:zaR lo w own a n f)(hl:lo'<=lo):zaR lo' w own a n f:=by
 refine⟨fun hn=>?_⟩;obtain⟨b,C,ha,hlo,hb,hC,hs,hr⟩:=h.rows hn;refine⟨b,C,ha,Nat.le_trans hl hlo,hb,hC,hs,hr⟩
theorem zaR.same {own:Nat->Lb}{f f':Nat->Lg}(h:zaR lo w own a n f)(he:∀i,i<n->f' i=f i):zaR lo w own a n f':=by
 refine⟨fun hn=>?_⟩;obtain⟨b,C,ha,hlo,hb,hC,hs,hr⟩:=h.rows hn;refine⟨b,C,ha,hlo,hb,hC,hs,fun i hi=>?_⟩;rw[he i hi];exact hr i hi
def zdl (ms:List Lg)(i:Nat):Lg:=(ms[i]?).getD ⟨ByteArray.empty,ByteArray.empty,0,0⟩
theorem zdu {ms:List Lg}{i:Nat}(h:i<ms.length):zdl ms i=ms[i]:=by unfold zdl;rw[List.getElem?_eq_getElem h];rfl
theorem zaR.at {own:Nat->Lb}{ms:List Lg}(h:zaR lo w own a ms.length (zdl ms))(hs:∀i (h:i<ms.length),ms[i].Small)(hl:ms.length<=maxLen):zbU w a ms:=by
 refine⟨hl,hs,fun hne=>?_⟩;obtain⟨b,C,ha,hlo,hb,hC,hsz,hr⟩:=h.rows (List.length_pos_iff.2 hne);refine⟨b,0,ha,(gES hC).1,fun i hi j hj=>?_⟩;have hx:=hr i hi;rw[zdu hi]at hx;rw[cell_of_block hC,Nat.zero_add];exact hx.cell j hj
def zoK (k:Int)(_x:Lg):Lg:=⟨(mkT (k)),(mkT (k+1)),(k+1+1),(k+1+1+1)⟩
def ztm (k:Int)(_x:Lg):Int:=k+1+1+1+1
def kLg (k:Int)(ms:List Lg):Nat->Int
 | 0=>k
 | i+1=>ztm (kLg k ms i) (zdl ms i)
def zkP (k:Int)(ms:List Lg)(i:Nat):Lg:=zoK (kLg k ms i) (zdl ms i)
def zni (k:Int)(ms:List Lg)(i j:Nat):Lg:=if j<i then zkP k ms j else zdl ms j
theorem zrh (k:Int)(ms:List Lg)(i:Nat):k+i<=kLg k ms i/\kLg k ms i<=k+i*4:=by
 induction i with
 | zero=>exact⟨by show k+0<=k;omega,by show k<=k+0*4;omega⟩
 | succ i ih=>
  have h1:kLg k ms (i+1)=ztm (kLg k ms i) (zdl ms i):=rfl;unfold ztm at h1;rw[h1];exact⟨by omega,by omega⟩
theorem zf5 (lo:Nat)(own:Nat->Lb)(a:OA)(cap:Nat)(ms:List Lg)(k:Int)(w:World)(h:zaR lo w own a ms.length (zdl ms))(hl:ms.length<=1048576)(hk:0<k)(hk2:k<5000000000000000000) :
 Calls Tryz.prog 49 #[.l a ms.length cap,.i k] w fun e w'=>e=.returned (.i (kLg k ms ms.length))/\zaR lo w' own a ms.length (zkP k ms)/\Left (fun q=>(own q).1=2) w w':=by
 have HF:=hid h;have HL:=hid hl;have HK:=yB hk hk2;clear h hl hk hk2;go_in;go_wp2
 go_loopw [1,5] (fun kv iv wr=>∃i:Nat,i<=ms.length/\kv=.i (kLg k ms i)/\iv=.i i/\Hid (zaR lo wr own a ms.length (zni k ms i)/\Left (fun q=>(own q).1=2) w wr)) (fun _ iv _=>ms.length-(intOf iv).toNat)
 case atStart=>exact⟨0,Nat.zero_le _,rfl,rfl,HF.o.same (fun i _=>if_neg (Nat.not_lt_zero i)),Left.refl _ _⟩
 case round=>
  obtain⟨i,hile,rfl,rfl,HQ⟩:=hrel
  by_cases hlt:i<ms.length
  ·have hltI:(i:Int)<(ms.length:Int):=by omega
   have HKI:Hid (kLg k ms (i+1)=ztm (kLg k ms i) (zdl ms i)):=rfl;have hkb:=zrh k ms i;have HMX:Hid (zkP k ms i=zoK (kLg k ms i) (zdl ms i)):=rfl
   generalize kLg k ms i=kk at hkb HKI HMX ⊢
   have HB:Hid (0<kk/\kk<7000000000000000000):=by have a:=HK.o;have b:=HL.o;exact⟨by omega,by omega⟩
   clear hkb;obtain⟨bo,C,rfl,hlo,hbo,hC,hsz,hr⟩:=HQ.o.1.rows (by omega);have hx:=hr i hlt;rw[show zni k ms i i=zdl ms i from if_neg (Nat.lt_irrefl i)]at hx
   generalize zdl ms i=x at hx HKI HMX
   have HS:=hid (show i*4+4<=C.size by omega);have HRR:=j3 hlo hbo hC hsz;have M0:Hid (Mid own lo bo 138 C 4 i 2 wr wr #[.s x.tm,.s x.rs,.i x.mo,.i x.fr] none none none [] [] []):=⟨jh.new hC hx.cell,rfl,Left.refl _ _,hbo,Or.inl ⟨rfl,rfl⟩,(fun _ h=>by cases h),Or.inl ⟨rfl,rfl⟩,(fun _ h=>by cases h),Or.inl ⟨rfl,rfl⟩,(fun _ h=>by cases h)⟩
   clear hr hx hlo hbo hC hsz;go_wp2_with fail
   refine(yG _ _ (by have a:=HB.o;omega) (by have a:=HB.o;omega)).mono ?_;rintro e wm1⟨rfl,hb⟩;have M1:=hid (M0.out.below hb);clear hb M0;obtain⟨y1,hv1⟩:=M1.out.ex 0 (by omega);have hf1:=fun o=>M1.out.row.fz o
   have hg1:=M1.out.row.lt;rw[Nat.add_zero]at hv1;have M2:=hid (M1.out.set 0 (.s (mkT (kk))) (by omega) HS.o);rw[Nat.add_zero]at M2;clear M1;have hw_2:wrap64 (kk+1)=kk+1:=zx _ ⟨by have a:=HB.o;omega,by have a:=HB.o;omega⟩;go_wp2_with fail
   clear hv1 hf1 hg1;refine(yG _ _ (by have a:=HB.o;omega) (by have a:=HB.o;omega)).mono ?_;rintro e wm2⟨rfl,hb⟩;have M3:=hid (M2.out.below hb);clear hb M2;obtain⟨y2,hv2⟩:=M3.out.ex 1 (by omega);have hf2:=fun o=>M3.out.row.fz o
   have hg2:=M3.out.row.lt;have M4:=hid (M3.out.set 1 (.s (mkT (kk+1))) (by omega) HS.o);clear M3;have hw_4:wrap64 (kk+1+1)=kk+1+1:=zx _ ⟨by have a:=HB.o;omega,by have a:=HB.o;omega⟩;obtain⟨y3,hv3⟩:=M4.out.ex 2 (by omega);have hf3:=fun o=>M4.out.row.fz o
   have hg3:=M4.out.row.lt;have M5:=hid (M4.out.set 2 (.i (kk+1+1)) (by omega) HS.o);clear M4;have hw_5:wrap64 (kk+1+1+1)=kk+1+1+1:=zx _ ⟨by have a:=HB.o;omega,by have a:=HB.o;omega⟩;obtain⟨y4,hv4⟩:=M5.out.ex 3 (by omega);have hf4:=fun o=>M5.out.row.fz o
   have hg4:=M5.out.row.lt;have M6:=hid (M5.out.set 3 (.i (kk+1+1+1)) (by omega) HS.o);clear M5;have hw_6:wrap64 (kk+1+1+1+1)=kk+1+1+1+1:=zx _ ⟨by have a:=HB.o;omega,by have a:=HB.o;omega⟩;go_wp2
   go_roundw
   case rel=>
    have hkn:kk+1+1+1+1=kLg k ms (i+1):=HKI.o.symm;refine⟨i+1,by omega,by first|rw[hw_6,hkn]|rw[hkn],by rw[wrap_one (by have:=HL.o;omega)],⟨fun _=>?_⟩,HQ.o.2.trans (M6.out.left.wide ?_)⟩
    ·obtain⟨C',hC',hs',ho',hd'⟩:=M6.out.row.ex
     refine⟨bo,C',rfl,HRR.o.1,HRR.o.2.1,hC',by rw[hs'];exact HRR.o.2.2.2,fun z hz=>?_⟩
     by_cases ez:z=i
     ·subst ez
      rw[show zni k ms (z+1) z=zkP k ms z from if_pos (Nat.lt_succ_self z),HMX.o];exact⟨fun j hj=>hd' j hj⟩
     ·rw[show zni k ms (i+1) z=zni k ms i z by unfold zni;by_cases hz1:z<i <;> simp[hz1] <;> omega]
      obtain⟨b2,C2,h2a,_,_,h2C,_,h2r⟩:=HQ.o.1.rows (by omega)
      cases h2a
      obtain rfl:C2=C:=by have h3:=HRR.o.2.2.1;rw[h2C]at h3;cases h3;rfl
      exact⟨fun j hj=>(ho' _ (by omega)).trans ((h2r z hz).cell j hj)⟩
    ·rintro z (hz|hz|hz|hz) <;> rw[hz]
   case measure=>exact yO hlt (by have:=HL.o;omega)
  ·have e:i=ms.length:=by omega
   subst e;go_wp2
   go_ret;exact⟨rfl,HQ.o.1.same (fun j hj=>(if_pos hj).symm),HQ.o.2⟩
theorem zf2 (lo:Nat)(own:Nat->Lb)(a:OA)(cap:Nat)(ms:List Lg)(k:Int)(w:World)(h:zaR lo w own a ms.length (zkP k ms))(hl:ms.length<=1048576)(hk:0<k)(hk2:k<5000000000000000000) :
 Calls Tryz.prog 53 #[.l a ms.length cap,.i k] w fun e w'=>e=.returned (.i (kLg k ms ms.length))/\Bw w w':=by
 have HF:=hid h;have HL:=hid hl;have HK:=yB hk hk2;clear h hl hk hk2;go_in;go_wp2
 go_loopw [1,5] (fun kv iv wr=>∃i:Nat,i<=ms.length/\kv=.i (kLg k ms i)/\iv=.i i/\Bw w wr) (fun _ iv _=>ms.length-(intOf iv).toNat)
 case atStart=>exact⟨0,Nat.zero_le _,rfl,rfl,bRf _ _⟩
 case round=>
  obtain⟨i,hile,rfl,rfl,hB⟩:=hrel
  by_cases hlt:i<ms.length
  ·have hltI:(i:Int)<(ms.length:Int):=by omega
   have HKI:Hid (kLg k ms (i+1)=ztm (kLg k ms i) (zdl ms i)):=rfl;have hkb:=zrh k ms i;have HMX:Hid (zkP k ms i=zoK (kLg k ms i) (zdl ms i)):=rfl
   generalize kLg k ms i=kk at hkb HKI HMX ⊢
   have HB:Hid (0<kk/\kk<7000000000000000000):=by have a:=HK.o;have b:=HL.o;exact⟨by omega,by omega⟩
   clear hkb;obtain⟨bo,C,rfl,hlo,hbo,hC,hsz,hr⟩:=HF.o.rows (by omega);have hx:=hr i hlt;rw[HMX.o]at hx
   generalize zdl ms i=x at hx HKI HMX
   have HR0:Hid (jh w bo 138 C 4 i #[.s (zoK kk x).tm,.s (zoK kk x).rs,.i (zoK kk x).mo,.i (zoK kk x).fr]):=jh.new hC hx.cell;have HR1:Hid (jh wr bo 138 C 4 i #[.s (mkT (kk)),.s (mkT (kk+1)),.i (kk+1+1),.i (kk+1+1+1)]):=by have hh:=(HR0.o).left (Left.of_below (fun _=>False) (hB.mono (Nat.le_refl _))) (fun h=>h);unfold zoK at hh;exact hh
   have HB0:=hid hB;clear hr hx hlo hbo hC hsz hB HR0;have hv1:wr.drew.cell? (aD bo (i*4))=some (.s (mkT (kk))):=by have hh:=(HR1.o).cell 0 (by omega);rw[Nat.add_zero]at hh;exact hh
   have hlt1:bo<wr.drew.heap.size:=(HR1.o).lt;have hBd:Below wr.drew.heap.size wr wr.drew:=(bRf _ _).drew;go_wp2_with fail
   go_region_held3 (fun w'=>w'.cell? (aD bo (i*4))=some (.s (mkT (kk)))) (exact hv1) (first|(go_at_call 104;refine(yG _ _ (by have a:=HB.o;omega) (by have a:=HB.o;omega)).mono ?_;rintro e wm1⟨rfl,hb⟩;have hv1:=(hb.cell (p:=(aD bo (i*4))) hlt1).trans hv1;have hBd:=hBd.trans (hb.mono hBd.size);clear hb))
   all_goals have HR2:=hid ((HR1.o).below hBd)
   all_goals have HB1:=hid (HB0.o.trans (hBd.mono HB0.o.size))
   all_goals clear hBd hlt1 HR1 HB0
   have hw_11:wrap64 (kk+1)=kk+1:=zx _ ⟨by have a:=HB.o;omega,by have a:=HB.o;omega⟩;have hv2:wm1.drew.cell? (aD bo (i*4+1))=some (.s (mkT (kk+1))):=by have hh:=(HR2.o).cell 1 (by omega);exact hh
   have hlt2:bo<wm1.drew.heap.size:=(HR2.o).lt;have hBd:Below wm1.drew.heap.size wm1 wm1.drew:=(bRf _ _).drew;go_wp2_with fail
   clear hv1
   go_region_held3 (fun w'=>w'.cell? (aD bo (i*4+1))=some (.s (mkT (kk+1)))) (exact hv2) (first|(go_at_call 104;refine(yG _ _ (by have a:=HB.o;omega) (by have a:=HB.o;omega)).mono ?_;rintro e wm2⟨rfl,hb⟩;have hv2:=(hb.cell (p:=(aD bo (i*4+1))) hlt2).trans hv2;have hBd:=hBd.trans (hb.mono hBd.size);clear hb))
   all_goals have HR3:=hid ((HR2.o).below hBd)
   all_goals have HB2:=hid (HB1.o.trans (hBd.mono HB1.o.size))
   all_goals clear hBd hlt2 HR2 HB1
   have hw_21:wrap64 (kk+1+1)=kk+1+1:=zx _ ⟨by have a:=HB.o;omega,by have a:=HB.o;omega⟩;have hv_2:=(HR3.o).cell 2 (by omega);have hlt_2:=(HR3.o).lt;have hne_2:((kk+1+1) != (kk+1+1))=false:=by simp
   have hw_25:wrap64 (kk+1+1+1)=kk+1+1+1:=zx _ ⟨by have a:=HB.o;omega,by have a:=HB.o;omega⟩;have hv_3:=(HR3.o).cell 3 (by omega);have hlt_3:=(HR3.o).lt;have hne_3:((kk+1+1+1) != (kk+1+1+1))=false:=by simp
   have hw_29:wrap64 (kk+1+1+1+1)=kk+1+1+1+1:=zx _ ⟨by have a:=HB.o;omega,by have a:=HB.o;omega⟩;go_wp2_with fail
   have hkn:kk+1+1+1+1=kLg k ms (i+1):=by rw[HKI.o];rfl
   exact⟨⟨i+1,by omega,by first|rw[hw_29,hkn]|rw[hkn],by rw[wrap_one (by have:=HL.o;omega)],HB2.o⟩,yO hlt (by have:=HL.o;omega)⟩
  ·have e:i=ms.length:=by omega
   subst e;go_wp2
   go_ret;exact⟨rfl,hB⟩
theorem zm9 {b off:Nat}{xs:List Int}(h:yZ w (some (aD b off)) xs):∀j u,(ints xs)[j]?=some u->w.cell? (((aD b off):Addr).add j)=some u:=by
 intro j u hj
 have hlt:j<xs.length:=by
  have:=(List.getElem?_eq_some_iff.1 hj).1
  simpa[ints] using this
 obtain⟨b',off',e,_,hc⟩:=h.cells (by rintro rfl;simp at hlt)
 cases e
 have h1:=hc j hlt
 have e1:((aD b off):Addr).add j=(aD b (off+j)):=by
  unfold Addr.add;split
  ·rename_i h;subst h;simp
  ·rfl
 rw[e1,h1];unfold ints at hj;rw[List.getElem?_map,List.getElem?_eq_getElem hlt]at hj
 simpa using hj
theorem zpB {xs:List Int}:∀u∈ints xs,u.oneCell'=true:=by
 intro u hu;unfold ints at hu;simp only[List.mem_map]at hu;obtain⟨s,_,rfl⟩:=hu;rfl
theorem znt (r:Rl)(a:OA)(cap:Nat)(w:World)(hw:yZ w a r.vs)(hl:r.vs.length<=1048576) :
 Calls Tryz.prog 147 #[.agg #[.l a r.vs.length cap,.s r.kd,.s r.tm,.s r.px]] w fun e w'=>∃a' cap',e=.returned (.agg #[.l a' r.vs.length cap',.s r.kd,.s r.tm,.s r.px])/\z8 w.heap.size w' a' r.vs/\Bw w w':=by
 by_cases h0:r.vs=[]
 ·have hn:r.vs.length=0:=by rw[h0];rfl
  rw[hn]
  rcases a with _|g
  all_goals
   go_in;go_wp2
   refine bodyPost_ret (v:=.agg #[.l none 0 0,.s r.kd,.s r.tm,.s r.px]) (by simp[results,Tryz.results147,go_sem]) rfl ⟨none,0,rfl,Or.inl ⟨rfl,h0⟩,zo _ _ _⟩
 ·obtain⟨b,off,rfl,_⟩:=hw.cells h0
  obtain⟨i0,hi,hz0,hz1,hz2⟩:=info_parts Tryz.zdo;have k0:=zK w (.cells #[.l (some (aD b off)) r.vs.length cap,.s r.kd,.s r.tm,.s r.px] 124) (.cells #[.l none 0 0,.s ⟨#[]⟩,.s ⟨#[]⟩,.s ⟨#[]⟩] 124);have hB0:=zo w (.cells #[.l (some (aD b off)) r.vs.length cap,.s r.kd,.s r.tm,.s r.px] 124) (.cells #[.l none 0 0,.s ⟨#[]⟩,.s ⟨#[]⟩,.s ⟨#[]⟩] 124);obtain⟨W,hW⟩:=xN ((w.alloc (.cells #[.l (some (aD b off)) r.vs.length cap,.s r.kd,.s r.tm,.s r.px] 124)).alloc (.cells #[.l none 0 0,.s ⟨#[]⟩,.s ⟨#[]⟩,.s ⟨#[]⟩] 124));have hz:W.heap.size=w.heap.size+1+1:=by rw[hW];simp
  go_in
  go_wp2_with (at_builtin;refine zcr ?_)
  rw[<- hW]at k0 hB0 ⊢;clear hW
  show wpList _ _ _ _ _ _
  refine wpList_append_own _ rfl (.const (.l none 0 0)) (.tmp 4) 71 rfl (w.heap.size+1+1) 3 i0 (.i 0) 1 8 Tryz.underlying71 hi hz0 hz1 hz2 rfl (by decide) (.l none 0 0) 0 [] rfl ⟨rfl,.inl ⟨rfl,rfl⟩⟩ (aD b off) r.vs.length cap (ints r.vs) rfl (by simp[ints]) (zm9 (hw.mono hB0)) zpB (by unfold maxLen;omega) (by omega) (by omega) ?_;intro v' w1 hown hgr _;simp only[Nat.zero_add,List.nil_append]at hown;obtain⟨a',cap',rfl,ho⟩:=z8.zbC hown;have hb1:Bw W w1:=(bRf _ _).grown hgr (Nat.le_refl _) (by simp[Value.ownBlock]);have K0:=(hb1.block _ (by omega)).trans k0.1;have K1:=(hb1.block _ (by omega)).trans k0.2;have HF:Hid (z8 (w.heap.size+1+1) w1 a' r.vs/\Bw w w1):=⟨ho,hB0.trans (hb1.mono (by omega))⟩
  have cQ:=fun j=>cell_of_block (o:=j) K0
  have fQ:=fun j=>zf (o:=j) K0
  have cR:=fun j=>cell_of_block (o:=j) K1
  have fR:=fun j=>zf (o:=j) K1
  have hsz:=hb1.size;clear hown hgr K0 K1 hb1 k0 hB0 ho;go_wp2
  refine bodyPost_ret (v:=.agg #[.l a' r.vs.length cap',.s r.kd,.s r.tm,.s r.px]) (by simp[results,Tryz.results147,go_sem,cR]) rfl ⟨a',⟨cap',rfl⟩,?_,?_⟩
  ·refine z8.low (lo:=w.heap.size+1+1) ?_ (by omega)
   iterate 4 refine z8.setCell ?_ _ (by show w.heap.size+1<_;omega) _
   refine z8.setCell ?_ _ (by show w.heap.size<_;omega) _;exact HF.o.1
  ·have h0:w.heap.size<=w.heap.size:=Nat.le_refl _
   have h1:w.heap.size<=w.heap.size+1:=Nat.le_succ _
   iterate 4 refine Below.setCell ?_ h1 _
   refine Below.setCell ?_ h0 _;exact HF.o.2
theorem zmq (g:Gr)(a:OA)(cap:Nat)(w:World)(hw:yZ w a g.r.vs)(hl:g.r.vs.length<=1048576) :
 Calls Tryz.prog 89 #[.agg #[.i g.no,.s g.to,.s g.gb,.l a g.r.vs.length cap,.s g.r.kd,.s g.r.tm,.s g.r.px]] w fun e w'=>∃a' cap',e=.returned (.agg #[.i g.no,.s g.to,.s g.gb,.l a' g.r.vs.length cap',.s g.r.kd,.s g.r.tm,.s g.r.px])/\z8 w.heap.size w' a' g.r.vs/\Bw w w':=by
 have k0:=zK w (.cells #[.i g.no,.s g.to,.s g.gb,.l a g.r.vs.length cap,.s g.r.kd,.s g.r.tm,.s g.r.px] 126) (.cells #[.i 0,.s ⟨#[]⟩,.s ⟨#[]⟩,.l none 0 0,.s ⟨#[]⟩,.s ⟨#[]⟩,.s ⟨#[]⟩] 126);have hB0:=zo w (.cells #[.i g.no,.s g.to,.s g.gb,.l a g.r.vs.length cap,.s g.r.kd,.s g.r.tm,.s g.r.px] 126) (.cells #[.i 0,.s ⟨#[]⟩,.s ⟨#[]⟩,.l none 0 0,.s ⟨#[]⟩,.s ⟨#[]⟩,.s ⟨#[]⟩] 126);obtain⟨W,hW⟩:=xN ((w.alloc (.cells #[.i g.no,.s g.to,.s g.gb,.l a g.r.vs.length cap,.s g.r.kd,.s g.r.tm,.s g.r.px] 126)).alloc (.cells #[.i 0,.s ⟨#[]⟩,.s ⟨#[]⟩,.l none 0 0,.s ⟨#[]⟩,.s ⟨#[]⟩,.s ⟨#[]⟩] 126));have hz:W.heap.size=w.heap.size+1+1:=by rw[hW];simp
 go_in;go_wp2_with fail
 rw[<- hW]at k0 hB0 ⊢;clear hW;refine(znt g.r a cap W (hw.mono hB0) hl).mono ?_;rintro e w1⟨a',cap',rfl,ho,hb1⟩;have K0:=(hb1.block _ (by omega)).trans k0.1;have K1:=(hb1.block _ (by omega)).trans k0.2;have HF:Hid (z8 (w.heap.size+1+1) w1 a' g.r.vs/\Bw w w1):=⟨by rw[<- hz];exact ho,hB0.trans (hb1.mono (by omega))⟩
 have cQ:=fun j=>cell_of_block (o:=j) K0
 have fQ:=fun j=>zf (o:=j) K0
 have cR:=fun j=>cell_of_block (o:=j) K1
 have fR:=fun j=>zf (o:=j) K1
 have hsz:=hb1.size;clear K0 K1 hb1 k0 hB0 ho;go_wp2
 refine bodyPost_ret (v:=.agg #[.i g.no,.s g.to,.s g.gb,.l a' g.r.vs.length cap',.s g.r.kd,.s g.r.tm,.s g.r.px]) (by simp[results,Tryz.results89,go_sem,cR]) rfl ⟨a',cap',rfl,?_,?_⟩
 ·refine z8.low (lo:=w.heap.size+1+1) ?_ (by omega)
  iterate 7 refine z8.setCell ?_ _ (by show w.heap.size+1<_;omega) _
  iterate 4 refine z8.setCell ?_ _ (by show w.heap.size<_;omega) _
  exact HF.o.1
 ·have h0:w.heap.size<=w.heap.size:=Nat.le_refl _
  have h1:w.heap.size<=w.heap.size+1:=Nat.le_succ _
  iterate 7 refine Below.setCell ?_ h1 _
  iterate 4 refine Below.setCell ?_ h0 _
  exact HF.o.2
end Go.Proofs.YtjnpjkigofldlaaGreat
