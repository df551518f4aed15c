import Derived.Test.YtkficnallnpjnaaGreatM34
set_option maxHeartbeats 8000000
namespace Go.Proofs.YtkficnallnpjnaaGreat
open Go.RowKit
structure ObE (lo:Nat)(w:World)(own:Nat->Lb)(c:Nat->Option Value)(i:Nat)(x:Ob)(a0 a1:Option Addr)(c0 c1:Nat):Prop where
 cell:∀j,j<7->c j=(#[.string x.kd,.string x.nm,.string x.tm,.slice a0 x.vs.length c0,.bool x.en,.slice a1 x.hs.length c1,.int .i64 x.vr]:Array Value)[j]?
 l0:zn lo w a0 x.vs
 o0:∀g,a0=some g->own g.block=(0,i,1)
 l1:zn lo w a1 x.hs
 o1:∀g,a1=some g->own g.block=(0,i,2)
structure zat (lo:Nat)(w:World)(own:Nat->Lb)(a:Option Addr)(n:Nat)(f:Nat->Ob):Prop where
 rows:0<n->∃b C,a=some ⟨b,0,none⟩/\lo<=b/\own b=(0,0,0)/\w.heap[b]?=some (.cells C 117)/\n*7<=C.size/\∀i,i<n->∃a0 a1 c0 c1,ObE lo w own (fun j=>C[i*7+j]?) i (f i) a0 a1 c0 c1
theorem zat.left {S:Nat->Prop}{lo:Nat}{w w':World}{own:Nat->Lb}{a:Option Addr}{n:Nat}{f:Nat->Ob}(h:zat lo w own a n f)(hl:Left S w w')(hS:∀k,(own k).1=0->¬S k):zat lo w' own a n f:=by
 refine⟨fun hn=>?_⟩;obtain⟨b,C,ha,hlo,hb,hC,hs,hr⟩:=h.rows hn;refine⟨b,C,ha,hlo,hb,(hl.out b (gES hC).1 (hS b (by rw[hb]))).trans hC,hs,fun i hi=>?_⟩;obtain⟨a0,a1,c0,c1,he⟩:=hr i hi;exact⟨a0,a1,c0,c1,he.cell,he.l0.left hl (fun g hg=>hS _ (by rw[he.o0 g hg])),he.o0,he.l1.left hl (fun g hg=>hS _ (by rw[he.o1 g hg])),he.o1⟩
theorem zat.mono {lo:Nat}{w w':World}{own:Nat->Lb}{a:Option Addr}{n:Nat}{f:Nat->Ob}(h:zat lo w own a n f)(hb:Below w.heap.size w w'):zat lo w' own a n f:=h.left (Left.of_below (fun _=>False) hb) (fun _ _ h=>h)
theorem zat.own {lo:Nat}{w:World}{own own':Nat->Lb}{a:Option Addr}{n:Nat}{f:Nat->Ob}(h:zat lo w own a n f)(he:∀k,k<w.heap.size->(own k).1=0->own' k=own k):zat lo w own' a n f:=by
 refine⟨fun hn=>?_⟩;obtain⟨b,C,ha,hlo,hb,hC,hs,hr⟩:=h.rows hn;refine⟨b,C,ha,hlo,(he b (gES hC).1 (by rw[hb])).trans hb,hC,hs,fun i hi=>?_⟩;obtain⟨a0,a1,c0,c1,hx⟩:=hr i hi;exact⟨a0,a1,c0,c1,hx.cell,hx.l0,fun g hg=>(he _ (hx.l0.lt g hg) (by rw[hx.o0 g hg])).trans (hx.o0 g hg),hx.l1,fun g hg=>(he _ (hx.l1.lt g hg) (by rw[hx.o1 g hg])).trans (hx.o1 g hg)⟩
theorem zat.low {lo lo':Nat}{w:World}{own:Nat->Lb}{a:Option Addr}{n:Nat}{f:Nat->Ob}(h:zat lo w own a n f)(hl:lo'<=lo):zat lo' w own a n f:=by
 refine⟨fun hn=>?_⟩;obtain⟨b,C,ha,hlo,hb,hC,hs,hr⟩:=h.rows hn;refine⟨b,C,ha,Nat.le_trans hl hlo,hb,hC,hs,fun i hi=>?_⟩;obtain⟨a0,a1,c0,c1,hx⟩:=hr i hi;exact⟨a0,a1,c0,c1,hx.cell,hx.l0.low hl,hx.o0,hx.l1.low hl,hx.o1⟩
theorem zat.same {lo:Nat}{w:World}{own:Nat->Lb}{a:Option Addr}{n:Nat}{f f':Nat->Ob}(h:zat lo w own a n f)(he:∀i,i<n->f' i=f i):zat lo w own a n f':=by
 refine⟨fun hn=>?_⟩;obtain⟨b,C,ha,hlo,hb,hC,hs,hr⟩:=h.rows hn;refine⟨b,C,ha,hlo,hb,hC,hs,fun i hi=>?_⟩;rw[he i hi];exact hr i hi
def zac (ms:List Ob)(i:Nat):Ob:=(ms[i]?).getD ⟨ByteArray.empty,ByteArray.empty,ByteArray.empty,[],false,[],0⟩
theorem zlz {ms:List Ob}{i:Nat}(h:i<ms.length):zac ms i=ms[i]:=by unfold zac;rw[List.getElem?_eq_getElem h];rfl
theorem zat.at {lo:Nat}{w:World}{own:Nat->Lb}{a:Option Addr}{ms:List Ob}(h:zat lo w own a ms.length (zac ms))(hs:zeX ms)(hl:ms.length<=maxLen):zbA w a ms:=by
 refine⟨hl,fun hne=>?_⟩;obtain⟨b,C,ha,hlo,hb,hC,hsz,hr⟩:=h.rows (List.length_pos_iff.2 hne);refine⟨b,0,ha,(gES hC).1,fun i hi=>?_⟩;obtain⟨a0,a1,c0,c1,hx⟩:=hr i hi;rw[zlz hi]at hx;obtain⟨s0,s1,s2⟩:=hs.small i hi;refine⟨a0,a1,c0,c1,s0,hx.l0.at s1.1 s1.2,hx.l1.at s2.1 s2.2,fun j hj=>?_⟩;rw[cell_of_block hC,Nat.zero_add];exact hx.cell j hj
def zgy (k:Int)(x:Ob):Ob:=⟨(mkT (k)),(mkT (k+1)),(mkT (k+1+1)),(zkC (k+1+1+1) x.vs.length),((k+1+1+1+x.vs.length) % 3 == 0),(zkC (k+1+1+1+x.vs.length+1) x.hs.length),(k+1+1+1+x.vs.length+1+x.hs.length)⟩
def zqk (k:Int)(x:Ob):Int:=k+1+1+1+x.vs.length+1+x.hs.length+1
def kOb (k:Int)(ms:List Ob):Nat->Int
 | 0=>k
 | i+1=>zqk (kOb k ms i) (zac ms i)
def zjV (k:Int)(ms:List Ob)(i:Nat):Ob:=zgy (kOb k ms i) (zac ms i)
def zlj (k:Int)(ms:List Ob)(i j:Nat):Ob:=if j<i then zjV k ms j else zac ms j
theorem zoj (k:Int)(ms:List Ob)(i:Nat)(h:∀i,(zac ms i).vs.length<=1048576/\(zac ms i).hs.length<=1048576):k+i<=kOb k ms i/\kOb k ms i<=k+i*2097159:=by
 induction i with
 | zero=>exact⟨by show k+0<=k;omega,by show k<=k+0*2097159;omega⟩
 | succ i ih=>
  have h1:kOb k ms (i+1)=zqk (kOb k ms i) (zac ms i):=rfl;have h2:=h i;unfold zqk at h1;rw[h1];exact⟨by omega,by omega⟩
theorem zji {ms:List Ob}(h:∀i (h:i<ms.length),ms[i].vs.length<=1048576/\ms[i].hs.length<=1048576)(i:Nat):(zac ms i).vs.length<=1048576/\(zac ms i).hs.length<=1048576:=by
 by_cases hi:i<ms.length
 ·rw[zlz hi];exact h i hi
 ·unfold zac;rw[List.getElem?_eq_none (by omega)];exact⟨Nat.zero_le _,Nat.zero_le _⟩
set_option maxRecDepth 20000 in
theorem zfo (lo:Nat)(own:Nat->Lb)(a:Option Addr)(cap:Nat)(ms:List Ob)(k:Int)(w:World)(h:zat lo w own a ms.length (zac ms))(hl:ms.length<=1048576)(hls:∀i,(zac ms i).vs.length<=1048576/\(zac ms i).hs.length<=1048576)(hk:0<k)(hk2:k<5000000000000000000) :
 Calls Tryz.prog 45 #[.slice a ms.length cap,.int .i64 k] w fun e w'=>e=.returned (.int .i64 (kOb k ms ms.length))/\zat lo w' own a ms.length (zjV k ms)/\Left (fun q=>(own q).1=0) w w':=by
 have HF:=hid h;have HL:=qE hl hls;have HK:=qE hk hk2;clear h hl hk hk2 hls;go_enter Tryz.func45,Tryz.ntmps45;go_wp2_with fail
 go_loopw [1,5] (fun kv iv wr=>∃i:Nat,i<=ms.length/\kv=.int .i64 (kOb k ms i)/\iv=.int .i64 i/\Hid (zat lo wr own a ms.length (zlj k ms i)/\Left (fun q=>(own q).1=0) w wr)) (fun _ iv _=>ms.length-(intOf iv).toNat)
 case atStart=>exact⟨0,Nat.zero_le _,rfl,rfl,HF.out.same (fun i _=>if_neg (Nat.not_lt_zero i)),Left.refl _ _⟩
 case round=>
  obtain⟨i,hile,rfl,rfl,HQ⟩:=hrel
  by_cases hlt:i<ms.length
  ·have hltI:(i:Int)<(ms.length:Int):=by omega
   have HKI:Hid (kOb k ms (i+1)=zqk (kOb k ms i) (zac ms i)):=rfl;have hkb:=zoj k ms i HL.out.2;have HMX:Hid (zjV k ms i=zgy (kOb k ms i) (zac ms i)):=rfl
   generalize kOb k ms i=kk at hkb HKI HMX ⊢
   have HB:Hid (0<kk/\kk<7000000000000000000):=by have a:=HK.out;have b:=HL.out.1;exact⟨by omega,by omega⟩
   clear hkb;obtain⟨bo,C,rfl,hlo,hbo,hC,hsz,hr⟩:=HQ.out.1.rows (by omega);obtain⟨a0,a1,c0,c1,hx⟩:=hr i hlt;rw[show zlj k ms i i=zac ms i from if_neg (Nat.lt_irrefl i)]at hx;have HFX:=hid (HL.out.2 i)
   generalize zac ms i=x at hx HKI HMX HFX
   have HS:=hid (show i*7+7<=C.size by omega);have HRR:=zbJ hlo hbo hC hsz;have M0:Hid (Mid own lo bo 117 C 7 i 0 wr wr (oC x a0 a1 c0 c1) a0 a1 none x.vs x.hs []):=⟨qG.new hC hx.cell,rfl,Left.refl _ _,hbo,hx.l0,hx.o0,hx.l1,hx.o1,Or.inl ⟨rfl,rfl⟩,(fun _ h=>by cases h)⟩
   clear hr hx hlo hbo hC hsz;go_wp2_with fail
   refine(yG _ _ (by have a:=HB.out;have b:=HFX.out;omega) (by have a:=HB.out;have b:=HFX.out;omega)).mono ?_;rintro e wm1⟨rfl,hb⟩;have M1:=hid (M0.out.below hb);clear hb M0;obtain⟨y1,hv1⟩:=M1.out.ex 0 (by omega);have hf1:=fun o=>M1.out.row.fz o
   have hg1:=M1.out.row.lt;rw[Nat.add_zero]at hv1;have M2:=hid (M1.out.set 0 (.string (mkT (kk))) (by omega) HS.out);rw[Nat.add_zero]at M2;clear M1;have hw_2:wrap64 (kk+1)=kk+1:=zy _ ⟨by have a:=HB.out;have b:=HFX.out;omega,by have a:=HB.out;have b:=HFX.out;omega⟩;go_wp2_with fail
   clear hv1 hf1 hg1;refine(yG _ _ (by have a:=HB.out;have b:=HFX.out;omega) (by have a:=HB.out;have b:=HFX.out;omega)).mono ?_;rintro e wm2⟨rfl,hb⟩;have M3:=hid (M2.out.below hb);clear hb M2;obtain⟨y2,hv2⟩:=M3.out.ex 1 (by omega);have hf2:=fun o=>M3.out.row.fz o
   have hg2:=M3.out.row.lt;have M4:=hid (M3.out.set 1 (.string (mkT (kk+1))) (by omega) HS.out);clear M3;have hw_4:wrap64 (kk+1+1)=kk+1+1:=zy _ ⟨by have a:=HB.out;have b:=HFX.out;omega,by have a:=HB.out;have b:=HFX.out;omega⟩;go_wp2_with fail
   clear hv2 hf2 hg2;refine(yG _ _ (by have a:=HB.out;have b:=HFX.out;omega) (by have a:=HB.out;have b:=HFX.out;omega)).mono ?_;rintro e wm3⟨rfl,hb⟩;have M5:=hid (M4.out.below hb);clear hb M4;obtain⟨y3,hv3⟩:=M5.out.ex 2 (by omega);have hf3:=fun o=>M5.out.row.fz o
   have hg3:=M5.out.row.lt;have M6:=hid (M5.out.set 2 (.string (mkT (kk+1+1))) (by omega) HS.out);clear M5;have hw_6:wrap64 (kk+1+1+1)=kk+1+1+1:=zy _ ⟨by have a:=HB.out;have b:=HFX.out;omega,by have a:=HB.out;have b:=HFX.out;omega⟩;have hg4:=M6.out.row.lt;have hv4:_=some (Value.slice a0 x.vs.length c0):=M6.out.row.cell 3 (by omega);go_wp2_with fail
   clear hv3 hf3 hg3 hv4 hg4;refine(zgP lo c0 a0 x.vs _ _ M6.out.t0 (by have a:=HB.out;have b:=HFX.out;omega) (by have a:=HB.out;have b:=HFX.out;omega)).mono ?_;rintro e wm4⟨_,rfl,rfl,ho,hf⟩;have M7:=hid (M6.out.l0 ho hf);clear ho hf M6;obtain⟨y5,hv5⟩:=M7.out.ex 4 (by omega);have hf5:=fun o=>M7.out.row.fz o
   have hg5:=M7.out.row.lt;have htm:(kk+1+1+1+x.vs.length).tmod 3=(kk+1+1+1+x.vs.length) % 3:=Int.tmod_eq_emod_of_nonneg (by have a:=HB.out;have b:=HFX.out;omega);have hwm:wrap64 ((kk+1+1+1+x.vs.length) % 3)=(kk+1+1+1+x.vs.length) % 3:=zy _ ⟨by omega,by omega⟩;have M8:=hid (M7.out.set 4 (.bool ((kk+1+1+1+x.vs.length) % 3 == 0)) (by omega) HS.out);clear M7;have hw_8:wrap64 (kk+1+1+1+x.vs.length+1)=kk+1+1+1+x.vs.length+1:=zy _ ⟨by have a:=HB.out;have b:=HFX.out;omega,by have a:=HB.out;have b:=HFX.out;omega⟩;have hg6:=M8.out.row.lt;have hv6:_=some (Value.slice a1 x.hs.length c1):=M8.out.row.cell 5 (by omega);go_wp2_with fail
   clear hv5 hf5 hg5 htm hwm hv6 hg6;refine(zgP lo c1 a1 x.hs _ _ M8.out.t1 (by have a:=HB.out;have b:=HFX.out;omega) (by have a:=HB.out;have b:=HFX.out;omega)).mono ?_;rintro e wm5⟨_,rfl,rfl,ho,hf⟩;have M9:=hid (M8.out.l1 ho hf);clear ho hf M8;obtain⟨y7,hv7⟩:=M9.out.ex 6 (by omega);have hf7:=fun o=>M9.out.row.fz o
   have hg7:=M9.out.row.lt;have M10:=hid (M9.out.set 6 (.int .i64 (kk+1+1+1+x.vs.length+1+x.hs.length)) (by omega) HS.out);clear M9;have hw_10:wrap64 (kk+1+1+1+x.vs.length+1+x.hs.length+1)=kk+1+1+1+x.vs.length+1+x.hs.length+1:=zy _ ⟨by have a:=HB.out;have b:=HFX.out;omega,by have a:=HB.out;have b:=HFX.out;omega⟩;go_wp2_with fail
   go_roundw
   case rel=>
    have hkn:kk+1+1+1+x.vs.length+1+x.hs.length+1=kOb k ms (i+1):=HKI.out.symm;refine⟨i+1,by omega,by first|rw[hw_10,hkn]|rw[hkn],by rw[wrap_one (by have:=HL.out.1;omega)],⟨fun _=>?_⟩,HQ.out.2.trans (M10.out.left.wide ?_)⟩
    ·obtain⟨C',hC',hs',ho',hd'⟩:=M10.out.row.ex
     refine⟨bo,C',rfl,HRR.out.1,HRR.out.2.1,hC',by rw[hs'];exact HRR.out.2.2.2,fun z hz=>?_⟩
     by_cases ez:z=i
     ·subst ez
      rw[show zlj k ms (z+1) z=zjV k ms z from if_pos (Nat.lt_succ_self z),HMX.out];refine⟨a0,a1,c0,c1,fun j hj=>(hd' j hj).trans ?_,M10.out.t0,M10.out.o0,M10.out.t1,M10.out.o1⟩;unfold zgy;simp only[zbq];rfl
     ·rw[show zlj k ms (i+1) z=zlj k ms i z by unfold zlj;by_cases hz1:z<i <;> simp[hz1] <;> omega]
      obtain⟨b2,C2,h2a,_,_,h2C,_,h2r⟩:=HQ.out.1.rows (by omega)
      cases h2a
      obtain rfl:C2=C:=by have h3:=HRR.out.2.2.1;rw[h2C]at h3;cases h3;rfl
      obtain⟨d0,d1,e0,e1,hy⟩:=h2r z hz;exact⟨d0,d1,e0,e1,fun j hj=>(ho' _ (by omega)).trans (hy.cell j hj),hy.l0.left M10.out.left (fun g hg hh=>by simp only[hy.o0 g hg,Prod.mk.injEq]at hh;omega),hy.o0,hy.l1.left M10.out.left (fun g hg hh=>by simp only[hy.o1 g hg,Prod.mk.injEq]at hh;omega),hy.o1⟩
    ·rintro z (hz|hz|hz|hz) <;> rw[hz]
   case measure=>exact yP hlt (by have:=HL.out.1;omega)
  ·have e:i=ms.length:=by omega
   subst e;go_wp2_with fail
   go_ret;exact⟨rfl,HQ.out.1.same (fun j hj=>(if_pos hj).symm),HQ.out.2⟩
set_option maxRecDepth 20000 in
theorem zfl (lo:Nat)(own:Nat->Lb)(a:Option Addr)(cap:Nat)(ms:List Ob)(k:Int)(w:World)(h:zat lo w own a ms.length (zjV k ms))(hl:ms.length<=1048576)(hls:∀i,(zac ms i).vs.length<=1048576/\(zac ms i).hs.length<=1048576)(hk:0<k)(hk2:k<5000000000000000000) :
 Calls Tryz.prog 49 #[.slice a ms.length cap,.int .i64 k] w fun e w'=>e=.returned (.int .i64 (kOb k ms ms.length))/\Below w.heap.size w w':=by
 have HF:=hid h;have HL:=qE hl hls;have HK:=qE hk hk2;clear h hl hk hk2 hls;go_enter Tryz.func49,Tryz.ntmps49;go_wp2_with fail
 go_loopw [1,5] (fun kv iv wr=>∃i:Nat,i<=ms.length/\kv=.int .i64 (kOb k ms i)/\iv=.int .i64 i/\Below w.heap.size w wr) (fun _ iv _=>ms.length-(intOf iv).toNat)
 case atStart=>exact⟨0,Nat.zero_le _,rfl,rfl,bRf _ _⟩
 case round=>
  obtain⟨i,hile,rfl,rfl,hB⟩:=hrel
  by_cases hlt:i<ms.length
  ·have hltI:(i:Int)<(ms.length:Int):=by omega
   have HKI:Hid (kOb k ms (i+1)=zqk (kOb k ms i) (zac ms i)):=rfl;have hkb:=zoj k ms i HL.out.2;have HMX:Hid (zjV k ms i=zgy (kOb k ms i) (zac ms i)):=rfl
   generalize kOb k ms i=kk at hkb HKI HMX ⊢
   have HB:Hid (0<kk/\kk<7000000000000000000):=by have a:=HK.out;have b:=HL.out.1;exact⟨by omega,by omega⟩
   clear hkb;obtain⟨bo,C,rfl,hlo,hbo,hC,hsz,hr⟩:=HF.out.rows (by omega);obtain⟨a0,a1,c0,c1,hx⟩:=hr i hlt;rw[HMX.out]at hx;have HFX:=hid (HL.out.2 i)
   generalize zac ms i=x at hx HKI HMX HFX
   have HR0:Hid (qG w bo 117 C 7 i #[.string (zgy kk x).kd,.string (zgy kk x).nm,.string (zgy kk x).tm,.slice a0 (zgy kk x).vs.length c0,.bool (zgy kk x).en,.slice a1 (zgy kk x).hs.length c1,.int .i64 (zgy kk x).vr]):=qG.new hC hx.cell;have HT0:Hid (zF w a0 (zgy kk x).vs):=hx.l0.at (by show(zkC _ _).length<=_;rw[zbq];have b:=HFX.out;unfold maxLen;omega) (zjR _ _ (by have a:=HB.out;have b:=HFX.out;omega) (by have a:=HB.out;have b:=HFX.out;omega));have HT1:Hid (zF w a1 (zgy kk x).hs):=hx.l1.at (by show(zkC _ _).length<=_;rw[zbq];have b:=HFX.out;unfold maxLen;omega) (zjR _ _ (by have a:=HB.out;have b:=HFX.out;omega) (by have a:=HB.out;have b:=HFX.out;omega));have HR1:Hid (qG wr bo 117 C 7 i #[.string (mkT (kk)),.string (mkT (kk+1)),.string (mkT (kk+1+1)),.slice a0 x.vs.length c0,.bool ((kk+1+1+1+x.vs.length) % 3 == 0),.slice a1 x.hs.length c1,.int .i64 (kk+1+1+1+x.vs.length+1+x.hs.length)]):=by have hh:=(HR0.out).left (Left.of_below (fun _=>False) (hB.mono (Nat.le_refl _))) (fun h=>h);unfold zgy at hh;simp only[zbq]at hh;exact hh
   have HB0:=hid hB;clear hr hx hlo hbo hC hsz hB HR0;have hv1:wr.drew.cell? ⟨bo,i*7,none⟩=some (.string (mkT (kk))):=by have hh:=(HR1.out).cell 0 (by omega);rw[Nat.add_zero]at hh;exact hh
   have hlt1:bo<wr.drew.heap.size:=(HR1.out).lt;have hBd:Below wr.drew.heap.size wr wr.drew:=(bRf _ _).drew;go_wp2_with fail
   go_region_held3 (fun w'=>w'.cell? ⟨bo,i*7,none⟩=some (.string (mkT (kk)))) (exact hv1) (first|(go_at_call 91;refine(yG _ _ (by have a:=HB.out;have b:=HFX.out;omega) (by have a:=HB.out;have b:=HFX.out;omega)).mono ?_;rintro e wm1⟨rfl,hb⟩;have hv1:=(hb.cell (p:=⟨bo,i*7,none⟩) hlt1).trans hv1;have hBd:=hBd.trans (hb.mono hBd.size);clear hb))
   all_goals have HR2:=hid ((HR1.out).below hBd)
   all_goals have HB1:=hid (HB0.out.trans (hBd.mono HB0.out.size))
   all_goals clear hBd hlt1 HR1 HB0
   have hw_13:wrap64 (kk+1)=kk+1:=zy _ ⟨by have a:=HB.out;have b:=HFX.out;omega,by have a:=HB.out;have b:=HFX.out;omega⟩;have hv2:wm1.drew.cell? ⟨bo,i*7+1,none⟩=some (.string (mkT (kk+1))):=by have hh:=(HR2.out).cell 1 (by omega);exact hh
   have hlt2:bo<wm1.drew.heap.size:=(HR2.out).lt;have hBd:Below wm1.drew.heap.size wm1 wm1.drew:=(bRf _ _).drew;go_wp2_with fail
   clear hv1
   go_region_held3 (fun w'=>w'.cell? ⟨bo,i*7+1,none⟩=some (.string (mkT (kk+1)))) (exact hv2) (first|(go_at_call 91;refine(yG _ _ (by have a:=HB.out;have b:=HFX.out;omega) (by have a:=HB.out;have b:=HFX.out;omega)).mono ?_;rintro e wm2⟨rfl,hb⟩;have hv2:=(hb.cell (p:=⟨bo,i*7+1,none⟩) hlt2).trans hv2;have hBd:=hBd.trans (hb.mono hBd.size);clear hb))
   all_goals have HR3:=hid ((HR2.out).below hBd)
   all_goals have HB2:=hid (HB1.out.trans (hBd.mono HB1.out.size))
   all_goals clear hBd hlt2 HR2 HB1
   have hw_23:wrap64 (kk+1+1)=kk+1+1:=zy _ ⟨by have a:=HB.out;have b:=HFX.out;omega,by have a:=HB.out;have b:=HFX.out;omega⟩;have hv3:wm2.drew.cell? ⟨bo,i*7+2,none⟩=some (.string (mkT (kk+1+1))):=by have hh:=(HR3.out).cell 2 (by omega);exact hh
   have hlt3:bo<wm2.drew.heap.size:=(HR3.out).lt;have hBd:Below wm2.drew.heap.size wm2 wm2.drew:=(bRf _ _).drew;go_wp2_with fail
   clear hv2
   go_region_held3 (fun w'=>w'.cell? ⟨bo,i*7+2,none⟩=some (.string (mkT (kk+1+1)))) (exact hv3) (first|(go_at_call 91;refine(yG _ _ (by have a:=HB.out;have b:=HFX.out;omega) (by have a:=HB.out;have b:=HFX.out;omega)).mono ?_;rintro e wm3⟨rfl,hb⟩;have hv3:=(hb.cell (p:=⟨bo,i*7+2,none⟩) hlt3).trans hv3;have hBd:=hBd.trans (hb.mono hBd.size);clear hb))
   all_goals have HR4:=hid ((HR3.out).below hBd)
   all_goals have HB3:=hid (HB2.out.trans (hBd.mono HB2.out.size))
   all_goals clear hBd hlt3 HR3 HB2
   have hw_33:wrap64 (kk+1+1+1)=kk+1+1+1:=zy _ ⟨by have a:=HB.out;have b:=HFX.out;omega,by have a:=HB.out;have b:=HFX.out;omega⟩;have hsl0:=(HR4.out).cell 3 (by omega);have hltl0:=(HR4.out).lt;go_wp2_with fail
   clear hv3 hsl0 hltl0;refine(zgV a0 c0 x.vs.length _ _ (HT0.out.mono HB3.out) (by have a:=HB.out;have b:=HFX.out;omega) (by have a:=HB.out;have b:=HFX.out;omega)).mono ?_;rintro e wm4⟨kq0,rfl,hke,hb⟩;obtain rfl:=hke;have HR5:=hid ((HR4.out).below hb);have HB4:=hid (HB3.out.trans (hb.mono HB3.out.size));clear hb HR4 HB3;have hng0:decide (kk+1+1+1+x.vs.length<0)=false:=by simp only[decide_eq_false_iff_not];have a:=HB.out;have b:=HFX.out;omega
   have hv_4:=(HR5.out).cell 4 (by omega);have hlt_4:=(HR5.out).lt;have htm:(kk+1+1+1+x.vs.length).tmod 3=(kk+1+1+1+x.vs.length) % 3:=Int.tmod_eq_emod_of_nonneg (by have a:=HB.out;have b:=HFX.out;omega);have hwm:wrap64 ((kk+1+1+1+x.vs.length) % 3)=(kk+1+1+1+x.vs.length) % 3:=zy _ ⟨by omega,by omega⟩;have hne_4:(((kk+1+1+1+x.vs.length) % 3 == 0) != ((kk+1+1+1+x.vs.length) % 3 == 0))=false:=by simp
   have hw_50:wrap64 (kk+1+1+1+x.vs.length+1)=kk+1+1+1+x.vs.length+1:=zy _ ⟨by have a:=HB.out;have b:=HFX.out;omega,by have a:=HB.out;have b:=HFX.out;omega⟩;have hsl1:=(HR5.out).cell 5 (by omega);have hltl1:=(HR5.out).lt;go_wp2_with fail
   clear hng0 hv_4 hlt_4 htm hwm hne_4 hsl1 hltl1;refine(zgV a1 c1 x.hs.length _ _ (HT1.out.mono HB4.out) (by have a:=HB.out;have b:=HFX.out;omega) (by have a:=HB.out;have b:=HFX.out;omega)).mono ?_;rintro e wm5⟨kq1,rfl,hke,hb⟩;obtain rfl:=hke;have HR6:=hid ((HR5.out).below hb);have HB5:=hid (HB4.out.trans (hb.mono HB4.out.size));clear hb HR5 HB4;have hng1:decide (kk+1+1+1+x.vs.length+1+x.hs.length<0)=false:=by simp only[decide_eq_false_iff_not];have a:=HB.out;have b:=HFX.out;omega
   have hv_6:=(HR6.out).cell 6 (by omega);have hlt_6:=(HR6.out).lt;have hne_6:((kk+1+1+1+x.vs.length+1+x.hs.length) != (kk+1+1+1+x.vs.length+1+x.hs.length))=false:=by simp
   have hw_65:wrap64 (kk+1+1+1+x.vs.length+1+x.hs.length+1)=kk+1+1+1+x.vs.length+1+x.hs.length+1:=zy _ ⟨by have a:=HB.out;have b:=HFX.out;omega,by have a:=HB.out;have b:=HFX.out;omega⟩;go_wp2_with fail
   have hkn:kk+1+1+1+x.vs.length+1+x.hs.length+1=kOb k ms (i+1):=by rw[HKI.out];rfl
   exact⟨⟨i+1,by omega,by first|rw[hw_65,hkn]|rw[hkn],by rw[wrap_one (by have:=HL.out.1;omega)],HB5.out⟩,yP hlt (by have:=HL.out.1;omega)⟩
  ·have e:i=ms.length:=by omega
   subst e;go_wp2_with fail
   go_ret;exact⟨rfl,hB⟩
structure GrE (lo:Nat)(w:World)(own:Nat->Lb)(c:Nat->Option Value)(i:Nat)(x:Gr)(a0:Option Addr)(c0:Nat):Prop where
 cell:∀j,j<7->c j=(#[.int .i64 x.no,.string x.to,.string x.gb,.slice a0 x.r.vs.length c0,.string x.r.kd,.string x.r.tm,.string x.r.px]:Array Value)[j]?
 l0:yt lo w a0 x.r.vs
 o0:∀g,a0=some g->own g.block=(1,i,3)
structure zaT (lo:Nat)(w:World)(own:Nat->Lb)(a:Option Addr)(n:Nat)(f:Nat->Gr):Prop where
 rows:0<n->∃b C,a=some ⟨b,0,none⟩/\lo<=b/\own b=(1,0,0)/\w.heap[b]?=some (.cells C 121)/\n*7<=C.size/\∀i,i<n->∃a0 c0,GrE lo w own (fun j=>C[i*7+j]?) i (f i) a0 c0
theorem zaT.left {S:Nat->Prop}{lo:Nat}{w w':World}{own:Nat->Lb}{a:Option Addr}{n:Nat}{f:Nat->Gr}(h:zaT lo w own a n f)(hl:Left S w w')(hS:∀k,(own k).1=1->¬S k):zaT lo w' own a n f:=by
 refine⟨fun hn=>?_⟩;obtain⟨b,C,ha,hlo,hb,hC,hs,hr⟩:=h.rows hn;refine⟨b,C,ha,hlo,hb,(hl.out b (gES hC).1 (hS b (by rw[hb]))).trans hC,hs,fun i hi=>?_⟩;obtain⟨a0,c0,he⟩:=hr i hi;exact⟨a0,c0,he.cell,he.l0.left hl (fun g hg=>hS _ (by rw[he.o0 g hg])),he.o0⟩
theorem zaT.mono {lo:Nat}{w w':World}{own:Nat->Lb}{a:Option Addr}{n:Nat}{f:Nat->Gr}(h:zaT lo w own a n f)(hb:Below w.heap.size w w'):zaT lo w' own a n f:=h.left (Left.of_below (fun _=>False) hb) (fun _ _ h=>h)
theorem zaT.own {lo:Nat}{w:World}{own own':Nat->Lb}{a:Option Addr}{n:Nat}{f:Nat->Gr}(h:zaT lo w own a n f)(he:∀k,k<w.heap.size->(own k).1=1->own' k=own k):zaT lo w own' a n f:=by
 refine⟨fun hn=>?_⟩;obtain⟨b,C,ha,hlo,hb,hC,hs,hr⟩:=h.rows hn;refine⟨b,C,ha,hlo,(he b (gES hC).1 (by rw[hb])).trans hb,hC,hs,fun i hi=>?_⟩;obtain⟨a0,c0,hx⟩:=hr i hi;exact⟨a0,c0,hx.cell,hx.l0,fun g hg=>(he _ (hx.l0.lt g hg) (by rw[hx.o0 g hg])).trans (hx.o0 g hg)⟩
theorem zaT.low {lo lo':Nat}{w:World}{own:Nat->Lb}{a:Option Addr}{n:Nat}{f:Nat->Gr}(h:zaT lo w own a n f)(hl:lo'<=lo):zaT lo' w own a n f:=by
 refine⟨fun hn=>?_⟩;obtain⟨b,C,ha,hlo,hb,hC,hs,hr⟩:=h.rows hn;refine⟨b,C,ha,Nat.le_trans hl hlo,hb,hC,hs,fun i hi=>?_⟩;obtain⟨a0,c0,hx⟩:=hr i hi;exact⟨a0,c0,hx.cell,hx.l0.low hl,hx.o0⟩
theorem zaT.same {lo:Nat}{w:World}{own:Nat->Lb}{a:Option Addr}{n:Nat}{f f':Nat->Gr}(h:zaT lo w own a n f)(he:∀i,i<n->f' i=f i):zaT lo w own a n f':=by
 refine⟨fun hn=>?_⟩;obtain⟨b,C,ha,hlo,hb,hC,hs,hr⟩:=h.rows hn;refine⟨b,C,ha,hlo,hb,hC,hs,fun i hi=>?_⟩;rw[he i hi];exact hr i hi
def zaS (ms:List Gr)(i:Nat):Gr:=(ms[i]?).getD ⟨0,ByteArray.empty,ByteArray.empty,⟨[],ByteArray.empty,ByteArray.empty,ByteArray.empty⟩⟩
theorem zlA {ms:List Gr}{i:Nat}(h:i<ms.length):zaS ms i=ms[i]:=by unfold zaS;rw[List.getElem?_eq_getElem h];rfl
theorem zaT.at {lo:Nat}{w:World}{own:Nat->Lb}{a:Option Addr}{ms:List Gr}(h:zaT lo w own a ms.length (zaS ms))(hs:zgB ms)(hl:ms.length<=maxLen):zcf w a ms:=by
 refine⟨hl,fun hne=>?_⟩;obtain⟨b,C,ha,hlo,hb,hC,hsz,hr⟩:=h.rows (List.length_pos_iff.2 hne);refine⟨b,0,ha,(gES hC).1,fun i hi=>?_⟩;obtain⟨a0,c0,hx⟩:=hr i hi;rw[zlA hi]at hx;obtain⟨s0,s1⟩:=hs.small i hi;refine⟨a0,c0,s0,hx.l0.at s1,fun j hj=>?_⟩;rw[cell_of_block hC,Nat.zero_add];exact hx.cell j hj
def zhE (k:Int)(x:Gr):Gr:=⟨(k),(mkT (k+1)),(mkT (k+1+1)),⟨(zqI (k+1+1+1) x.r.vs.length),(mkT (k+1+1+1+x.r.vs.length)),(mkT (k+1+1+1+x.r.vs.length+1)),(mkT (k+1+1+1+x.r.vs.length+1+1))⟩⟩
def zqw (k:Int)(x:Gr):Int:=k+1+1+1+x.r.vs.length+1+1+1
def kGr (k:Int)(ms:List Gr):Nat->Int
 | 0=>k
 | i+1=>zqw (kGr k ms i) (zaS ms i)
def zjm (k:Int)(ms:List Gr)(i:Nat):Gr:=zhE (kGr k ms i) (zaS ms i)
def zk7 (k:Int)(ms:List Gr)(i j:Nat):Gr:=if j<i then zjm k ms j else zaS ms j
theorem znS (k:Int)(ms:List Gr)(i:Nat)(h:∀i,(zaS ms i).r.vs.length<=1048576):k+i<=kGr k ms i/\kGr k ms i<=k+i*1048583:=by
 induction i with
 | zero=>exact⟨by show k+0<=k;omega,by show k<=k+0*1048583;omega⟩
 | succ i ih=>
  have h1:kGr k ms (i+1)=zqw (kGr k ms i) (zaS ms i):=rfl;have h2:=h i;unfold zqw at h1;rw[h1];exact⟨by omega,by omega⟩
theorem zjg {ms:List Gr}(h:∀i (h:i<ms.length),ms[i].r.vs.length<=1048576)(i:Nat):(zaS ms i).r.vs.length<=1048576:=by
 by_cases hi:i<ms.length
 ·rw[zlA hi];exact h i hi
 ·unfold zaS;rw[List.getElem?_eq_none (by omega)];exact Nat.zero_le _
set_option maxRecDepth 20000 in
theorem zfP (lo:Nat)(own:Nat->Lb)(a:Option Addr)(cap:Nat)(ms:List Gr)(k:Int)(w:World)(h:zaT lo w own a ms.length (zaS ms))(hl:ms.length<=1048576)(hls:∀i,(zaS ms i).r.vs.length<=1048576)(hk:0<k)(hk2:k<5000000000000000000) :
 Calls Tryz.prog 46 #[.slice a ms.length cap,.int .i64 k] w fun e w'=>e=.returned (.int .i64 (kGr k ms ms.length))/\zaT lo w' own a ms.length (zjm k ms)/\Left (fun q=>(own q).1=1) w w':=by
 have HF:=hid h;have HL:=qE hl hls;have HK:=qE hk hk2;clear h hl hk hk2 hls;go_enter Tryz.func46,Tryz.ntmps46;go_wp2_with fail
 go_loopw [1,5] (fun kv iv wr=>∃i:Nat,i<=ms.length/\kv=.int .i64 (kGr k ms i)/\iv=.int .i64 i/\Hid (zaT lo wr own a ms.length (zk7 k ms i)/\Left (fun q=>(own q).1=1) w wr)) (fun _ iv _=>ms.length-(intOf iv).toNat)
 case atStart=>exact⟨0,Nat.zero_le _,rfl,rfl,HF.out.same (fun i _=>if_neg (Nat.not_lt_zero i)),Left.refl _ _⟩
 case round=>
  obtain⟨i,hile,rfl,rfl,HQ⟩:=hrel
  by_cases hlt:i<ms.length
  ·have hltI:(i:Int)<(ms.length:Int):=by omega
   have HKI:Hid (kGr k ms (i+1)=zqw (kGr k ms i) (zaS ms i)):=rfl;have hkb:=znS k ms i HL.out.2;have HMX:Hid (zjm k ms i=zhE (kGr k ms i) (zaS ms i)):=rfl
   generalize kGr k ms i=kk at hkb HKI HMX ⊢
   have HB:Hid (0<kk/\kk<7000000000000000000):=by have a:=HK.out;have b:=HL.out.1;exact⟨by omega,by omega⟩
   clear hkb;obtain⟨bo,C,rfl,hlo,hbo,hC,hsz,hr⟩:=HQ.out.1.rows (by omega);obtain⟨a0,c0,hx⟩:=hr i hlt;rw[show zk7 k ms i i=zaS ms i from if_neg (Nat.lt_irrefl i)]at hx;have HFX:=hid (HL.out.2 i)
   generalize zaS ms i=x at hx HKI HMX HFX
   have HS:=hid (show i*7+7<=C.size by omega);have HRR:=zbJ hlo hbo hC hsz;have M0:Hid (Mid own lo bo 121 C 7 i 1 wr wr #[.int .i64 x.no,.string x.to,.string x.gb,.slice a0 x.r.vs.length c0,.string x.r.kd,.string x.r.tm,.string x.r.px] none none a0 [] [] x.r.vs):=⟨qG.new hC hx.cell,rfl,Left.refl _ _,hbo,Or.inl ⟨rfl,rfl⟩,(fun _ h=>by cases h),Or.inl ⟨rfl,rfl⟩,(fun _ h=>by cases h),hx.l0,hx.o0⟩
   clear hr hx hlo hbo hC hsz;obtain⟨y1,hv1⟩:=M0.out.ex 0 (by omega);have hf1:=fun o=>M0.out.row.fz o
   have hg1:=M0.out.row.lt;rw[Nat.add_zero]at hv1;have M1:=hid (M0.out.set 0 (.int .i64 (kk)) (by omega) HS.out);rw[Nat.add_zero]at M1;clear M0;have hw_1:wrap64 (kk+1)=kk+1:=zy _ ⟨by have a:=HB.out;have b:=HFX.out;omega,by have a:=HB.out;have b:=HFX.out;omega⟩;go_wp2_with fail
   clear hv1 hf1 hg1;refine(yG _ _ (by have a:=HB.out;have b:=HFX.out;omega) (by have a:=HB.out;have b:=HFX.out;omega)).mono ?_;rintro e wm1⟨rfl,hb⟩;have M2:=hid (M1.out.below hb);clear hb M1;obtain⟨y2,hv2⟩:=M2.out.ex 1 (by omega);have hf2:=fun o=>M2.out.row.fz o
   have hg2:=M2.out.row.lt;have M3:=hid (M2.out.set 1 (.string (mkT (kk+1))) (by omega) HS.out);clear M2;have hw_3:wrap64 (kk+1+1)=kk+1+1:=zy _ ⟨by have a:=HB.out;have b:=HFX.out;omega,by have a:=HB.out;have b:=HFX.out;omega⟩;go_wp2_with fail
   clear hv2 hf2 hg2;refine(yG _ _ (by have a:=HB.out;have b:=HFX.out;omega) (by have a:=HB.out;have b:=HFX.out;omega)).mono ?_;rintro e wm2⟨rfl,hb⟩;have M4:=hid (M3.out.below hb);clear hb M3;obtain⟨y3,hv3⟩:=M4.out.ex 2 (by omega);have hf3:=fun o=>M4.out.row.fz o
   have hg3:=M4.out.row.lt;have M5:=hid (M4.out.set 2 (.string (mkT (kk+1+1))) (by omega) HS.out);clear M4;have hw_5:wrap64 (kk+1+1+1)=kk+1+1+1:=zy _ ⟨by have a:=HB.out;have b:=HFX.out;omega,by have a:=HB.out;have b:=HFX.out;omega⟩;have hg4:=M5.out.row.lt;have hv4:_=some (Value.slice a0 x.r.vs.length c0):=M5.out.row.cell 3 (by omega);go_wp2_with fail
   clear hv3 hf3 hg3 hv4 hg4;refine(zpZ lo c0 a0 x.r.vs _ _ M5.out.t2 (by have a:=HB.out;have b:=HFX.out;omega) (by have a:=HB.out;have b:=HFX.out;omega)).mono ?_;rintro e wm3⟨_,rfl,rfl,ho,hf⟩;have M6:=hid (M5.out.l2 ho hf);clear ho hf M5;go_wp2_with fail
   refine(yG _ _ (by have a:=HB.out;have b:=HFX.out;omega) (by have a:=HB.out;have b:=HFX.out;omega)).mono ?_;rintro e wm4⟨rfl,hb⟩;have M7:=hid (M6.out.below hb);clear hb M6;obtain⟨y5,hv5⟩:=M7.out.ex 4 (by omega);have hf5:=fun o=>M7.out.row.fz o
   have hg5:=M7.out.row.lt;have M8:=hid (M7.out.set 4 (.string (mkT (kk+1+1+1+x.r.vs.length))) (by omega) HS.out);clear M7;have hw_8:wrap64 (kk+1+1+1+x.r.vs.length+1)=kk+1+1+1+x.r.vs.length+1:=zy _ ⟨by have a:=HB.out;have b:=HFX.out;omega,by have a:=HB.out;have b:=HFX.out;omega⟩;go_wp2_with fail
   clear hv5 hf5 hg5;refine(yG _ _ (by have a:=HB.out;have b:=HFX.out;omega) (by have a:=HB.out;have b:=HFX.out;omega)).mono ?_;rintro e wm5⟨rfl,hb⟩;have M9:=hid (M8.out.below hb);clear hb M8;obtain⟨y6,hv6⟩:=M9.out.ex 5 (by omega);have hf6:=fun o=>M9.out.row.fz o
   have hg6:=M9.out.row.lt;have M10:=hid (M9.out.set 5 (.string (mkT (kk+1+1+1+x.r.vs.length+1))) (by omega) HS.out);clear M9;have hw_10:wrap64 (kk+1+1+1+x.r.vs.length+1+1)=kk+1+1+1+x.r.vs.length+1+1:=zy _ ⟨by have a:=HB.out;have b:=HFX.out;omega,by have a:=HB.out;have b:=HFX.out;omega⟩;go_wp2_with fail
   clear hv6 hf6 hg6;refine(yG _ _ (by have a:=HB.out;have b:=HFX.out;omega) (by have a:=HB.out;have b:=HFX.out;omega)).mono ?_;rintro e wm6⟨rfl,hb⟩;have M11:=hid (M10.out.below hb);clear hb M10;obtain⟨y7,hv7⟩:=M11.out.ex 6 (by omega);have hf7:=fun o=>M11.out.row.fz o
   have hg7:=M11.out.row.lt;have M12:=hid (M11.out.set 6 (.string (mkT (kk+1+1+1+x.r.vs.length+1+1))) (by omega) HS.out);clear M11;have hw_12:wrap64 (kk+1+1+1+x.r.vs.length+1+1+1)=kk+1+1+1+x.r.vs.length+1+1+1:=zy _ ⟨by have a:=HB.out;have b:=HFX.out;omega,by have a:=HB.out;have b:=HFX.out;omega⟩;go_wp2_with fail
   go_roundw
   case rel=>
    have hkn:kk+1+1+1+x.r.vs.length+1+1+1=kGr k ms (i+1):=HKI.out.symm;refine⟨i+1,by omega,by first|rw[hw_12,hkn]|rw[hkn],by rw[wrap_one (by have:=HL.out.1;omega)],⟨fun _=>?_⟩,HQ.out.2.trans (M12.out.left.wide ?_)⟩
    ·obtain⟨C',hC',hs',ho',hd'⟩:=M12.out.row.ex
     refine⟨bo,C',rfl,HRR.out.1,HRR.out.2.1,hC',by rw[hs'];exact HRR.out.2.2.2,fun z hz=>?_⟩
     by_cases ez:z=i
     ·subst ez
      rw[show zk7 k ms (z+1) z=zjm k ms z from if_pos (Nat.lt_succ_self z),HMX.out];refine⟨a0,c0,fun j hj=>(hd' j hj).trans ?_,M12.out.t2,M12.out.o2⟩;unfold zhE;simp only[zde];rfl
     ·rw[show zk7 k ms (i+1) z=zk7 k ms i z by unfold zk7;by_cases hz1:z<i <;> simp[hz1] <;> omega]
      obtain⟨b2,C2,h2a,_,_,h2C,_,h2r⟩:=HQ.out.1.rows (by omega)
      cases h2a
      obtain rfl:C2=C:=by have h3:=HRR.out.2.2.1;rw[h2C]at h3;cases h3;rfl
      obtain⟨d0,e0,hy⟩:=h2r z hz;exact⟨d0,e0,fun j hj=>(ho' _ (by omega)).trans (hy.cell j hj),hy.l0.left M12.out.left (fun g hg hh=>by simp only[hy.o0 g hg,Prod.mk.injEq]at hh;omega),hy.o0⟩
    ·rintro z (hz|hz|hz|hz) <;> rw[hz]
   case measure=>exact yP hlt (by have:=HL.out.1;omega)
  ·have e:i=ms.length:=by omega
   subst e;go_wp2_with fail
   go_ret;exact⟨rfl,HQ.out.1.same (fun j hj=>(if_pos hj).symm),HQ.out.2⟩
set_option maxRecDepth 20000 in
theorem zfQ (lo:Nat)(own:Nat->Lb)(a:Option Addr)(cap:Nat)(ms:List Gr)(k:Int)(w:World)(h:zaT lo w own a ms.length (zjm k ms))(hl:ms.length<=1048576)(hls:∀i,(zaS ms i).r.vs.length<=1048576)(hk:0<k)(hk2:k<5000000000000000000) :
 Calls Tryz.prog 50 #[.slice a ms.length cap,.int .i64 k] w fun e w'=>e=.returned (.int .i64 (kGr k ms ms.length))/\Below w.heap.size w w':=by
 have HF:=hid h;have HL:=qE hl hls;have HK:=qE hk hk2;clear h hl hk hk2 hls;go_enter Tryz.func50,Tryz.ntmps50;go_wp2_with fail
 go_loopw [1,5] (fun kv iv wr=>∃i:Nat,i<=ms.length/\kv=.int .i64 (kGr k ms i)/\iv=.int .i64 i/\Below w.heap.size w wr) (fun _ iv _=>ms.length-(intOf iv).toNat)
 case atStart=>exact⟨0,Nat.zero_le _,rfl,rfl,bRf _ _⟩
 case round=>
  obtain⟨i,hile,rfl,rfl,hB⟩:=hrel
  by_cases hlt:i<ms.length
  ·have hltI:(i:Int)<(ms.length:Int):=by omega
   have HKI:Hid (kGr k ms (i+1)=zqw (kGr k ms i) (zaS ms i)):=rfl;have hkb:=znS k ms i HL.out.2;have HMX:Hid (zjm k ms i=zhE (kGr k ms i) (zaS ms i)):=rfl
   generalize kGr k ms i=kk at hkb HKI HMX ⊢
   have HB:Hid (0<kk/\kk<7000000000000000000):=by have a:=HK.out;have b:=HL.out.1;exact⟨by omega,by omega⟩
   clear hkb;obtain⟨bo,C,rfl,hlo,hbo,hC,hsz,hr⟩:=HF.out.rows (by omega);obtain⟨a0,c0,hx⟩:=hr i hlt;rw[HMX.out]at hx;have HFX:=hid (HL.out.2 i)
   generalize zaS ms i=x at hx HKI HMX HFX
   have HR0:Hid (qG w bo 121 C 7 i #[.int .i64 (zhE kk x).no,.string (zhE kk x).to,.string (zhE kk x).gb,.slice a0 (zhE kk x).r.vs.length c0,.string (zhE kk x).r.kd,.string (zhE kk x).r.tm,.string (zhE kk x).r.px]):=qG.new hC hx.cell;have HT0:Hid (ql w a0 (zhE kk x).r.vs):=hx.l0.at (by show(zqI _ _).length<=_;rw[zde];have b:=HFX.out;unfold maxLen;omega);have HR1:Hid (qG wr bo 121 C 7 i #[.int .i64 (kk),.string (mkT (kk+1)),.string (mkT (kk+1+1)),.slice a0 x.r.vs.length c0,.string (mkT (kk+1+1+1+x.r.vs.length)),.string (mkT (kk+1+1+1+x.r.vs.length+1)),.string (mkT (kk+1+1+1+x.r.vs.length+1+1))]):=by have hh:=(HR0.out).left (Left.of_below (fun _=>False) (hB.mono (Nat.le_refl _))) (fun h=>h);unfold zhE at hh;simp only[zde]at hh;exact hh
   have HB0:=hid hB;clear hr hx hlo hbo hC hsz hB HR0;have hv_0:=(HR1.out).cell 0 (by omega);rw[Nat.add_zero]at hv_0;have hlt_0:=(HR1.out).lt;have hne_0:((kk) != (kk))=false:=by simp
   have hw_8:wrap64 (kk+1)=kk+1:=zy _ ⟨by have a:=HB.out;have b:=HFX.out;omega,by have a:=HB.out;have b:=HFX.out;omega⟩;have hv1:wr.drew.cell? ⟨bo,i*7+1,none⟩=some (.string (mkT (kk+1))):=by have hh:=(HR1.out).cell 1 (by omega);exact hh
   have hlt1:bo<wr.drew.heap.size:=(HR1.out).lt;have hBd:Below wr.drew.heap.size wr wr.drew:=(bRf _ _).drew;go_wp2_with fail
   clear hv_0 hlt_0 hne_0
   go_region_held3 (fun w'=>w'.cell? ⟨bo,i*7+1,none⟩=some (.string (mkT (kk+1)))) (exact hv1) (first|(go_at_call 91;refine(yG _ _ (by have a:=HB.out;have b:=HFX.out;omega) (by have a:=HB.out;have b:=HFX.out;omega)).mono ?_;rintro e wm1⟨rfl,hb⟩;have hv1:=(hb.cell (p:=⟨bo,i*7+1,none⟩) hlt1).trans hv1;have hBd:=hBd.trans (hb.mono hBd.size);clear hb))
   all_goals have HR2:=hid ((HR1.out).below hBd)
   all_goals have HB1:=hid (HB0.out.trans (hBd.mono HB0.out.size))
   all_goals clear hBd hlt1 HR1 HB0
   have hw_18:wrap64 (kk+1+1)=kk+1+1:=zy _ ⟨by have a:=HB.out;have b:=HFX.out;omega,by have a:=HB.out;have b:=HFX.out;omega⟩;have hv2:wm1.drew.cell? ⟨bo,i*7+2,none⟩=some (.string (mkT (kk+1+1))):=by have hh:=(HR2.out).cell 2 (by omega);exact hh
   have hlt2:bo<wm1.drew.heap.size:=(HR2.out).lt;have hBd:Below wm1.drew.heap.size wm1 wm1.drew:=(bRf _ _).drew;go_wp2_with fail
   clear hv1
   go_region_held3 (fun w'=>w'.cell? ⟨bo,i*7+2,none⟩=some (.string (mkT (kk+1+1)))) (exact hv2) (first|(go_at_call 91;refine(yG _ _ (by have a:=HB.out;have b:=HFX.out;omega) (by have a:=HB.out;have b:=HFX.out;omega)).mono ?_;rintro e wm2⟨rfl,hb⟩;have hv2:=(hb.cell (p:=⟨bo,i*7+2,none⟩) hlt2).trans hv2;have hBd:=hBd.trans (hb.mono hBd.size);clear hb))
   all_goals have HR3:=hid ((HR2.out).below hBd)
   all_goals have HB2:=hid (HB1.out.trans (hBd.mono HB1.out.size))
   all_goals clear hBd hlt2 HR2 HB1
   have hw_28:wrap64 (kk+1+1+1)=kk+1+1+1:=zy _ ⟨by have a:=HB.out;have b:=HFX.out;omega,by have a:=HB.out;have b:=HFX.out;omega⟩;have hsl0:=(HR3.out).cell 3 (by omega);have hltl0:=(HR3.out).lt;go_wp2_with fail
   clear hv2 hsl0 hltl0;refine(zpK a0 c0 x.r.vs.length _ _ (HT0.out.mono HB2.out) (by have b:=HFX.out;omega) (by have a:=HB.out;have b:=HFX.out;omega) (by have a:=HB.out;have b:=HFX.out;omega)).mono ?_;rintro e wm3⟨kq0,rfl,hke,hb⟩;obtain rfl:=hke;have HR4:=hid ((HR3.out).below hb);have HB3:=hid (HB2.out.trans (hb.mono HB2.out.size));clear hb HR3 HB2;have hng0:decide (kk+1+1+1+x.r.vs.length<0)=false:=by simp only[decide_eq_false_iff_not];have a:=HB.out;have b:=HFX.out;omega
   have hv4:wm3.drew.cell? ⟨bo,i*7+4,none⟩=some (.string (mkT (kk+1+1+1+x.r.vs.length))):=by have hh:=(HR4.out).cell 4 (by omega);exact hh
   have hlt4:bo<wm3.drew.heap.size:=(HR4.out).lt;have hBd:Below wm3.drew.heap.size wm3 wm3.drew:=(bRf _ _).drew;go_wp2_with fail
   clear hng0
   go_region_held3 (fun w'=>w'.cell? ⟨bo,i*7+4,none⟩=some (.string (mkT (kk+1+1+1+x.r.vs.length)))) (exact hv4) (first|(go_at_call 91;refine(yG _ _ (by have a:=HB.out;have b:=HFX.out;omega) (by have a:=HB.out;have b:=HFX.out;omega)).mono ?_;rintro e wm4⟨rfl,hb⟩;have hv4:=(hb.cell (p:=⟨bo,i*7+4,none⟩) hlt4).trans hv4;have hBd:=hBd.trans (hb.mono hBd.size);clear hb))
   all_goals have HR5:=hid ((HR4.out).below hBd)
   all_goals have HB4:=hid (HB3.out.trans (hBd.mono HB3.out.size))
   all_goals clear hBd hlt4 HR4 HB3
   have hw_49:wrap64 (kk+1+1+1+x.r.vs.length+1)=kk+1+1+1+x.r.vs.length+1:=zy _ ⟨by have a:=HB.out;have b:=HFX.out;omega,by have a:=HB.out;have b:=HFX.out;omega⟩;have hv5:wm4.drew.cell? ⟨bo,i*7+5,none⟩=some (.string (mkT (kk+1+1+1+x.r.vs.length+1))):=by have hh:=(HR5.out).cell 5 (by omega);exact hh
   have hlt5:bo<wm4.drew.heap.size:=(HR5.out).lt;have hBd:Below wm4.drew.heap.size wm4 wm4.drew:=(bRf _ _).drew;go_wp2_with fail
   clear hv4
   go_region_held3 (fun w'=>w'.cell? ⟨bo,i*7+5,none⟩=some (.string (mkT (kk+1+1+1+x.r.vs.length+1)))) (exact hv5) (first|(go_at_call 91;refine(yG _ _ (by have a:=HB.out;have b:=HFX.out;omega) (by have a:=HB.out;have b:=HFX.out;omega)).mono ?_;rintro e wm5⟨rfl,hb⟩;have hv5:=(hb.cell (p:=⟨bo,i*7+5,none⟩) hlt5).trans hv5;have hBd:=hBd.trans (hb.mono hBd.size);clear hb))
   all_goals have HR6:=hid ((HR5.out).below hBd)
   all_goals have HB5:=hid (HB4.out.trans (hBd.mono HB4.out.size))
   all_goals clear hBd hlt5 HR5 HB4
   have hw_59:wrap64 (kk+1+1+1+x.r.vs.length+1+1)=kk+1+1+1+x.r.vs.length+1+1:=zy _ ⟨by have a:=HB.out;have b:=HFX.out;omega,by have a:=HB.out;have b:=HFX.out;omega⟩;have hv6:wm5.drew.cell? ⟨bo,i*7+6,none⟩=some (.string (mkT (kk+1+1+1+x.r.vs.length+1+1))):=by have hh:=(HR6.out).cell 6 (by omega);exact hh
   have hlt6:bo<wm5.drew.heap.size:=(HR6.out).lt;have hBd:Below wm5.drew.heap.size wm5 wm5.drew:=(bRf _ _).drew;go_wp2_with fail
   clear hv5
   go_region_held3 (fun w'=>w'.cell? ⟨bo,i*7+6,none⟩=some (.string (mkT (kk+1+1+1+x.r.vs.length+1+1)))) (exact hv6) (first|(go_at_call 91;refine(yG _ _ (by have a:=HB.out;have b:=HFX.out;omega) (by have a:=HB.out;have b:=HFX.out;omega)).mono ?_;rintro e wm6⟨rfl,hb⟩;have hv6:=(hb.cell (p:=⟨bo,i*7+6,none⟩) hlt6).trans hv6;have hBd:=hBd.trans (hb.mono hBd.size);clear hb))
   all_goals have HR7:=hid ((HR6.out).below hBd)
   all_goals have HB6:=hid (HB5.out.trans (hBd.mono HB5.out.size))
   all_goals clear hBd hlt6 HR6 HB5
   have hw_69:wrap64 (kk+1+1+1+x.r.vs.length+1+1+1)=kk+1+1+1+x.r.vs.length+1+1+1:=zy _ ⟨by have a:=HB.out;have b:=HFX.out;omega,by have a:=HB.out;have b:=HFX.out;omega⟩;go_wp2_with fail
   have hkn:kk+1+1+1+x.r.vs.length+1+1+1=kGr k ms (i+1):=by rw[HKI.out];rfl
   exact⟨⟨i+1,by omega,by first|rw[hw_69,hkn]|rw[hkn],by rw[wrap_one (by have:=HL.out.1;omega)],HB6.out⟩,yP hlt (by have:=HL.out.1;omega)⟩
  ·have e:i=ms.length:=by omega
   subst e;go_wp2_with fail
   go_ret;exact⟨rfl,hB⟩
structure LgE (c:Nat->Option Value)(x:Lg):Prop where
 cell:∀j,j<4->c j=(#[.string x.tm,.string x.rs,.int .i64 x.mo,.int .i64 x.fr]:Array Value)[j]?
structure jy (lo:Nat)(w:World)(own:Nat->Lb)(a:Option Addr)(n:Nat)(f:Nat->Lg):Prop where
 rows:0<n->∃b C,a=some ⟨b,0,none⟩/\lo<=b/\own b=(2,0,0)/\w.heap[b]?=some (.cells C 124)/\n*4<=C.size/\∀i,i<n->LgE (fun j=>C[i*4+j]?) (f i)
theorem jy.left {S:Nat->Prop}{lo:Nat}{w w':World}{own:Nat->Lb}{a:Option Addr}{n:Nat}{f:Nat->Lg}(h:jy lo w own a n f)(hl:Left S w w')(hS:∀k,(own k).1=2->¬S k):jy lo w' own a n f:=by
 refine⟨fun hn=>?_⟩;obtain⟨b,C,ha,hlo,hb,hC,hs,hr⟩:=h.rows hn;refine⟨b,C,ha,hlo,hb,(hl.out b (gES hC).1 (hS b (by rw[hb]))).trans hC,hs,hr⟩
theorem jy.mono {lo:Nat}{w w':World}{own:Nat->Lb}{a:Option Addr}{n:Nat}{f:Nat->Lg}(h:jy lo w own a n f)(hb:Below w.heap.size w w'):jy lo w' own a n f:=h.left (Left.of_below (fun _=>False) hb) (fun _ _ h=>h)
theorem jy.own {lo:Nat}{w:World}{own own':Nat->Lb}{a:Option Addr}{n:Nat}{f:Nat->Lg}(h:jy lo w own a n f)(he:∀k,k<w.heap.size->(own k).1=2->own' k=own k):jy lo w own' a n f:=by
 refine⟨fun hn=>?_⟩;obtain⟨b,C,ha,hlo,hb,hC,hs,hr⟩:=h.rows hn;refine⟨b,C,ha,hlo,(he b (gES hC).1 (by rw[hb])).trans hb,hC,hs,hr⟩
theorem jy.low {lo lo':Nat}{w:World}{own:Nat->Lb}{a:Option Addr}{n:Nat}{f:Nat->Lg}(h:jy lo w own a n f)(hl:lo'<=lo):jy lo' w own a n f:=by
 refine⟨fun hn=>?_⟩;obtain⟨b,C,ha,hlo,hb,hC,hs,hr⟩:=h.rows hn;refine⟨b,C,ha,Nat.le_trans hl hlo,hb,hC,hs,hr⟩
theorem jy.same {lo:Nat}{w:World}{own:Nat->Lb}{a:Option Addr}{n:Nat}{f f':Nat->Lg}(h:jy lo w own a n f)(he:∀i,i<n->f' i=f i):jy lo w own a n f':=by
 refine⟨fun hn=>?_⟩;obtain⟨b,C,ha,hlo,hb,hC,hs,hr⟩:=h.rows hn;refine⟨b,C,ha,hlo,hb,hC,hs,fun i hi=>?_⟩;rw[he i hi];exact hr i hi
def zab (ms:List Lg)(i:Nat):Lg:=(ms[i]?).getD ⟨ByteArray.empty,ByteArray.empty,0,0⟩
theorem zfi {ms:List Lg}{i:Nat}(h:i<ms.length):zab ms i=ms[i]:=by unfold zab;rw[List.getElem?_eq_getElem h];rfl
theorem jy.at {lo:Nat}{w:World}{own:Nat->Lb}{a:Option Addr}{ms:List Lg}(h:jy lo w own a ms.length (zab ms))(hs:∀i (h:i<ms.length),ms[i].Small)(hl:ms.length<=maxLen):zbG w a ms:=by
 refine⟨hl,hs,fun hne=>?_⟩;obtain⟨b,C,ha,hlo,hb,hC,hsz,hr⟩:=h.rows (List.length_pos_iff.2 hne);refine⟨b,0,ha,(gES hC).1,fun i hi j hj=>?_⟩;have hx:=hr i hi;rw[zfi hi]at hx;rw[cell_of_block hC,Nat.zero_add];exact hx.cell j hj
def znF (k:Int)(_x:Lg):Lg:=⟨(mkT (k)),(mkT (k+1)),(k+1+1),(k+1+1+1)⟩
def zqK (k:Int)(_x:Lg):Int:=k+1+1+1+1
def kLg (k:Int)(ms:List Lg):Nat->Int
 | 0=>k
 | i+1=>zqK (kLg k ms i) (zab ms i)
def zi8 (k:Int)(ms:List Lg)(i:Nat):Lg:=znF (kLg k ms i) (zab ms i)
def zln (k:Int)(ms:List Lg)(i j:Nat):Lg:=if j<i then zi8 k ms j else zab ms j
theorem znZ (k:Int)(ms:List Lg)(i:Nat):k+i<=kLg k ms i/\kLg k ms i<=k+i*4:=by
 induction i with
 | zero=>exact⟨by show k+0<=k;omega,by show k<=k+0*4;omega⟩
 | succ i ih=>
  have h1:kLg k ms (i+1)=zqK (kLg k ms i) (zab ms i):=rfl;unfold zqK at h1;rw[h1];exact⟨by omega,by omega⟩
set_option maxRecDepth 20000 in
theorem zfk (lo:Nat)(own:Nat->Lb)(a:Option Addr)(cap:Nat)(ms:List Lg)(k:Int)(w:World)(h:jy lo w own a ms.length (zab ms))(hl:ms.length<=1048576)(hk:0<k)(hk2:k<5000000000000000000) :
 Calls Tryz.prog 47 #[.slice a ms.length cap,.int .i64 k] w fun e w'=>e=.returned (.int .i64 (kLg k ms ms.length))/\jy lo w' own a ms.length (zi8 k ms)/\Left (fun q=>(own q).1=2) w w':=by
 have HF:=hid h;have HL:=hid hl;have HK:=qE hk hk2;clear h hl hk hk2;go_enter Tryz.func47,Tryz.ntmps47;go_wp2_with fail
 go_loopw [1,5] (fun kv iv wr=>∃i:Nat,i<=ms.length/\kv=.int .i64 (kLg k ms i)/\iv=.int .i64 i/\Hid (jy lo wr own a ms.length (zln k ms i)/\Left (fun q=>(own q).1=2) w wr)) (fun _ iv _=>ms.length-(intOf iv).toNat)
 case atStart=>exact⟨0,Nat.zero_le _,rfl,rfl,HF.out.same (fun i _=>if_neg (Nat.not_lt_zero i)),Left.refl _ _⟩
 case round=>
  obtain⟨i,hile,rfl,rfl,HQ⟩:=hrel
  by_cases hlt:i<ms.length
  ·have hltI:(i:Int)<(ms.length:Int):=by omega
   have HKI:Hid (kLg k ms (i+1)=zqK (kLg k ms i) (zab ms i)):=rfl;have hkb:=znZ k ms i;have HMX:Hid (zi8 k ms i=znF (kLg k ms i) (zab ms i)):=rfl
   generalize kLg k ms i=kk at hkb HKI HMX ⊢
   have HB:Hid (0<kk/\kk<7000000000000000000):=by have a:=HK.out;have b:=HL.out;exact⟨by omega,by omega⟩
   clear hkb;obtain⟨bo,C,rfl,hlo,hbo,hC,hsz,hr⟩:=HQ.out.1.rows (by omega);have hx:=hr i hlt;rw[show zln k ms i i=zab ms i from if_neg (Nat.lt_irrefl i)]at hx
   generalize zab ms i=x at hx HKI HMX
   have HS:=hid (show i*4+4<=C.size by omega);have HRR:=zbJ hlo hbo hC hsz;have M0:Hid (Mid own lo bo 124 C 4 i 2 wr wr #[.string x.tm,.string x.rs,.int .i64 x.mo,.int .i64 x.fr] none none none [] [] []):=⟨qG.new hC hx.cell,rfl,Left.refl _ _,hbo,Or.inl ⟨rfl,rfl⟩,(fun _ h=>by cases h),Or.inl ⟨rfl,rfl⟩,(fun _ h=>by cases h),Or.inl ⟨rfl,rfl⟩,(fun _ h=>by cases h)⟩
   clear hr hx hlo hbo hC hsz;go_wp2_with fail
   refine(yG _ _ (by have a:=HB.out;omega) (by have a:=HB.out;omega)).mono ?_;rintro e wm1⟨rfl,hb⟩;have M1:=hid (M0.out.below hb);clear hb M0;obtain⟨y1,hv1⟩:=M1.out.ex 0 (by omega);have hf1:=fun o=>M1.out.row.fz o
   have hg1:=M1.out.row.lt;rw[Nat.add_zero]at hv1;have M2:=hid (M1.out.set 0 (.string (mkT (kk))) (by omega) HS.out);rw[Nat.add_zero]at M2;clear M1;have hw_2:wrap64 (kk+1)=kk+1:=zy _ ⟨by have a:=HB.out;omega,by have a:=HB.out;omega⟩;go_wp2_with fail
   clear hv1 hf1 hg1;refine(yG _ _ (by have a:=HB.out;omega) (by have a:=HB.out;omega)).mono ?_;rintro e wm2⟨rfl,hb⟩;have M3:=hid (M2.out.below hb);clear hb M2;obtain⟨y2,hv2⟩:=M3.out.ex 1 (by omega);have hf2:=fun o=>M3.out.row.fz o
   have hg2:=M3.out.row.lt;have M4:=hid (M3.out.set 1 (.string (mkT (kk+1))) (by omega) HS.out);clear M3;have hw_4:wrap64 (kk+1+1)=kk+1+1:=zy _ ⟨by have a:=HB.out;omega,by have a:=HB.out;omega⟩;obtain⟨y3,hv3⟩:=M4.out.ex 2 (by omega);have hf3:=fun o=>M4.out.row.fz o
   have hg3:=M4.out.row.lt;have M5:=hid (M4.out.set 2 (.int .i64 (kk+1+1)) (by omega) HS.out);clear M4;have hw_5:wrap64 (kk+1+1+1)=kk+1+1+1:=zy _ ⟨by have a:=HB.out;omega,by have a:=HB.out;omega⟩;obtain⟨y4,hv4⟩:=M5.out.ex 3 (by omega);have hf4:=fun o=>M5.out.row.fz o
   have hg4:=M5.out.row.lt;have M6:=hid (M5.out.set 3 (.int .i64 (kk+1+1+1)) (by omega) HS.out);clear M5;have hw_6:wrap64 (kk+1+1+1+1)=kk+1+1+1+1:=zy _ ⟨by have a:=HB.out;omega,by have a:=HB.out;omega⟩;go_wp2_with fail
   go_roundw
   case rel=>
    have hkn:kk+1+1+1+1=kLg k ms (i+1):=HKI.out.symm;refine⟨i+1,by omega,by first|rw[hw_6,hkn]|rw[hkn],by rw[wrap_one (by have:=HL.out;omega)],⟨fun _=>?_⟩,HQ.out.2.trans (M6.out.left.wide ?_)⟩
    ·obtain⟨C',hC',hs',ho',hd'⟩:=M6.out.row.ex
     refine⟨bo,C',rfl,HRR.out.1,HRR.out.2.1,hC',by rw[hs'];exact HRR.out.2.2.2,fun z hz=>?_⟩
     by_cases ez:z=i
     ·subst ez
      rw[show zln k ms (z+1) z=zi8 k ms z from if_pos (Nat.lt_succ_self z),HMX.out];exact⟨fun j hj=>hd' j hj⟩
     ·rw[show zln k ms (i+1) z=zln k ms i z by unfold zln;by_cases hz1:z<i <;> simp[hz1] <;> omega]
      obtain⟨b2,C2,h2a,_,_,h2C,_,h2r⟩:=HQ.out.1.rows (by omega)
      cases h2a
      obtain rfl:C2=C:=by have h3:=HRR.out.2.2.1;rw[h2C]at h3;cases h3;rfl
      exact⟨fun j hj=>(ho' _ (by omega)).trans ((h2r z hz).cell j hj)⟩
    ·rintro z (hz|hz|hz|hz) <;> rw[hz]
   case measure=>exact yP hlt (by have:=HL.out;omega)
  ·have e:i=ms.length:=by omega
   subst e;go_wp2_with fail
   go_ret;exact⟨rfl,HQ.out.1.same (fun j hj=>(if_pos hj).symm),HQ.out.2⟩
set_option maxRecDepth 20000 in
theorem zfn (lo:Nat)(own:Nat->Lb)(a:Option Addr)(cap:Nat)(ms:List Lg)(k:Int)(w:World)(h:jy lo w own a ms.length (zi8 k ms))(hl:ms.length<=1048576)(hk:0<k)(hk2:k<5000000000000000000) :
 Calls Tryz.prog 51 #[.slice a ms.length cap,.int .i64 k] w fun e w'=>e=.returned (.int .i64 (kLg k ms ms.length))/\Below w.heap.size w w':=by
 have HF:=hid h;have HL:=hid hl;have HK:=qE hk hk2;clear h hl hk hk2;go_enter Tryz.func51,Tryz.ntmps51;go_wp2_with fail
 go_loopw [1,5] (fun kv iv wr=>∃i:Nat,i<=ms.length/\kv=.int .i64 (kLg k ms i)/\iv=.int .i64 i/\Below w.heap.size w wr) (fun _ iv _=>ms.length-(intOf iv).toNat)
 case atStart=>exact⟨0,Nat.zero_le _,rfl,rfl,bRf _ _⟩
 case round=>
  obtain⟨i,hile,rfl,rfl,hB⟩:=hrel
  by_cases hlt:i<ms.length
  ·have hltI:(i:Int)<(ms.length:Int):=by omega
   have HKI:Hid (kLg k ms (i+1)=zqK (kLg k ms i) (zab ms i)):=rfl;have hkb:=znZ k ms i;have HMX:Hid (zi8 k ms i=znF (kLg k ms i) (zab ms i)):=rfl
   generalize kLg k ms i=kk at hkb HKI HMX ⊢
   have HB:Hid (0<kk/\kk<7000000000000000000):=by have a:=HK.out;have b:=HL.out;exact⟨by omega,by omega⟩
   clear hkb;obtain⟨bo,C,rfl,hlo,hbo,hC,hsz,hr⟩:=HF.out.rows (by omega);have hx:=hr i hlt;rw[HMX.out]at hx
   generalize zab ms i=x at hx HKI HMX
   have HR0:Hid (qG w bo 124 C 4 i #[.string (znF kk x).tm,.string (znF kk x).rs,.int .i64 (znF kk x).mo,.int .i64 (znF kk x).fr]):=qG.new hC hx.cell;have HR1:Hid (qG wr bo 124 C 4 i #[.string (mkT (kk)),.string (mkT (kk+1)),.int .i64 (kk+1+1),.int .i64 (kk+1+1+1)]):=by have hh:=(HR0.out).left (Left.of_below (fun _=>False) (hB.mono (Nat.le_refl _))) (fun h=>h);unfold znF at hh;exact hh
   have HB0:=hid hB;clear hr hx hlo hbo hC hsz hB HR0;have hv1:wr.drew.cell? ⟨bo,i*4,none⟩=some (.string (mkT (kk))):=by have hh:=(HR1.out).cell 0 (by omega);rw[Nat.add_zero]at hh;exact hh
   have hlt1:bo<wr.drew.heap.size:=(HR1.out).lt;have hBd:Below wr.drew.heap.size wr wr.drew:=(bRf _ _).drew;go_wp2_with fail
   go_region_held3 (fun w'=>w'.cell? ⟨bo,i*4,none⟩=some (.string (mkT (kk)))) (exact hv1) (first|(go_at_call 91;refine(yG _ _ (by have a:=HB.out;omega) (by have a:=HB.out;omega)).mono ?_;rintro e wm1⟨rfl,hb⟩;have hv1:=(hb.cell (p:=⟨bo,i*4,none⟩) hlt1).trans hv1;have hBd:=hBd.trans (hb.mono hBd.size);clear hb))
   all_goals have HR2:=hid ((HR1.out).below hBd)
   all_goals have HB1:=hid (HB0.out.trans (hBd.mono HB0.out.size))
   all_goals clear hBd hlt1 HR1 HB0
   have hw_11:wrap64 (kk+1)=kk+1:=zy _ ⟨by have a:=HB.out;omega,by have a:=HB.out;omega⟩;have hv2:wm1.drew.cell? ⟨bo,i*4+1,none⟩=some (.string (mkT (kk+1))):=by have hh:=(HR2.out).cell 1 (by omega);exact hh
   have hlt2:bo<wm1.drew.heap.size:=(HR2.out).lt;have hBd:Below wm1.drew.heap.size wm1 wm1.drew:=(bRf _ _).drew;go_wp2_with fail
   clear hv1
   go_region_held3 (fun w'=>w'.cell? ⟨bo,i*4+1,none⟩=some (.string (mkT (kk+1)))) (exact hv2) (first|(go_at_call 91;refine(yG _ _ (by have a:=HB.out;omega) (by have a:=HB.out;omega)).mono ?_;rintro e wm2⟨rfl,hb⟩;have hv2:=(hb.cell (p:=⟨bo,i*4+1,none⟩) hlt2).trans hv2;have hBd:=hBd.trans (hb.mono hBd.size);clear hb))
   all_goals have HR3:=hid ((HR2.out).below hBd)
   all_goals have HB2:=hid (HB1.out.trans (hBd.mono HB1.out.size))
   all_goals clear hBd hlt2 HR2 HB1
   have hw_21:wrap64 (kk+1+1)=kk+1+1:=zy _ ⟨by have a:=HB.out;omega,by have a:=HB.out;omega⟩;have hv_2:=(HR3.out).cell 2 (by omega);have hlt_2:=(HR3.out).lt;have hne_2:((kk+1+1) != (kk+1+1))=false:=by simp
   have hw_25:wrap64 (kk+1+1+1)=kk+1+1+1:=zy _ ⟨by have a:=HB.out;omega,by have a:=HB.out;omega⟩;have hv_3:=(HR3.out).cell 3 (by omega);have hlt_3:=(HR3.out).lt;have hne_3:((kk+1+1+1) != (kk+1+1+1))=false:=by simp
   have hw_29:wrap64 (kk+1+1+1+1)=kk+1+1+1+1:=zy _ ⟨by have a:=HB.out;omega,by have a:=HB.out;omega⟩;go_wp2_with fail
   have hkn:kk+1+1+1+1=kLg k ms (i+1):=by rw[HKI.out];rfl
   exact⟨⟨i+1,by omega,by first|rw[hw_29,hkn]|rw[hkn],by rw[wrap_one (by have:=HL.out;omega)],HB2.out⟩,yP hlt (by have:=HL.out;omega)⟩
  ·have e:i=ms.length:=by omega
   subst e;go_wp2_with fail
   go_ret;exact⟨rfl,hB⟩
structure PuE (c:Nat->Option Value)(x:Pu):Prop where
 cell:∀j,j<5->c j=(#[.string x.dr,.string x.tm,.string x.rs,.int .i64 x.am,.int .i64 x.un]:Array Value)[j]?
structure zcB (lo:Nat)(w:World)(own:Nat->Lb)(a:Option Addr)(n:Nat)(f:Nat->Pu):Prop where
 rows:0<n->∃b C,a=some ⟨b,0,none⟩/\lo<=b/\own b=(3,0,0)/\w.heap[b]?=some (.cells C 65)/\n*5<=C.size/\∀i,i<n->PuE (fun j=>C[i*5+j]?) (f i)
theorem zcB.left {S:Nat->Prop}{lo:Nat}{w w':World}{own:Nat->Lb}{a:Option Addr}{n:Nat}{f:Nat->Pu}(h:zcB lo w own a n f)(hl:Left S w w')(hS:∀k,(own k).1=3->¬S k):zcB lo w' own a n f:=by
 refine⟨fun hn=>?_⟩;obtain⟨b,C,ha,hlo,hb,hC,hs,hr⟩:=h.rows hn;refine⟨b,C,ha,hlo,hb,(hl.out b (gES hC).1 (hS b (by rw[hb]))).trans hC,hs,hr⟩
theorem zcB.mono {lo:Nat}{w w':World}{own:Nat->Lb}{a:Option Addr}{n:Nat}{f:Nat->Pu}(h:zcB lo w own a n f)(hb:Below w.heap.size w w'):zcB lo w' own a n f:=h.left (Left.of_below (fun _=>False) hb) (fun _ _ h=>h)
theorem zcB.own {lo:Nat}{w:World}{own own':Nat->Lb}{a:Option Addr}{n:Nat}{f:Nat->Pu}(h:zcB lo w own a n f)(he:∀k,k<w.heap.size->(own k).1=3->own' k=own k):zcB lo w own' a n f:=by
 refine⟨fun hn=>?_⟩;obtain⟨b,C,ha,hlo,hb,hC,hs,hr⟩:=h.rows hn;refine⟨b,C,ha,hlo,(he b (gES hC).1 (by rw[hb])).trans hb,hC,hs,hr⟩
theorem zcB.low {lo lo':Nat}{w:World}{own:Nat->Lb}{a:Option Addr}{n:Nat}{f:Nat->Pu}(h:zcB lo w own a n f)(hl:lo'<=lo):zcB lo' w own a n f:=by
 refine⟨fun hn=>?_⟩;obtain⟨b,C,ha,hlo,hb,hC,hs,hr⟩:=h.rows hn;refine⟨b,C,ha,Nat.le_trans hl hlo,hb,hC,hs,hr⟩
theorem zcB.same {lo:Nat}{w:World}{own:Nat->Lb}{a:Option Addr}{n:Nat}{f f':Nat->Pu}(h:zcB lo w own a n f)(he:∀i,i<n->f' i=f i):zcB lo w own a n f':=by
 refine⟨fun hn=>?_⟩;obtain⟨b,C,ha,hlo,hb,hC,hs,hr⟩:=h.rows hn;refine⟨b,C,ha,hlo,hb,hC,hs,fun i hi=>?_⟩;rw[he i hi];exact hr i hi
def zez (ms:List Pu)(i:Nat):Pu:=(ms[i]?).getD ⟨ByteArray.empty,ByteArray.empty,ByteArray.empty,0,0⟩
theorem zo6 {ms:List Pu}{i:Nat}(h:i<ms.length):zez ms i=ms[i]:=by unfold zez;rw[List.getElem?_eq_getElem h];rfl
theorem zcB.at {lo:Nat}{w:World}{own:Nat->Lb}{a:Option Addr}{ms:List Pu}(h:zcB lo w own a ms.length (zez ms))(hs:∀i (h:i<ms.length),ms[i].Small)(hl:ms.length<=maxLen):zcb w a ms:=by
 refine⟨hl,hs,fun hne=>?_⟩;obtain⟨b,C,ha,hlo,hb,hC,hsz,hr⟩:=h.rows (List.length_pos_iff.2 hne);refine⟨b,0,ha,(gES hC).1,fun i hi j hj=>?_⟩;have hx:=hr i hi;rw[zo6 hi]at hx;rw[cell_of_block hC,Nat.zero_add];exact hx.cell j hj
def zlG (k:Int)(_x:Pu):Pu:=⟨(mkT (k)),(mkT (k+1)),(mkT (k+1+1)),(k+1+1+1),(k+1+1+1+1)⟩
def zp3 (k:Int)(_x:Pu):Int:=k+1+1+1+1+1
def kPu (k:Int)(ms:List Pu):Nat->Int
 | 0=>k
 | i+1=>zp3 (kPu k ms i) (zez ms i)
def zjt (k:Int)(ms:List Pu)(i:Nat):Pu:=zlG (kPu k ms i) (zez ms i)
def zk4 (k:Int)(ms:List Pu)(i j:Nat):Pu:=if j<i then zjt k ms j else zez ms j
theorem zoA (k:Int)(ms:List Pu)(i:Nat):k+i<=kPu k ms i/\kPu k ms i<=k+i*5:=by
 induction i with
 | zero=>exact⟨by show k+0<=k;omega,by show k<=k+0*5;omega⟩
 | succ i ih=>
  have h1:kPu k ms (i+1)=zp3 (kPu k ms i) (zez ms i):=rfl;unfold zp3 at h1;rw[h1];exact⟨by omega,by omega⟩
set_option maxRecDepth 20000 in
theorem zfU (lo:Nat)(own:Nat->Lb)(a:Option Addr)(cap:Nat)(ms:List Pu)(k:Int)(w:World)(h:zcB lo w own a ms.length (zez ms))(hl:ms.length<=1048576)(hk:0<k)(hk2:k<5000000000000000000) :
 Calls Tryz.prog 48 #[.slice a ms.length cap,.int .i64 k] w fun e w'=>e=.returned (.int .i64 (kPu k ms ms.length))/\zcB lo w' own a ms.length (zjt k ms)/\Left (fun q=>(own q).1=3) w w':=by
 have HF:=hid h;have HL:=hid hl;have HK:=qE hk hk2;clear h hl hk hk2;go_enter Tryz.func48,Tryz.ntmps48;go_wp2_with fail
 go_loopw [1,5] (fun kv iv wr=>∃i:Nat,i<=ms.length/\kv=.int .i64 (kPu k ms i)/\iv=.int .i64 i/\Hid (zcB lo wr own a ms.length (zk4 k ms i)/\Left (fun q=>(own q).1=3) w wr)) (fun _ iv _=>ms.length-(intOf iv).toNat)
 case atStart=>exact⟨0,Nat.zero_le _,rfl,rfl,HF.out.same (fun i _=>if_neg (Nat.not_lt_zero i)),Left.refl _ _⟩
 case round=>
  obtain⟨i,hile,rfl,rfl,HQ⟩:=hrel
  by_cases hlt:i<ms.length
  ·have hltI:(i:Int)<(ms.length:Int):=by omega
   have HKI:Hid (kPu k ms (i+1)=zp3 (kPu k ms i) (zez ms i)):=rfl;have hkb:=zoA k ms i;have HMX:Hid (zjt k ms i=zlG (kPu k ms i) (zez ms i)):=rfl
   generalize kPu k ms i=kk at hkb HKI HMX ⊢
   have HB:Hid (0<kk/\kk<7000000000000000000):=by have a:=HK.out;have b:=HL.out;exact⟨by omega,by omega⟩
   clear hkb;obtain⟨bo,C,rfl,hlo,hbo,hC,hsz,hr⟩:=HQ.out.1.rows (by omega);have hx:=hr i hlt;rw[show zk4 k ms i i=zez ms i from if_neg (Nat.lt_irrefl i)]at hx
   generalize zez ms i=x at hx HKI HMX
   have HS:=hid (show i*5+5<=C.size by omega);have HRR:=zbJ hlo hbo hC hsz;have M0:Hid (Mid own lo bo 65 C 5 i 3 wr wr #[.string x.dr,.string x.tm,.string x.rs,.int .i64 x.am,.int .i64 x.un] none none none [] [] []):=⟨qG.new hC hx.cell,rfl,Left.refl _ _,hbo,Or.inl ⟨rfl,rfl⟩,(fun _ h=>by cases h),Or.inl ⟨rfl,rfl⟩,(fun _ h=>by cases h),Or.inl ⟨rfl,rfl⟩,(fun _ h=>by cases h)⟩
   clear hr hx hlo hbo hC hsz;go_wp2_with fail
   refine(yG _ _ (by have a:=HB.out;omega) (by have a:=HB.out;omega)).mono ?_;rintro e wm1⟨rfl,hb⟩;have M1:=hid (M0.out.below hb);clear hb M0;obtain⟨y1,hv1⟩:=M1.out.ex 0 (by omega);have hf1:=fun o=>M1.out.row.fz o
   have hg1:=M1.out.row.lt;rw[Nat.add_zero]at hv1;have M2:=hid (M1.out.set 0 (.string (mkT (kk))) (by omega) HS.out);rw[Nat.add_zero]at M2;clear M1;have hw_2:wrap64 (kk+1)=kk+1:=zy _ ⟨by have a:=HB.out;omega,by have a:=HB.out;omega⟩;go_wp2_with fail
   clear hv1 hf1 hg1;refine(yG _ _ (by have a:=HB.out;omega) (by have a:=HB.out;omega)).mono ?_;rintro e wm2⟨rfl,hb⟩;have M3:=hid (M2.out.below hb);clear hb M2;obtain⟨y2,hv2⟩:=M3.out.ex 1 (by omega);have hf2:=fun o=>M3.out.row.fz o
   have hg2:=M3.out.row.lt;have M4:=hid (M3.out.set 1 (.string (mkT (kk+1))) (by omega) HS.out);clear M3;have hw_4:wrap64 (kk+1+1)=kk+1+1:=zy _ ⟨by have a:=HB.out;omega,by have a:=HB.out;omega⟩;go_wp2_with fail
   clear hv2 hf2 hg2;refine(yG _ _ (by have a:=HB.out;omega) (by have a:=HB.out;omega)).mono ?_;rintro e wm3⟨rfl,hb⟩;have M5:=hid (M4.out.below hb);clear hb M4;obtain⟨y3,hv3⟩:=M5.out.ex 2 (by omega);have hf3:=fun o=>M5.out.row.fz o
   have hg3:=M5.out.row.lt;have M6:=hid (M5.out.set 2 (.string (mkT (kk+1+1))) (by omega) HS.out);clear M5;have hw_6:wrap64 (kk+1+1+1)=kk+1+1+1:=zy _ ⟨by have a:=HB.out;omega,by have a:=HB.out;omega⟩;obtain⟨y4,hv4⟩:=M6.out.ex 3 (by omega);have hf4:=fun o=>M6.out.row.fz o
   have hg4:=M6.out.row.lt;have M7:=hid (M6.out.set 3 (.int .i64 (kk+1+1+1)) (by omega) HS.out);clear M6;have hw_7:wrap64 (kk+1+1+1+1)=kk+1+1+1+1:=zy _ ⟨by have a:=HB.out;omega,by have a:=HB.out;omega⟩;obtain⟨y5,hv5⟩:=M7.out.ex 4 (by omega);have hf5:=fun o=>M7.out.row.fz o
   have hg5:=M7.out.row.lt;have M8:=hid (M7.out.set 4 (.int .i64 (kk+1+1+1+1)) (by omega) HS.out);clear M7;have hw_8:wrap64 (kk+1+1+1+1+1)=kk+1+1+1+1+1:=zy _ ⟨by have a:=HB.out;omega,by have a:=HB.out;omega⟩;go_wp2_with fail
   go_roundw
   case rel=>
    have hkn:kk+1+1+1+1+1=kPu k ms (i+1):=HKI.out.symm;refine⟨i+1,by omega,by first|rw[hw_8,hkn]|rw[hkn],by rw[wrap_one (by have:=HL.out;omega)],⟨fun _=>?_⟩,HQ.out.2.trans (M8.out.left.wide ?_)⟩
    ·obtain⟨C',hC',hs',ho',hd'⟩:=M8.out.row.ex
     refine⟨bo,C',rfl,HRR.out.1,HRR.out.2.1,hC',by rw[hs'];exact HRR.out.2.2.2,fun z hz=>?_⟩
     by_cases ez:z=i
     ·subst ez
      rw[show zk4 k ms (z+1) z=zjt k ms z from if_pos (Nat.lt_succ_self z),HMX.out];exact⟨fun j hj=>hd' j hj⟩
     ·rw[show zk4 k ms (i+1) z=zk4 k ms i z by unfold zk4;by_cases hz1:z<i <;> simp[hz1] <;> omega]
      obtain⟨b2,C2,h2a,_,_,h2C,_,h2r⟩:=HQ.out.1.rows (by omega)
      cases h2a
      obtain rfl:C2=C:=by have h3:=HRR.out.2.2.1;rw[h2C]at h3;cases h3;rfl
      exact⟨fun j hj=>(ho' _ (by omega)).trans ((h2r z hz).cell j hj)⟩
    ·rintro z (hz|hz|hz|hz) <;> rw[hz]
   case measure=>exact yP hlt (by have:=HL.out;omega)
  ·have e:i=ms.length:=by omega
   subst e;go_wp2_with fail
   go_ret;exact⟨rfl,HQ.out.1.same (fun j hj=>(if_pos hj).symm),HQ.out.2⟩
set_option maxRecDepth 20000 in
theorem zfI (lo:Nat)(own:Nat->Lb)(a:Option Addr)(cap:Nat)(ms:List Pu)(k:Int)(w:World)(h:zcB lo w own a ms.length (zjt k ms))(hl:ms.length<=1048576)(hk:0<k)(hk2:k<5000000000000000000) :
 Calls Tryz.prog 52 #[.slice a ms.length cap,.int .i64 k] w fun e w'=>e=.returned (.int .i64 (kPu k ms ms.length))/\Below w.heap.size w w':=by
 have HF:=hid h;have HL:=hid hl;have HK:=qE hk hk2;clear h hl hk hk2;go_enter Tryz.func52,Tryz.ntmps52;go_wp2_with fail
 go_loopw [1,5] (fun kv iv wr=>∃i:Nat,i<=ms.length/\kv=.int .i64 (kPu k ms i)/\iv=.int .i64 i/\Below w.heap.size w wr) (fun _ iv _=>ms.length-(intOf iv).toNat)
 case atStart=>exact⟨0,Nat.zero_le _,rfl,rfl,bRf _ _⟩
 case round=>
  obtain⟨i,hile,rfl,rfl,hB⟩:=hrel
  by_cases hlt:i<ms.length
  ·have hltI:(i:Int)<(ms.length:Int):=by omega
   have HKI:Hid (kPu k ms (i+1)=zp3 (kPu k ms i) (zez ms i)):=rfl;have hkb:=zoA k ms i;have HMX:Hid (zjt k ms i=zlG (kPu k ms i) (zez ms i)):=rfl
   generalize kPu k ms i=kk at hkb HKI HMX ⊢
   have HB:Hid (0<kk/\kk<7000000000000000000):=by have a:=HK.out;have b:=HL.out;exact⟨by omega,by omega⟩
   clear hkb;obtain⟨bo,C,rfl,hlo,hbo,hC,hsz,hr⟩:=HF.out.rows (by omega);have hx:=hr i hlt;rw[HMX.out]at hx
   generalize zez ms i=x at hx HKI HMX
   have HR0:Hid (qG w bo 65 C 5 i #[.string (zlG kk x).dr,.string (zlG kk x).tm,.string (zlG kk x).rs,.int .i64 (zlG kk x).am,.int .i64 (zlG kk x).un]):=qG.new hC hx.cell;have HR1:Hid (qG wr bo 65 C 5 i #[.string (mkT (kk)),.string (mkT (kk+1)),.string (mkT (kk+1+1)),.int .i64 (kk+1+1+1),.int .i64 (kk+1+1+1+1)]):=by have hh:=(HR0.out).left (Left.of_below (fun _=>False) (hB.mono (Nat.le_refl _))) (fun h=>h);unfold zlG at hh;exact hh
   have HB0:=hid hB;clear hr hx hlo hbo hC hsz hB HR0;have hv1:wr.drew.cell? ⟨bo,i*5,none⟩=some (.string (mkT (kk))):=by have hh:=(HR1.out).cell 0 (by omega);rw[Nat.add_zero]at hh;exact hh
   have hlt1:bo<wr.drew.heap.size:=(HR1.out).lt;have hBd:Below wr.drew.heap.size wr wr.drew:=(bRf _ _).drew;go_wp2_with fail
   go_region_held3 (fun w'=>w'.cell? ⟨bo,i*5,none⟩=some (.string (mkT (kk)))) (exact hv1) (first|(go_at_call 91;refine(yG _ _ (by have a:=HB.out;omega) (by have a:=HB.out;omega)).mono ?_;rintro e wm1⟨rfl,hb⟩;have hv1:=(hb.cell (p:=⟨bo,i*5,none⟩) hlt1).trans hv1;have hBd:=hBd.trans (hb.mono hBd.size);clear hb))
   all_goals have HR2:=hid ((HR1.out).below hBd)
   all_goals have HB1:=hid (HB0.out.trans (hBd.mono HB0.out.size))
   all_goals clear hBd hlt1 HR1 HB0
   have hw_11:wrap64 (kk+1)=kk+1:=zy _ ⟨by have a:=HB.out;omega,by have a:=HB.out;omega⟩;have hv2:wm1.drew.cell? ⟨bo,i*5+1,none⟩=some (.string (mkT (kk+1))):=by have hh:=(HR2.out).cell 1 (by omega);exact hh
   have hlt2:bo<wm1.drew.heap.size:=(HR2.out).lt;have hBd:Below wm1.drew.heap.size wm1 wm1.drew:=(bRf _ _).drew;go_wp2_with fail
   clear hv1
   go_region_held3 (fun w'=>w'.cell? ⟨bo,i*5+1,none⟩=some (.string (mkT (kk+1)))) (exact hv2) (first|(go_at_call 91;refine(yG _ _ (by have a:=HB.out;omega) (by have a:=HB.out;omega)).mono ?_;rintro e wm2⟨rfl,hb⟩;have hv2:=(hb.cell (p:=⟨bo,i*5+1,none⟩) hlt2).trans hv2;have hBd:=hBd.trans (hb.mono hBd.size);clear hb))
   all_goals have HR3:=hid ((HR2.out).below hBd)
   all_goals have HB2:=hid (HB1.out.trans (hBd.mono HB1.out.size))
   all_goals clear hBd hlt2 HR2 HB1
   have hw_21:wrap64 (kk+1+1)=kk+1+1:=zy _ ⟨by have a:=HB.out;omega,by have a:=HB.out;omega⟩;have hv3:wm2.drew.cell? ⟨bo,i*5+2,none⟩=some (.string (mkT (kk+1+1))):=by have hh:=(HR3.out).cell 2 (by omega);exact hh
   have hlt3:bo<wm2.drew.heap.size:=(HR3.out).lt;have hBd:Below wm2.drew.heap.size wm2 wm2.drew:=(bRf _ _).drew;go_wp2_with fail
   clear hv2
   go_region_held3 (fun w'=>w'.cell? ⟨bo,i*5+2,none⟩=some (.string (mkT (kk+1+1)))) (exact hv3) (first|(go_at_call 91;refine(yG _ _ (by have a:=HB.out;omega) (by have a:=HB.out;omega)).mono ?_;rintro e wm3⟨rfl,hb⟩;have hv3:=(hb.cell (p:=⟨bo,i*5+2,none⟩) hlt3).trans hv3;have hBd:=hBd.trans (hb.mono hBd.size);clear hb))
   all_goals have HR4:=hid ((HR3.out).below hBd)
   all_goals have HB3:=hid (HB2.out.trans (hBd.mono HB2.out.size))
   all_goals clear hBd hlt3 HR3 HB2
   have hw_31:wrap64 (kk+1+1+1)=kk+1+1+1:=zy _ ⟨by have a:=HB.out;omega,by have a:=HB.out;omega⟩;have hv_3:=(HR4.out).cell 3 (by omega);have hlt_3:=(HR4.out).lt;have hne_3:((kk+1+1+1) != (kk+1+1+1))=false:=by simp
   have hw_35:wrap64 (kk+1+1+1+1)=kk+1+1+1+1:=zy _ ⟨by have a:=HB.out;omega,by have a:=HB.out;omega⟩;have hv_4:=(HR4.out).cell 4 (by omega);have hlt_4:=(HR4.out).lt;have hne_4:((kk+1+1+1+1) != (kk+1+1+1+1))=false:=by simp
   have hw_39:wrap64 (kk+1+1+1+1+1)=kk+1+1+1+1+1:=zy _ ⟨by have a:=HB.out;omega,by have a:=HB.out;omega⟩;go_wp2_with fail
   have hkn:kk+1+1+1+1+1=kPu k ms (i+1):=by rw[HKI.out];rfl
   exact⟨⟨i+1,by omega,by first|rw[hw_39,hkn]|rw[hkn],by rw[wrap_one (by have:=HL.out;omega)],HB3.out⟩,yP hlt (by have:=HL.out;omega)⟩
  ·have e:i=ms.length:=by omega
   subst e;go_wp2_with fail
   go_ret;exact⟨rfl,hB⟩
theorem zk6 {w:World}{b off:Nat}{xs:List Int}(h:ql w (some ⟨b,off,none⟩) xs):∀j u,(ints xs)[j]?=some u->w.cell? ((⟨b,off,none⟩:Addr).add j)=some u:=by
 intro j u hj
 have hlt:j<xs.length:=by
  have:=(List.getElem?_eq_some_iff.1 hj).1
  simpa[ints] using this
 obtain⟨b',off',e,_,hc⟩:=h.cells (by rintro rfl;simp at hlt)
 cases e
 have h1:=hc j hlt
 have e1:(⟨b,off,none⟩:Addr).add j=⟨b,off+j,none⟩:=by
  unfold Addr.add;split
  ·rename_i h;subst h;simp
  ·rfl
 rw[e1,h1];unfold ints at hj;rw[List.getElem?_map,List.getElem?_eq_getElem hlt]at hj
 simpa using hj
theorem zml {xs:List Int}:∀u∈ints xs,u.oneCell'=true:=by
 intro u hu;unfold ints at hu;simp only[List.mem_map]at hu;obtain⟨s,_,rfl⟩:=hu;rfl
set_option maxRecDepth 20000 in
theorem zl2 (r:Rl)(a:Option Addr)(cap:Nat)(w:World)(hw:ql w a r.vs)(hl:r.vs.length<=1048576) :
 Calls Tryz.prog 126 #[.agg #[.slice a r.vs.length cap,.string r.kd,.string r.tm,.string r.px]] w fun e w'=>∃a' cap',e=.returned (.agg #[.slice a' r.vs.length cap',.string r.kd,.string r.tm,.string r.px])/\yt w.heap.size w' a' r.vs/\Below w.heap.size w w':=by
 by_cases h0:r.vs=[]
 ·have hn:r.vs.length=0:=by rw[h0];rfl
  rw[hn]
  rcases a with _|g
  all_goals
   go_enter Tryz.func126,Tryz.ntmps126;go_wp2_with fail
   refine bodyPost_ret (v:=.agg #[.slice none 0 0,.string r.kd,.string r.tm,.string r.px]) (by simp[results,Tryz.results126,go_sem]) rfl ⟨none,0,rfl,Or.inl ⟨rfl,h0⟩,zw _ _ _⟩
 ·obtain⟨b,off,rfl,_⟩:=hw.cells h0
  obtain⟨i0,hi,hz0,hz1,hz2⟩:=info_parts Tryz.zgE;have k0:=zT w (.cells #[.slice (some ⟨b,off,none⟩) r.vs.length cap,.string r.kd,.string r.tm,.string r.px] 119) (.cells #[.slice none 0 0,.string ⟨#[]⟩,.string ⟨#[]⟩,.string ⟨#[]⟩] 119);have hB0:=zw w (.cells #[.slice (some ⟨b,off,none⟩) r.vs.length cap,.string r.kd,.string r.tm,.string r.px] 119) (.cells #[.slice none 0 0,.string ⟨#[]⟩,.string ⟨#[]⟩,.string ⟨#[]⟩] 119);obtain⟨W,hW⟩:∃W,W=(w.alloc (.cells #[.slice (some ⟨b,off,none⟩) r.vs.length cap,.string r.kd,.string r.tm,.string r.px] 119)).alloc (.cells #[.slice none 0 0,.string ⟨#[]⟩,.string ⟨#[]⟩,.string ⟨#[]⟩] 119):=⟨_,rfl⟩
  have hz:W.heap.size=w.heap.size+1+1:=by rw[hW];simp
  go_enter Tryz.func126,Tryz.ntmps126
  go_wp2_with (at_builtin;refine zce ?_)
  rw[<- hW]at k0 hB0 ⊢;clear hW
  show wpList _ _ _ _ _ _
  refine wpList_append_own _ rfl (.const (.slice none 0 0)) (.tmp 4) 104 rfl (w.heap.size+1+1) 3 i0 (.int .i64 0) 1 8 Tryz.underlying104 hi hz0 hz1 hz2 rfl (by decide) (.slice none 0 0) 0 [] rfl ⟨rfl,.inl ⟨rfl,rfl⟩⟩ ⟨b,off,none⟩ r.vs.length cap (ints r.vs) rfl (by simp[ints]) (zk6 (hw.mono hB0)) zml (by unfold maxLen;omega) (by omega) (by omega) ?_;intro v' w1 hown hgr _;simp only[Nat.zero_add,List.nil_append]at hown;obtain⟨a',cap',rfl,ho⟩:=yt.zdo hown;have hb1:Below W.heap.size W w1:=(bRf _ _).grown hgr (Nat.le_refl _) (by simp[Value.ownBlock]);have K0:=(hb1.block _ (by omega)).trans k0.1;have K1:=(hb1.block _ (by omega)).trans k0.2;have HF:Hid (yt (w.heap.size+1+1) w1 a' r.vs/\Below w.heap.size w w1):=⟨ho,hB0.trans (hb1.mono (by omega))⟩
  have cQ:=fun j=>cell_of_block (o:=j) K0
  have fQ:=fun j=>zh (o:=j) K0
  have cR:=fun j=>cell_of_block (o:=j) K1
  have fR:=fun j=>zh (o:=j) K1
  have hsz:=hb1.size;clear hown hgr K0 K1 hb1 k0 hB0 ho;go_wp2_with fail
  refine bodyPost_ret (v:=.agg #[.slice a' r.vs.length cap',.string r.kd,.string r.tm,.string r.px]) (by simp[results,Tryz.results126,go_sem,cR]) rfl ⟨a',⟨cap',rfl⟩,?_,?_⟩
  ·refine yt.low (lo:=w.heap.size+1+1) ?_ (by omega)
   iterate 4 refine yt.setCell ?_ _ (by show w.heap.size+1<_;omega) _
   refine yt.setCell ?_ _ (by show w.heap.size<_;omega) _;exact HF.out.1
  ·have h0:w.heap.size<=w.heap.size:=Nat.le_refl _
   have h1:w.heap.size<=w.heap.size+1:=Nat.le_succ _
   iterate 4 refine Below.setCell ?_ h1 _
   refine Below.setCell ?_ h0 _;exact HF.out.2
set_option maxRecDepth 20000 in
theorem zkE (g:Gr)(a:Option Addr)(cap:Nat)(w:World)(hw:ql w a g.r.vs)(hl:g.r.vs.length<=1048576) :
 Calls Tryz.prog 81 #[.agg #[.int .i64 g.no,.string g.to,.string g.gb,.slice a g.r.vs.length cap,.string g.r.kd,.string g.r.tm,.string g.r.px]] w fun e w'=>∃a' cap',e=.returned (.agg #[.int .i64 g.no,.string g.to,.string g.gb,.slice a' g.r.vs.length cap',.string g.r.kd,.string g.r.tm,.string g.r.px])/\yt w.heap.size w' a' g.r.vs/\Below w.heap.size w w':=by
 have k0:=zT w (.cells #[.int .i64 g.no,.string g.to,.string g.gb,.slice a g.r.vs.length cap,.string g.r.kd,.string g.r.tm,.string g.r.px] 121) (.cells #[.int .i64 0,.string ⟨#[]⟩,.string ⟨#[]⟩,.slice none 0 0,.string ⟨#[]⟩,.string ⟨#[]⟩,.string ⟨#[]⟩] 121);have hB0:=zw w (.cells #[.int .i64 g.no,.string g.to,.string g.gb,.slice a g.r.vs.length cap,.string g.r.kd,.string g.r.tm,.string g.r.px] 121) (.cells #[.int .i64 0,.string ⟨#[]⟩,.string ⟨#[]⟩,.slice none 0 0,.string ⟨#[]⟩,.string ⟨#[]⟩,.string ⟨#[]⟩] 121);obtain⟨W,hW⟩:∃W,W=(w.alloc (.cells #[.int .i64 g.no,.string g.to,.string g.gb,.slice a g.r.vs.length cap,.string g.r.kd,.string g.r.tm,.string g.r.px] 121)).alloc (.cells #[.int .i64 0,.string ⟨#[]⟩,.string ⟨#[]⟩,.slice none 0 0,.string ⟨#[]⟩,.string ⟨#[]⟩,.string ⟨#[]⟩] 121):=⟨_,rfl⟩
 have hz:W.heap.size=w.heap.size+1+1:=by rw[hW];simp
 go_enter Tryz.func81,Tryz.ntmps81;go_wp2_with fail
 rw[<- hW]at k0 hB0 ⊢;clear hW;refine(zl2 g.r a cap W (hw.mono hB0) hl).mono ?_;rintro e w1⟨a',cap',rfl,ho,hb1⟩;have K0:=(hb1.block _ (by omega)).trans k0.1;have K1:=(hb1.block _ (by omega)).trans k0.2;have HF:Hid (yt (w.heap.size+1+1) w1 a' g.r.vs/\Below w.heap.size w w1):=⟨by rw[<- hz];exact ho,hB0.trans (hb1.mono (by omega))⟩
 have cQ:=fun j=>cell_of_block (o:=j) K0
 have fQ:=fun j=>zh (o:=j) K0
 have cR:=fun j=>cell_of_block (o:=j) K1
 have fR:=fun j=>zh (o:=j) K1
 have hsz:=hb1.size;clear K0 K1 hb1 k0 hB0 ho;go_wp2_with fail
 refine bodyPost_ret (v:=.agg #[.int .i64 g.no,.string g.to,.string g.gb,.slice a' g.r.vs.length cap',.string g.r.kd,.string g.r.tm,.string g.r.px]) (by simp[results,Tryz.results81,go_sem,cR]) rfl ⟨a',cap',rfl,?_,?_⟩
 ·refine yt.low (lo:=w.heap.size+1+1) ?_ (by omega)
  iterate 7 refine yt.setCell ?_ _ (by show w.heap.size+1<_;omega) _
  iterate 4 refine yt.setCell ?_ _ (by show w.heap.size<_;omega) _
  exact HF.out.1
 ·have h0:w.heap.size<=w.heap.size:=Nat.le_refl _
  have h1:w.heap.size<=w.heap.size+1:=Nat.le_succ _
  iterate 7 refine Below.setCell ?_ h1 _
  iterate 4 refine Below.setCell ?_ h0 _
  exact HF.out.2
end Go.Proofs.YtkficnallnpjnaaGreat
