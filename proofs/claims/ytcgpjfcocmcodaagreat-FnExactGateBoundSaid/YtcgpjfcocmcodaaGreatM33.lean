import Derived.Test.YtcgpjfcocmcodaaGreatM32
set_option maxHeartbeats 8000000
namespace Go.Proofs.YtcgpjfcocmcodaaGreat
theorem zhH {ss:List Shp}(h:zZ ss=true)(i:Nat)(hi:i<ss.length):yU ss i=true:=by
 unfold zZ at h;rw[Bool.and_eq_true]at h;exact zh7 hi h.2
theorem zo6 {ss:List Shp}(h:zZ ss=true):∀(j:Nat) (hj:j<ss.length) (i:Nat) (hi:i<j),less (ss[i]'(by omega)).kd ss[j].kd=true:=by
 intro j
 induction j with
 | zero=>intro _ i hi;omega
 | succ j ih=>
  intro hj i hi;have h1:=zhH h (j+1) hj;rw[zgm ss j hj]at h1;simp only[Bool.and_eq_true]at h1;have h2:=h1.1.2
  rcases Nat.lt_or_ge i j with hlt|hge
  ·exact zbb _ _ _ (ih (by omega) i hlt) h2
  ·have e:i=j:=by omega
   subst e;exact h2
theorem zed {ss:List Shp}(h:zZ ss=true)(i:Nat)(hi:i<ss.length):shapeOf ss ss[i].kd=ss[i]:=by
 refine zgc ss _ i hi ?_ rfl;unfold zJ;rw[List.any_eq_false];intro x hx;obtain⟨k,hk,rfl⟩:=List.mem_iff_getElem.1 hx;have hk':k<i:=by simp at hk;omega
 have h1:=zo6 h i hi k hk';simp only[List.getElem_take,decide_eq_true_eq];intro e;unfold less at h1;rw[e,zbS]at h1
 cases h1
theorem zf7 {ss:List Shp}(h:zZ ss=true)(i:Nat)(hi:i<ss.length):ss[i].fs.length<=6:=by
 have h1:=zhH h i hi;unfold yU at h1;rw[getD_at ss i _ hi]at h1;simp only[Bool.and_eq_true]at h1;have h2:=h1.2;unfold yY at h2;simp only[Bool.and_eq_true,decide_eq_true_eq]at h2;exact h2.1
def zab (ss:List Shp)(m:Mnd):Bool:=zJ ss m.kd&&za2 (shapeOf ss m.kd).fs m
def rowOk (ms:List Mnd)(s:Shp):Bool:=(zI (zm s ms) s.fs.length).1
def yB (ss:List Shp)(ms:List Mnd):Bool:=decide (ms.length<=12)&&zZ ss&&ms.all (zab ss)&&ss.all (rowOk ms)
theorem zjH {ss:List Shp}{ms:List Mnd}(h:zZ ss=true)(hm:ms.all (zab ss)=true)(i:Nat)(hi:i<ss.length):∀q,q<ss[i].fs.length->∀x∈yA ss[i] ms q,0<=x/\x<ss[i].fs.length:=by
 intro q _ x hx;unfold yA at hx;obtain⟨m,hmm,hx⟩:=List.mem_flatMap.1 hx
 by_cases ht:turns m ss[i] q=true
 ·rw[if_pos ht]at hx
  obtain⟨v,hv,rfl⟩:=List.mem_map.1 hx;unfold turns at ht;simp only[Bool.and_eq_true,decide_eq_true_eq]at ht;have h1:=List.all_eq_true.1 hm m hmm;unfold zab at h1;rw[ht.1,zed h i hi]at h1;simp only[Bool.and_eq_true]at h1;have h2:=h1.2;unfold za2 at h2;simp only[Bool.and_eq_true]at h2;have h3:=List.all_eq_true.1 h2.1.2 v hv;unfold jZ at h3;simp only[Bool.and_eq_true]at h3
  rcases jB ss[i].fs v with⟨_,h5⟩|⟨k,hk,h4,_⟩
  ·rw[zaP h5]at h3;exact absurd h3.2 (by simp)
  ·rw[h4];omega
 ·rw[if_neg ht]at hx;cases hx
end Go.Proofs.YtcgpjfcocmcodaaGreat
namespace Go.Proofs.YtcgpjfcocmcodaaGreat
open Go.RowKit
theorem zhN (a:OA)(cap:Nat)(ms:List Lg)(t:Lg)(w:World)(hw:zbn w a ms)(hl:ms.length<=1000)(hr:rising y9 ms) :
 Calls Tryz.prog 143 #[.l a ms.length cap,.agg t.cells,.func (.func 144) #[] #[]] w fun e w'=>(∃p:Nat,e=.returned (.tuple #[.i p,.bool (yJ ms t.tm t.rs)])/\zbK ms t.tm t.rs p)/\Bw w w':=by
 have HW:=hid hw;have HR:Hid (rising y9 ms):=hr;clear hw hr;unfold Lg.cells;go_enter Tryz.func143,Tryz.ntmps143;go_wp2_with fail
 have hT0:=zl w #[.s t.tm,.s t.rs,.i t.mo,.i t.fr] 69;have HB0:Hid (Bw w (w.alloc (.cells #[.s t.tm,.s t.rs,.i t.mo,.i t.fr] 69))):=bAl _ _;obtain⟨W0,hW0⟩:=xN (w.alloc (.cells #[.s t.tm,.s t.rs,.i t.mo,.i t.fr] 69));have hz0:w.heap.size<W0.heap.size:=by rw[hW0];simp
 rw[<- hW0]at HB0 hT0 ⊢;clear hW0;have hlI:(ms.length:Int)<=1000:=by omega
 go_loopw [9,10] (fun iv jv wr=>∃lo hi:Nat,iv=.i lo/\jv=.i hi/\lo<=hi/\hi<=ms.length/\Hid ((∀i (h:i<ms.length),i<lo->y9 ms[i] t<0)/\(∀i (h:i<ms.length),hi<=i->0<=y9 ms[i] t)/\Bw W0 wr)) (fun iv jv _=>(intOf jv).toNat-(intOf iv).toNat)
 case atStart=>exact⟨0,ms.length,rfl,rfl,Nat.zero_le _,Nat.le_refl _,fun i h h'=>by omega,fun i h h'=>by omega,bRf _ _⟩
 case round=>
  obtain⟨lo,hi,rfl,rfl,hlh,hhn,HQ⟩:=hrel;have hT:=za hT0 hz0 HQ.o.2.2;have hzT:=nLt hz0 HQ.o.2.2.size;have HBr:=hid (HB0.o.trans (HQ.o.2.2.mono HB0.o.size));have HBW:Hid (∀W,Bw w W->Bw wr W->Bw W0 W):=fun W _ h=>HQ.o.2.2.trans (h.mono HQ.o.2.2.size)
  have hloI:(lo:Int)<=1000:=by omega
  have hhiI:(hi:Int)<=1000:=by omega
  by_cases hlt:lo<hi
  ·obtain⟨m,hm⟩:=xN ((lo+hi) / 2)
   have HM1:Hid (lo<=m/\m<hi):=⟨by omega,by omega⟩
   have hml:m<ms.length:=by omega
   have hmI:((lo:Int)+(hi:Int)) / 2=(m:Int):=by omega
   clear hm;obtain⟨b,off,rfl,hb,d0,d1,d2,d3⟩:=HW.o.load HBr.o m hml;have hb':=nLt hb HBr.o.size;have hmlI:(m:Int)<(ms.length:Int):=by omega
   have hS:(∀j,wr.drew.cell? (aD w.heap.size j)=(#[.s t.tm,.s t.rs,.i t.mo,.i t.fr]:AV)[j]?)/\wr.drew.cell? (aD b (off+m*4))=some (.s ms[m].tm)/\wr.drew.cell? (aD b (off+m*4+1))=some (.s ms[m].rs)/\wr.drew.cell? (aD b (off+m*4+2))=some (.i ms[m].mo)/\wr.drew.cell? (aD b (off+m*4+3))=some (.i ms[m].fr):=⟨hT,d0,d1,d2,d3⟩
   clear d0 d1 d2 d3 hT;go_wp2_with fail
   go_region_held3 (fun w'=>(∀j,w'.cell? (aD w.heap.size j)=(#[.s t.tm,.s t.rs,.i t.mo,.i t.fr]:AV)[j]?)/\w'.cell? (aD b (off+m*4))=some (.s ms[m].tm)/\w'.cell? (aD b (off+m*4+1))=some (.s ms[m].rs)/\w'.cell? (aD b (off+m*4+2))=some (.i ms[m].mo)/\w'.cell? (aD b (off+m*4+3))=some (.i ms[m].fr)) (exact hS) (first|(go_at_call 144;refine(zct ms[m] t _).mono ?_;rintro e w2⟨rfl,hb2⟩;have hS:=(⟨za hS.1 hzT hb2,(hb2.cell (p:=(aD b _)) hb').trans hS.2.1,(hb2.cell (p:=(aD b _)) hb').trans hS.2.2.1,(hb2.cell (p:=(aD b _)) hb').trans hS.2.2.2.1,(hb2.cell (p:=(aD b _)) hb').trans hS.2.2.2.2⟩:_/\_/\_/\_/\_);have hB2:=HBr.o.drew.trans (hb2.mono HBr.o.drew.size);have hB2':=(bRf wr.heap.size wr).drew.trans hb2;clear hb2))
   have HB2:=hid (HBW.o w2 hB2 hB2')
   by_cases hk:y9 ms[m] t<0
   ·have hd:decide (y9 ms[m] t<0)=true:=by simpa using hk
    have HA:Hid (∀i (h:i<ms.length),i<m+1->y9 ms[i] t<0):=by
     intro i hi him
     rcases Nat.eq_or_lt_of_le (Nat.le_of_lt_succ him) with e|hlt'
     ·subst e;exact hk
     ·exact zbu (zdW (fun a b c=>zbu (a:=a) (b:=b) (c:=c)) HR.o m hml i hlt') hk
    rw[hd];clear hd hk hS;go_wp2_with fail
    exact⟨⟨m+1,hi,by go_num,rfl,HM1.o.2,hhn,HA.o,HQ.o.2.1,HB2.o⟩,by have:=HM1.o;show(hi:Int).toNat-((m:Int)+1).toNat<(hi:Int).toNat-(lo:Int).toNat;omega⟩
   ·have hd:decide (y9 ms[m] t<0)=false:=by simpa using hk
    have HA:Hid (∀i (h:i<ms.length),m<=i->0<=y9 ms[i] t):=by
     intro i hi him
     rcases Nat.eq_or_lt_of_le him with e|hlt'
     ·subst e;omega
     ·rcases Int.lt_or_le (y9 ms[i] t) 0 with h1|h1
      ·exact absurd (zbu (zdW (fun a b c=>zbu (a:=a) (b:=b) (c:=c)) HR.o i hi m hlt') h1) hk
      ·exact h1
    rw[hd];clear hd hk hS;go_wp2_with fail
    exact⟨⟨lo,m,rfl,rfl,HM1.o.1,Nat.le_of_lt hml,HQ.o.1,HA.o,HB2.o⟩,by have:=HM1.o;show(m:Int).toNat-(lo:Int).toNat<(hi:Int).toNat-(lo:Int).toNat;omega⟩
  ·have e:hi=lo:=by omega
   subst e;have HA:Hid (zbK ms t.tm t.rs hi):=⟨hhn,HQ.o.1,HQ.o.2.1⟩
   clear HQ
   by_cases hn:hi<ms.length
   ·obtain⟨b,off,rfl,hb,d0,d1,d2,d3⟩:=HW.o.load HBr.o hi hn
    have hb':b<wr.heap.size:=nLt hb HBr.o.size;have hnI:(hi:Int)<(ms.length:Int):=by omega
    have hS:(∀j,wr.drew.cell? (aD w.heap.size j)=(#[.s t.tm,.s t.rs,.i t.mo,.i t.fr]:AV)[j]?)/\wr.drew.cell? (aD b (off+hi*4))=some (.s ms[hi].tm)/\wr.drew.cell? (aD b (off+hi*4+1))=some (.s ms[hi].rs)/\wr.drew.cell? (aD b (off+hi*4+2))=some (.i ms[hi].mo)/\wr.drew.cell? (aD b (off+hi*4+3))=some (.i ms[hi].fr):=⟨hT,d0,d1,d2,d3⟩
    have HFd:Hid (yJ ms t.tm t.rs=(y9 ms[hi] t == 0)):=by
     unfold Hid;rw[Bool.eq_iff_iff,HA.o.found HR.o,beq_iff_eq];unfold y9;rw[zdU];exact⟨fun h=>h.2,fun h=>⟨hn,h⟩⟩
    clear d0 d1 d2 d3 hT hlt;go_wp2_with fail
    go_region_held3 (fun w'=>(∀j,w'.cell? (aD w.heap.size j)=(#[.s t.tm,.s t.rs,.i t.mo,.i t.fr]:AV)[j]?)/\w'.cell? (aD b (off+hi*4))=some (.s ms[hi].tm)/\w'.cell? (aD b (off+hi*4+1))=some (.s ms[hi].rs)/\w'.cell? (aD b (off+hi*4+2))=some (.i ms[hi].mo)/\w'.cell? (aD b (off+hi*4+3))=some (.i ms[hi].fr)) (exact hS) (first|(go_at_call 144;refine(zct ms[hi] t _).mono ?_;rintro e w2⟨rfl,hb2⟩;have hS:=(⟨za hS.1 hzT hb2,(hb2.cell (p:=(aD b _)) hb').trans hS.2.1,(hb2.cell (p:=(aD b _)) hb').trans hS.2.2.1,(hb2.cell (p:=(aD b _)) hb').trans hS.2.2.2.1,(hb2.cell (p:=(aD b _)) hb').trans hS.2.2.2.2⟩:_/\_/\_/\_/\_);have hB2:=HBr.o.drew.trans (hb2.mono HBr.o.drew.size);have hB2':=(bRf wr.heap.size wr).drew.trans hb2;clear hb2))
    go_wp2_with fail
    go_ret2
    exact⟨⟨hi,by rw[HFd.o];rfl,HA.o⟩,hB2⟩
   ·have hnI:¬(hi:Int)<(ms.length:Int):=by omega
    have HFd:Hid (yJ ms t.tm t.rs=false):=by
     unfold Hid;rw[Bool.eq_false_iff];intro h;obtain⟨hp,_⟩:=(HA.o.found HR.o).1 h;exact hn hp
    clear hlt;go_wp2_with fail
    go_quiet (fail)
    go_wp2_with fail
    go_ret2
    exact⟨⟨hi,by rw[HFd.o];rfl,HA.o⟩,below_drewN HBr.o _⟩
structure ObE (lo:Nat)(w:World)(own:Nat->Lb)(c:Nat->Option Value)(i:Nat)(x:Ob)(a0 a1:OA)(c0 c1:Nat):Prop where
 cell:∀j,j<7->c j=(#[.s x.kd,.s x.nm,.s x.tm,.l a0 x.vs.length c0,.bool x.en,.l a1 x.hs.length c1,.i x.vr]:AV)[j]?
 l0:zn lo w a0 x.vs
 o0:∀g,a0=some g->own g.block=(0,i,1)
 l1:zn lo w a1 x.hs
 o1:∀g,a1=some g->own g.block=(0,i,2)
structure zbv (lo:Nat)(w:World)(own:Nat->Lb)(a:OA)(n:Nat)(f:Nat->Ob):Prop where
 rows:0<n->∃b C,a=some (aD b 0)/\lo<=b/\own b=(0,0,0)/\w.heap[b]?=some (.cells C 121)/\n*7<=C.size/\∀i,i<n->∃a0 a1 c0 c1,ObE lo w own (fun j=>C[i*7+j]?) i (f i) a0 a1 c0 c1
theorem zbv.left {S:Nat->Prop}{lo:Nat}{w w':World}{own:Nat->Lb}{a:OA}{n:Nat}{f:Nat->Ob}(h:zbv lo w own a n f)(hl:Left S w w')(hS:∀k,(own k).1=0->¬S k):zbv lo w' own a n f:=by
 refine⟨fun hn=>?_⟩;obtain⟨b,C,ha,hlo,hb,hC,hs,hr⟩:=h.rows hn;refine⟨b,C,ha,hlo,hb,(hl.out b (gES hC).1 (hS b (by rw[hb]))).trans hC,hs,fun i hi=>?_⟩;obtain⟨a0,a1,c0,c1,he⟩:=hr i hi;exact⟨a0,a1,c0,c1,he.cell,he.l0.left hl (fun g hg=>hS _ (by rw[he.o0 g hg])),he.o0,he.l1.left hl (fun g hg=>hS _ (by rw[he.o1 g hg])),he.o1⟩
theorem zbv.mono {lo:Nat}{w w':World}{own:Nat->Lb}{a:OA}{n:Nat}{f:Nat->Ob}(h:zbv lo w own a n f)(hb:Bw w w'):zbv lo w' own a n f:=h.left (Left.of_below (fun _=>False) hb) (fun _ _ h=>h)
theorem zbv.own {lo:Nat}{w:World}{own own':Nat->Lb}{a:OA}{n:Nat}{f:Nat->Ob}(h:zbv lo w own a n f)(he:∀k,k<w.heap.size->(own k).1=0->own' k=own k):zbv lo w own' a n f:=by
 refine⟨fun hn=>?_⟩;obtain⟨b,C,ha,hlo,hb,hC,hs,hr⟩:=h.rows hn;refine⟨b,C,ha,hlo,(he b (gES hC).1 (by rw[hb])).trans hb,hC,hs,fun i hi=>?_⟩;obtain⟨a0,a1,c0,c1,hx⟩:=hr i hi;exact⟨a0,a1,c0,c1,hx.cell,hx.l0,fun g hg=>(he _ (hx.l0.lt g hg) (by rw[hx.o0 g hg])).trans (hx.o0 g hg),hx.l1,fun g hg=>(he _ (hx.l1.lt g hg) (by rw[hx.o1 g hg])).trans (hx.o1 g hg)⟩
theorem zbv.low {lo lo':Nat}{w:World}{own:Nat->Lb}{a:OA}{n:Nat}{f:Nat->Ob}(h:zbv lo w own a n f)(hl:lo'<=lo):zbv lo' w own a n f:=by
 refine⟨fun hn=>?_⟩;obtain⟨b,C,ha,hlo,hb,hC,hs,hr⟩:=h.rows hn;refine⟨b,C,ha,Nat.le_trans hl hlo,hb,hC,hs,fun i hi=>?_⟩;obtain⟨a0,a1,c0,c1,hx⟩:=hr i hi;exact⟨a0,a1,c0,c1,hx.cell,hx.l0.low hl,hx.o0,hx.l1.low hl,hx.o1⟩
theorem zbv.same {lo:Nat}{w:World}{own:Nat->Lb}{a:OA}{n:Nat}{f f':Nat->Ob}(h:zbv lo w own a n f)(he:∀i,i<n->f' i=f i):zbv lo w own a n f':=by
 refine⟨fun hn=>?_⟩;obtain⟨b,C,ha,hlo,hb,hC,hs,hr⟩:=h.rows hn;refine⟨b,C,ha,hlo,hb,hC,hs,fun i hi=>?_⟩;rw[he i hi];exact hr i hi
def zaW (ms:List Ob)(i:Nat):Ob:=(ms[i]?).getD ⟨ByteArray.empty,ByteArray.empty,ByteArray.empty,[],false,[],0⟩
theorem zmf {ms:List Ob}{i:Nat}(h:i<ms.length):zaW ms i=ms[i]:=by unfold zaW;rw[List.getElem?_eq_getElem h];rfl
theorem zbv.at {lo:Nat}{w:World}{own:Nat->Lb}{a:OA}{ms:List Ob}(h:zbv lo w own a ms.length (zaW ms))(hs:zfb ms)(hl:ms.length<=maxLen):zbG w a ms:=by
 refine⟨hl,fun hne=>?_⟩;obtain⟨b,C,ha,hlo,hb,hC,hsz,hr⟩:=h.rows (List.length_pos_iff.2 hne);refine⟨b,0,ha,(gES hC).1,fun i hi=>?_⟩;obtain⟨a0,a1,c0,c1,hx⟩:=hr i hi;rw[zmf hi]at hx;obtain⟨s0,s1,s2⟩:=hs.small i hi;refine⟨a0,a1,c0,c1,s0,hx.l0.at s1.1 s1.2,hx.l1.at s2.1 s2.2,fun j hj=>?_⟩;rw[cell_of_block hC,Nat.zero_add];exact hx.cell j hj
def zgP (k:Int)(x:Ob):Ob:=⟨(mkT (k)),(mkT (k+1)),(mkT (k+1+1)),(zlb (k+1+1+1) x.vs.length),((k+1+1+1+x.vs.length) % 3 == 0),(zlb (k+1+1+1+x.vs.length+1) x.hs.length),(k+1+1+1+x.vs.length+1+x.hs.length)⟩
def zq9 (k:Int)(x:Ob):Int:=k+1+1+1+x.vs.length+1+x.hs.length+1
def kOb (k:Int)(ms:List Ob):Nat->Int
 | 0=>k
 | i+1=>zq9 (kOb k ms i) (zaW ms i)
def zkd (k:Int)(ms:List Ob)(i:Nat):Ob:=zgP (kOb k ms i) (zaW ms i)
def zlz (k:Int)(ms:List Ob)(i j:Nat):Ob:=if j<i then zkd k ms j else zaW ms j
theorem zol (k:Int)(ms:List Ob)(i:Nat)(h:∀i,(zaW ms i).vs.length<=1048576/\(zaW ms i).hs.length<=1048576):k+i<=kOb k ms i/\kOb k ms i<=k+i*2097159:=by
 induction i with
 | zero=>exact⟨by show k+0<=k;omega,by show k<=k+0*2097159;omega⟩
 | succ i ih=>
  have h1:kOb k ms (i+1)=zq9 (kOb k ms i) (zaW ms i):=rfl;have h2:=h i;unfold zq9 at h1;rw[h1];exact⟨by omega,by omega⟩
theorem zjE {ms:List Ob}(h:∀i (h:i<ms.length),ms[i].vs.length<=1048576/\ms[i].hs.length<=1048576)(i:Nat):(zaW ms i).vs.length<=1048576/\(zaW ms i).hs.length<=1048576:=by
 by_cases hi:i<ms.length
 ·rw[zmf hi];exact h i hi
 ·unfold zaW;rw[List.getElem?_eq_none (by omega)];exact⟨Nat.zero_le _,Nat.zero_le _⟩
set_option maxRecDepth 20000 in
theorem zfE (lo:Nat)(own:Nat->Lb)(a:OA)(cap:Nat)(ms:List Ob)(k:Int)(w:World)(h:zbv lo w own a ms.length (zaW ms))(hl:ms.length<=1048576)(hls:∀i,(zaW ms i).vs.length<=1048576/\(zaW ms i).hs.length<=1048576)(hk:0<k)(hk2:k<5000000000000000000) :
 Calls Tryz.prog 54 #[.l a ms.length cap,.i k] w fun e w'=>e=.returned (.i (kOb k ms ms.length))/\zbv lo w' own a ms.length (zkd k ms)/\Left (fun q=>(own q).1=0) w w':=by
 have HF:=hid h;have HL:=ql hl hls;have HK:=ql hk hk2;clear h hl hk hk2 hls;go_enter Tryz.func54,Tryz.ntmps54;go_wp2_with fail
 go_loopw [1,5] (fun kv iv wr=>∃i:Nat,i<=ms.length/\kv=.i (kOb k ms i)/\iv=.i i/\Hid (zbv lo wr own a ms.length (zlz k ms i)/\Left (fun q=>(own q).1=0) w wr)) (fun _ iv _=>ms.length-(intOf iv).toNat)
 case atStart=>exact⟨0,Nat.zero_le _,rfl,rfl,HF.o.same (fun i _=>if_neg (Nat.not_lt_zero i)),Left.refl _ _⟩
 case round=>
  obtain⟨i,hile,rfl,rfl,HQ⟩:=hrel
  by_cases hlt:i<ms.length
  ·have hltI:(i:Int)<(ms.length:Int):=by omega
   have HKI:Hid (kOb k ms (i+1)=zq9 (kOb k ms i) (zaW ms i)):=rfl;have hkb:=zol k ms i HL.o.2;have HMX:Hid (zkd k ms i=zgP (kOb k ms i) (zaW ms i)):=rfl
   generalize kOb k ms i=kk at hkb HKI HMX ⊢
   have HB:Hid (0<kk/\kk<7000000000000000000):=by have a:=HK.o;have b:=HL.o.1;exact⟨by omega,by omega⟩
   clear hkb;obtain⟨bo,C,rfl,hlo,hbo,hC,hsz,hr⟩:=HQ.o.1.rows (by omega);obtain⟨a0,a1,c0,c1,hx⟩:=hr i hlt;rw[show zlz k ms i i=zaW ms i from if_neg (Nat.lt_irrefl i)]at hx;have HFX:=hid (HL.o.2 i)
   generalize zaW ms i=x at hx HKI HMX HFX
   have HS:=hid (show i*7+7<=C.size by omega);have HRR:=zbX hlo hbo hC hsz;have M0:Hid (Mid own lo bo 121 C 7 i 0 wr wr (oC x a0 a1 c0 c1) a0 a1 none x.vs x.hs []):=⟨jl.new hC hx.cell,rfl,Left.refl _ _,hbo,hx.l0,hx.o0,hx.l1,hx.o1,Or.inl ⟨rfl,rfl⟩,(fun _ h=>by cases h)⟩
   clear hr hx hlo hbo hC hsz;go_wp2_with fail
   refine(yI _ _ (by have a:=HB.o;have b:=HFX.o;omega) (by have a:=HB.o;have b:=HFX.o;omega)).mono ?_;rintro e wm1⟨rfl,hb⟩;have M1:=hid (M0.out.below hb);clear hb M0;obtain⟨y1,hv1⟩:=M1.out.ex 0 (by omega);have hf1:=fun o=>M1.out.row.fz o
   have hg1:=M1.out.row.lt;rw[Nat.add_zero]at hv1;have M2:=hid (M1.out.set 0 (.s (mkT (kk))) (by omega) HS.o);rw[Nat.add_zero]at M2;clear M1;have hw_2:wrap64 (kk+1)=kk+1:=zA _ ⟨by have a:=HB.o;have b:=HFX.o;omega,by have a:=HB.o;have b:=HFX.o;omega⟩;go_wp2_with fail
   clear hv1 hf1 hg1;refine(yI _ _ (by have a:=HB.o;have b:=HFX.o;omega) (by have a:=HB.o;have b:=HFX.o;omega)).mono ?_;rintro e wm2⟨rfl,hb⟩;have M3:=hid (M2.out.below hb);clear hb M2;obtain⟨y2,hv2⟩:=M3.out.ex 1 (by omega);have hf2:=fun o=>M3.out.row.fz o
   have hg2:=M3.out.row.lt;have M4:=hid (M3.out.set 1 (.s (mkT (kk+1))) (by omega) HS.o);clear M3;have hw_4:wrap64 (kk+1+1)=kk+1+1:=zA _ ⟨by have a:=HB.o;have b:=HFX.o;omega,by have a:=HB.o;have b:=HFX.o;omega⟩;go_wp2_with fail
   clear hv2 hf2 hg2;refine(yI _ _ (by have a:=HB.o;have b:=HFX.o;omega) (by have a:=HB.o;have b:=HFX.o;omega)).mono ?_;rintro e wm3⟨rfl,hb⟩;have M5:=hid (M4.out.below hb);clear hb M4;obtain⟨y3,hv3⟩:=M5.out.ex 2 (by omega);have hf3:=fun o=>M5.out.row.fz o
   have hg3:=M5.out.row.lt;have M6:=hid (M5.out.set 2 (.s (mkT (kk+1+1))) (by omega) HS.o);clear M5;have hw_6:wrap64 (kk+1+1+1)=kk+1+1+1:=zA _ ⟨by have a:=HB.o;have b:=HFX.o;omega,by have a:=HB.o;have b:=HFX.o;omega⟩;have hg4:=M6.out.row.lt;have hv4:_=some (Value.slice a0 x.vs.length c0):=M6.out.row.cell 3 (by omega);go_wp2_with fail
   clear hv3 hf3 hg3 hv4 hg4;refine(zgh lo c0 a0 x.vs _ _ M6.out.t0 (by have a:=HB.o;have b:=HFX.o;omega) (by have a:=HB.o;have b:=HFX.o;omega)).mono ?_;rintro e wm4⟨_,rfl,rfl,ho,hf⟩;have M7:=hid (M6.out.l0 ho hf);clear ho hf M6;obtain⟨y5,hv5⟩:=M7.out.ex 4 (by omega);have hf5:=fun o=>M7.out.row.fz o
   have hg5:=M7.out.row.lt;have htm:(kk+1+1+1+x.vs.length).tmod 3=(kk+1+1+1+x.vs.length) % 3:=Int.tmod_eq_emod_of_nonneg (by have a:=HB.o;have b:=HFX.o;omega);have hwm:wrap64 ((kk+1+1+1+x.vs.length) % 3)=(kk+1+1+1+x.vs.length) % 3:=zA _ ⟨by omega,by omega⟩;have M8:=hid (M7.out.set 4 (.bool ((kk+1+1+1+x.vs.length) % 3 == 0)) (by omega) HS.o);clear M7;have hw_8:wrap64 (kk+1+1+1+x.vs.length+1)=kk+1+1+1+x.vs.length+1:=zA _ ⟨by have a:=HB.o;have b:=HFX.o;omega,by have a:=HB.o;have b:=HFX.o;omega⟩;have hg6:=M8.out.row.lt;have hv6:_=some (Value.slice a1 x.hs.length c1):=M8.out.row.cell 5 (by omega);go_wp2_with fail
   clear hv5 hf5 hg5 htm hwm hv6 hg6;refine(zgh lo c1 a1 x.hs _ _ M8.out.t1 (by have a:=HB.o;have b:=HFX.o;omega) (by have a:=HB.o;have b:=HFX.o;omega)).mono ?_;rintro e wm5⟨_,rfl,rfl,ho,hf⟩;have M9:=hid (M8.out.l1 ho hf);clear ho hf M8;obtain⟨y7,hv7⟩:=M9.out.ex 6 (by omega);have hf7:=fun o=>M9.out.row.fz o
   have hg7:=M9.out.row.lt;have M10:=hid (M9.out.set 6 (.i (kk+1+1+1+x.vs.length+1+x.hs.length)) (by omega) HS.o);clear M9;have hw_10:wrap64 (kk+1+1+1+x.vs.length+1+x.hs.length+1)=kk+1+1+1+x.vs.length+1+x.hs.length+1:=zA _ ⟨by have a:=HB.o;have b:=HFX.o;omega,by have a:=HB.o;have b:=HFX.o;omega⟩;go_wp2_with fail
   go_roundw
   case rel=>
    have hkn:kk+1+1+1+x.vs.length+1+x.hs.length+1=kOb k ms (i+1):=HKI.o.symm;refine⟨i+1,by omega,by first|rw[hw_10,hkn]|rw[hkn],by rw[wrap_one (by have:=HL.o.1;omega)],⟨fun _=>?_⟩,HQ.o.2.trans (M10.out.left.wide ?_)⟩
    ·obtain⟨C',hC',hs',ho',hd'⟩:=M10.out.row.ex
     refine⟨bo,C',rfl,HRR.o.1,HRR.o.2.1,hC',by rw[hs'];exact HRR.o.2.2.2,fun z hz=>?_⟩
     by_cases ez:z=i
     ·subst ez
      rw[show zlz k ms (z+1) z=zkd k ms z from if_pos (Nat.lt_succ_self z),HMX.o];refine⟨a0,a1,c0,c1,fun j hj=>(hd' j hj).trans ?_,M10.out.t0,M10.out.o0,M10.out.t1,M10.out.o1⟩;unfold zgP;simp only[zbr];rfl
     ·rw[show zlz k ms (i+1) z=zlz k ms i z by unfold zlz;by_cases hz1:z<i <;> simp[hz1] <;> omega]
      obtain⟨b2,C2,h2a,_,_,h2C,_,h2r⟩:=HQ.o.1.rows (by omega)
      cases h2a
      obtain rfl:C2=C:=by have h3:=HRR.o.2.2.1;rw[h2C]at h3;cases h3;rfl
      obtain⟨d0,d1,e0,e1,hy⟩:=h2r z hz;exact⟨d0,d1,e0,e1,fun j hj=>(ho' _ (by omega)).trans (hy.cell j hj),hy.l0.left M10.out.left (fun g hg hh=>by simp only[hy.o0 g hg,Prod.mk.injEq]at hh;omega),hy.o0,hy.l1.left M10.out.left (fun g hg hh=>by simp only[hy.o1 g hg,Prod.mk.injEq]at hh;omega),hy.o1⟩
    ·rintro z (hz|hz|hz|hz) <;> rw[hz]
   case measure=>exact yR hlt (by have:=HL.o.1;omega)
  ·have e:i=ms.length:=by omega
   subst e;go_wp2_with fail
   go_ret;exact⟨rfl,HQ.o.1.same (fun j hj=>(if_pos hj).symm),HQ.o.2⟩
set_option maxRecDepth 20000 in
theorem zfA (lo:Nat)(own:Nat->Lb)(a:OA)(cap:Nat)(ms:List Ob)(k:Int)(w:World)(h:zbv lo w own a ms.length (zkd k ms))(hl:ms.length<=1048576)(hls:∀i,(zaW ms i).vs.length<=1048576/\(zaW ms i).hs.length<=1048576)(hk:0<k)(hk2:k<5000000000000000000) :
 Calls Tryz.prog 58 #[.l a ms.length cap,.i k] w fun e w'=>e=.returned (.i (kOb k ms ms.length))/\Bw w w':=by
 have HF:=hid h;have HL:=ql hl hls;have HK:=ql hk hk2;clear h hl hk hk2 hls;go_enter Tryz.func58,Tryz.ntmps58;go_wp2_with fail
 go_loopw [1,5] (fun kv iv wr=>∃i:Nat,i<=ms.length/\kv=.i (kOb k ms i)/\iv=.i i/\Bw w wr) (fun _ iv _=>ms.length-(intOf iv).toNat)
 case atStart=>exact⟨0,Nat.zero_le _,rfl,rfl,bRf _ _⟩
 case round=>
  obtain⟨i,hile,rfl,rfl,hB⟩:=hrel
  by_cases hlt:i<ms.length
  ·have hltI:(i:Int)<(ms.length:Int):=by omega
   have HKI:Hid (kOb k ms (i+1)=zq9 (kOb k ms i) (zaW ms i)):=rfl;have hkb:=zol k ms i HL.o.2;have HMX:Hid (zkd k ms i=zgP (kOb k ms i) (zaW ms i)):=rfl
   generalize kOb k ms i=kk at hkb HKI HMX ⊢
   have HB:Hid (0<kk/\kk<7000000000000000000):=by have a:=HK.o;have b:=HL.o.1;exact⟨by omega,by omega⟩
   clear hkb;obtain⟨bo,C,rfl,hlo,hbo,hC,hsz,hr⟩:=HF.o.rows (by omega);obtain⟨a0,a1,c0,c1,hx⟩:=hr i hlt;rw[HMX.o]at hx;have HFX:=hid (HL.o.2 i)
   generalize zaW ms i=x at hx HKI HMX HFX
   have HR0:Hid (jl w bo 121 C 7 i #[.s (zgP kk x).kd,.s (zgP kk x).nm,.s (zgP kk x).tm,.l a0 (zgP kk x).vs.length c0,.bool (zgP kk x).en,.l a1 (zgP kk x).hs.length c1,.i (zgP kk x).vr]):=jl.new hC hx.cell;have HT0:Hid (zG w a0 (zgP kk x).vs):=hx.l0.at (by show(zlb _ _).length<=_;rw[zbr];have b:=HFX.o;unfold maxLen;omega) (zju _ _ (by have a:=HB.o;have b:=HFX.o;omega) (by have a:=HB.o;have b:=HFX.o;omega));have HT1:Hid (zG w a1 (zgP kk x).hs):=hx.l1.at (by show(zlb _ _).length<=_;rw[zbr];have b:=HFX.o;unfold maxLen;omega) (zju _ _ (by have a:=HB.o;have b:=HFX.o;omega) (by have a:=HB.o;have b:=HFX.o;omega));have HR1:Hid (jl wr bo 121 C 7 i #[.s (mkT (kk)),.s (mkT (kk+1)),.s (mkT (kk+1+1)),.l a0 x.vs.length c0,.bool ((kk+1+1+1+x.vs.length) % 3 == 0),.l a1 x.hs.length c1,.i (kk+1+1+1+x.vs.length+1+x.hs.length)]):=by have hh:=(HR0.o).left (Left.of_below (fun _=>False) (hB.mono (Nat.le_refl _))) (fun h=>h);unfold zgP at hh;simp only[zbr]at hh;exact hh
   have HB0:=hid hB;clear hr hx hlo hbo hC hsz hB HR0;have hv1:wr.drew.cell? (aD bo (i*7))=some (.s (mkT (kk))):=by have hh:=(HR1.o).cell 0 (by omega);rw[Nat.add_zero]at hh;exact hh
   have hlt1:bo<wr.drew.heap.size:=(HR1.o).lt;have hBd:Below wr.drew.heap.size wr wr.drew:=(bRf _ _).drew;go_wp2_with fail
   go_region_held3 (fun w'=>w'.cell? (aD bo (i*7))=some (.s (mkT (kk)))) (exact hv1) (first|(go_at_call 107;refine(yI _ _ (by have a:=HB.o;have b:=HFX.o;omega) (by have a:=HB.o;have b:=HFX.o;omega)).mono ?_;rintro e wm1⟨rfl,hb⟩;have hv1:=(hb.cell (p:=(aD bo (i*7))) hlt1).trans hv1;have hBd:=hBd.trans (hb.mono hBd.size);clear hb))
   all_goals have HR2:=hid ((HR1.o).below hBd)
   all_goals have HB1:=hid (HB0.o.trans (hBd.mono HB0.o.size))
   all_goals clear hBd hlt1 HR1 HB0
   have hw_13:wrap64 (kk+1)=kk+1:=zA _ ⟨by have a:=HB.o;have b:=HFX.o;omega,by have a:=HB.o;have b:=HFX.o;omega⟩;have hv2:wm1.drew.cell? (aD bo (i*7+1))=some (.s (mkT (kk+1))):=by have hh:=(HR2.o).cell 1 (by omega);exact hh
   have hlt2:bo<wm1.drew.heap.size:=(HR2.o).lt;have hBd:Below wm1.drew.heap.size wm1 wm1.drew:=(bRf _ _).drew;go_wp2_with fail
   clear hv1
   go_region_held3 (fun w'=>w'.cell? (aD bo (i*7+1))=some (.s (mkT (kk+1)))) (exact hv2) (first|(go_at_call 107;refine(yI _ _ (by have a:=HB.o;have b:=HFX.o;omega) (by have a:=HB.o;have b:=HFX.o;omega)).mono ?_;rintro e wm2⟨rfl,hb⟩;have hv2:=(hb.cell (p:=(aD bo (i*7+1))) hlt2).trans hv2;have hBd:=hBd.trans (hb.mono hBd.size);clear hb))
   all_goals have HR3:=hid ((HR2.o).below hBd)
   all_goals have HB2:=hid (HB1.o.trans (hBd.mono HB1.o.size))
   all_goals clear hBd hlt2 HR2 HB1
   have hw_23:wrap64 (kk+1+1)=kk+1+1:=zA _ ⟨by have a:=HB.o;have b:=HFX.o;omega,by have a:=HB.o;have b:=HFX.o;omega⟩;have hv3:wm2.drew.cell? (aD bo (i*7+2))=some (.s (mkT (kk+1+1))):=by have hh:=(HR3.o).cell 2 (by omega);exact hh
   have hlt3:bo<wm2.drew.heap.size:=(HR3.o).lt;have hBd:Below wm2.drew.heap.size wm2 wm2.drew:=(bRf _ _).drew;go_wp2_with fail
   clear hv2
   go_region_held3 (fun w'=>w'.cell? (aD bo (i*7+2))=some (.s (mkT (kk+1+1)))) (exact hv3) (first|(go_at_call 107;refine(yI _ _ (by have a:=HB.o;have b:=HFX.o;omega) (by have a:=HB.o;have b:=HFX.o;omega)).mono ?_;rintro e wm3⟨rfl,hb⟩;have hv3:=(hb.cell (p:=(aD bo (i*7+2))) hlt3).trans hv3;have hBd:=hBd.trans (hb.mono hBd.size);clear hb))
   all_goals have HR4:=hid ((HR3.o).below hBd)
   all_goals have HB3:=hid (HB2.o.trans (hBd.mono HB2.o.size))
   all_goals clear hBd hlt3 HR3 HB2
   have hw_33:wrap64 (kk+1+1+1)=kk+1+1+1:=zA _ ⟨by have a:=HB.o;have b:=HFX.o;omega,by have a:=HB.o;have b:=HFX.o;omega⟩;have hsl0:=(HR4.o).cell 3 (by omega);have hltl0:=(HR4.o).lt;go_wp2_with fail
   clear hv3 hsl0 hltl0;refine(zgo a0 c0 x.vs.length _ _ (HT0.o.mono HB3.o) (by have a:=HB.o;have b:=HFX.o;omega) (by have a:=HB.o;have b:=HFX.o;omega)).mono ?_;rintro e wm4⟨kq0,rfl,hke,hb⟩;obtain rfl:=hke;have HR5:=hid ((HR4.o).below hb);have HB4:=hid (HB3.o.trans (hb.mono HB3.o.size));clear hb HR4 HB3;have hng0:decide (kk+1+1+1+x.vs.length<0)=false:=by simp only[decide_eq_false_iff_not];have a:=HB.o;have b:=HFX.o;omega
   have hv_4:=(HR5.o).cell 4 (by omega);have hlt_4:=(HR5.o).lt;have htm:(kk+1+1+1+x.vs.length).tmod 3=(kk+1+1+1+x.vs.length) % 3:=Int.tmod_eq_emod_of_nonneg (by have a:=HB.o;have b:=HFX.o;omega);have hwm:wrap64 ((kk+1+1+1+x.vs.length) % 3)=(kk+1+1+1+x.vs.length) % 3:=zA _ ⟨by omega,by omega⟩;have hne_4:(((kk+1+1+1+x.vs.length) % 3 == 0) != ((kk+1+1+1+x.vs.length) % 3 == 0))=false:=by simp
   have hw_50:wrap64 (kk+1+1+1+x.vs.length+1)=kk+1+1+1+x.vs.length+1:=zA _ ⟨by have a:=HB.o;have b:=HFX.o;omega,by have a:=HB.o;have b:=HFX.o;omega⟩;have hsl1:=(HR5.o).cell 5 (by omega);have hltl1:=(HR5.o).lt;go_wp2_with fail
   clear hng0 hv_4 hlt_4 htm hwm hne_4 hsl1 hltl1;refine(zgo a1 c1 x.hs.length _ _ (HT1.o.mono HB4.o) (by have a:=HB.o;have b:=HFX.o;omega) (by have a:=HB.o;have b:=HFX.o;omega)).mono ?_;rintro e wm5⟨kq1,rfl,hke,hb⟩;obtain rfl:=hke;have HR6:=hid ((HR5.o).below hb);have HB5:=hid (HB4.o.trans (hb.mono HB4.o.size));clear hb HR5 HB4;have hng1:decide (kk+1+1+1+x.vs.length+1+x.hs.length<0)=false:=by simp only[decide_eq_false_iff_not];have a:=HB.o;have b:=HFX.o;omega
   have hv_6:=(HR6.o).cell 6 (by omega);have hlt_6:=(HR6.o).lt;have hne_6:((kk+1+1+1+x.vs.length+1+x.hs.length) != (kk+1+1+1+x.vs.length+1+x.hs.length))=false:=by simp
   have hw_65:wrap64 (kk+1+1+1+x.vs.length+1+x.hs.length+1)=kk+1+1+1+x.vs.length+1+x.hs.length+1:=zA _ ⟨by have a:=HB.o;have b:=HFX.o;omega,by have a:=HB.o;have b:=HFX.o;omega⟩;go_wp2_with fail
   have hkn:kk+1+1+1+x.vs.length+1+x.hs.length+1=kOb k ms (i+1):=by rw[HKI.o];rfl
   exact⟨⟨i+1,by omega,by first|rw[hw_65,hkn]|rw[hkn],by rw[wrap_one (by have:=HL.o.1;omega)],HB5.o⟩,yR hlt (by have:=HL.o.1;omega)⟩
  ·have e:i=ms.length:=by omega
   subst e;go_wp2_with fail
   go_ret;exact⟨rfl,hB⟩
structure GrE (lo:Nat)(w:World)(own:Nat->Lb)(c:Nat->Option Value)(i:Nat)(x:Gr)(a0:OA)(c0:Nat):Prop where
 cell:∀j,j<7->c j=(#[.i x.no,.s x.to,.s x.gb,.l a0 x.r.vs.length c0,.s x.r.kd,.s x.r.tm,.s x.r.px]:AV)[j]?
 l0:yx lo w a0 x.r.vs
 o0:∀g,a0=some g->own g.block=(1,i,3)
structure zck (lo:Nat)(w:World)(own:Nat->Lb)(a:OA)(n:Nat)(f:Nat->Gr):Prop where
 rows:0<n->∃b C,a=some (aD b 0)/\lo<=b/\own b=(1,0,0)/\w.heap[b]?=some (.cells C 125)/\n*7<=C.size/\∀i,i<n->∃a0 c0,GrE lo w own (fun j=>C[i*7+j]?) i (f i) a0 c0
theorem zck.left {S:Nat->Prop}{lo:Nat}{w w':World}{own:Nat->Lb}{a:OA}{n:Nat}{f:Nat->Gr}(h:zck lo w own a n f)(hl:Left S w w')(hS:∀k,(own k).1=1->¬S k):zck lo w' own a n f:=by
 refine⟨fun hn=>?_⟩;obtain⟨b,C,ha,hlo,hb,hC,hs,hr⟩:=h.rows hn;refine⟨b,C,ha,hlo,hb,(hl.out b (gES hC).1 (hS b (by rw[hb]))).trans hC,hs,fun i hi=>?_⟩;obtain⟨a0,c0,he⟩:=hr i hi;exact⟨a0,c0,he.cell,he.l0.left hl (fun g hg=>hS _ (by rw[he.o0 g hg])),he.o0⟩
theorem zck.mono {lo:Nat}{w w':World}{own:Nat->Lb}{a:OA}{n:Nat}{f:Nat->Gr}(h:zck lo w own a n f)(hb:Bw w w'):zck lo w' own a n f:=h.left (Left.of_below (fun _=>False) hb) (fun _ _ h=>h)
theorem zck.own {lo:Nat}{w:World}{own own':Nat->Lb}{a:OA}{n:Nat}{f:Nat->Gr}(h:zck lo w own a n f)(he:∀k,k<w.heap.size->(own k).1=1->own' k=own k):zck lo w own' a n f:=by
 refine⟨fun hn=>?_⟩;obtain⟨b,C,ha,hlo,hb,hC,hs,hr⟩:=h.rows hn;refine⟨b,C,ha,hlo,(he b (gES hC).1 (by rw[hb])).trans hb,hC,hs,fun i hi=>?_⟩;obtain⟨a0,c0,hx⟩:=hr i hi;exact⟨a0,c0,hx.cell,hx.l0,fun g hg=>(he _ (hx.l0.lt g hg) (by rw[hx.o0 g hg])).trans (hx.o0 g hg)⟩
theorem zck.low {lo lo':Nat}{w:World}{own:Nat->Lb}{a:OA}{n:Nat}{f:Nat->Gr}(h:zck lo w own a n f)(hl:lo'<=lo):zck lo' w own a n f:=by
 refine⟨fun hn=>?_⟩;obtain⟨b,C,ha,hlo,hb,hC,hs,hr⟩:=h.rows hn;refine⟨b,C,ha,Nat.le_trans hl hlo,hb,hC,hs,fun i hi=>?_⟩;obtain⟨a0,c0,hx⟩:=hr i hi;exact⟨a0,c0,hx.cell,hx.l0.low hl,hx.o0⟩
theorem zck.same {lo:Nat}{w:World}{own:Nat->Lb}{a:OA}{n:Nat}{f f':Nat->Gr}(h:zck lo w own a n f)(he:∀i,i<n->f' i=f i):zck lo w own a n f':=by
 refine⟨fun hn=>?_⟩;obtain⟨b,C,ha,hlo,hb,hC,hs,hr⟩:=h.rows hn;refine⟨b,C,ha,hlo,hb,hC,hs,fun i hi=>?_⟩;rw[he i hi];exact hr i hi
def zcl (ms:List Gr)(i:Nat):Gr:=(ms[i]?).getD ⟨0,ByteArray.empty,ByteArray.empty,⟨[],ByteArray.empty,ByteArray.empty,ByteArray.empty⟩⟩
theorem zl3 {ms:List Gr}{i:Nat}(h:i<ms.length):zcl ms i=ms[i]:=by unfold zcl;rw[List.getElem?_eq_getElem h];rfl
theorem zck.at {lo:Nat}{w:World}{own:Nat->Lb}{a:OA}{ms:List Gr}(h:zck lo w own a ms.length (zcl ms))(hs:zha ms)(hl:ms.length<=maxLen):zcj w a ms:=by
 refine⟨hl,fun hne=>?_⟩;obtain⟨b,C,ha,hlo,hb,hC,hsz,hr⟩:=h.rows (List.length_pos_iff.2 hne);refine⟨b,0,ha,(gES hC).1,fun i hi=>?_⟩;obtain⟨a0,c0,hx⟩:=hr i hi;rw[zl3 hi]at hx;obtain⟨s0,s1⟩:=hs.small i hi;refine⟨a0,c0,s0,hx.l0.at s1,fun j hj=>?_⟩;rw[cell_of_block hC,Nat.zero_add];exact hx.cell j hj
def zhW (k:Int)(x:Gr):Gr:=⟨(k),(mkT (k+1)),(mkT (k+1+1)),⟨(zq8 (k+1+1+1) x.r.vs.length),(mkT (k+1+1+1+x.r.vs.length)),(mkT (k+1+1+1+x.r.vs.length+1)),(mkT (k+1+1+1+x.r.vs.length+1+1))⟩⟩
def zq4 (k:Int)(x:Gr):Int:=k+1+1+1+x.r.vs.length+1+1+1
def kGr (k:Int)(ms:List Gr):Nat->Int
 | 0=>k
 | i+1=>zq4 (kGr k ms i) (zcl ms i)
def zjD (k:Int)(ms:List Gr)(i:Nat):Gr:=zhW (kGr k ms i) (zcl ms i)
def zlt (k:Int)(ms:List Gr)(i j:Nat):Gr:=if j<i then zjD k ms j else zcl ms j
theorem zoB (k:Int)(ms:List Gr)(i:Nat)(h:∀i,(zcl ms i).r.vs.length<=1048576):k+i<=kGr k ms i/\kGr k ms i<=k+i*1048583:=by
 induction i with
 | zero=>exact⟨by show k+0<=k;omega,by show k<=k+0*1048583;omega⟩
 | succ i ih=>
  have h1:kGr k ms (i+1)=zq4 (kGr k ms i) (zcl ms i):=rfl;have h2:=h i;unfold zq4 at h1;rw[h1];exact⟨by omega,by omega⟩
theorem zjF {ms:List Gr}(h:∀i (h:i<ms.length),ms[i].r.vs.length<=1048576)(i:Nat):(zcl ms i).r.vs.length<=1048576:=by
 by_cases hi:i<ms.length
 ·rw[zl3 hi];exact h i hi
 ·unfold zcl;rw[List.getElem?_eq_none (by omega)];exact Nat.zero_le _
set_option maxRecDepth 20000 in
theorem zf1 (lo:Nat)(own:Nat->Lb)(a:OA)(cap:Nat)(ms:List Gr)(k:Int)(w:World)(h:zck lo w own a ms.length (zcl ms))(hl:ms.length<=1048576)(hls:∀i,(zcl ms i).r.vs.length<=1048576)(hk:0<k)(hk2:k<5000000000000000000) :
 Calls Tryz.prog 55 #[.l a ms.length cap,.i k] w fun e w'=>e=.returned (.i (kGr k ms ms.length))/\zck lo w' own a ms.length (zjD k ms)/\Left (fun q=>(own q).1=1) w w':=by
 have HF:=hid h;have HL:=ql hl hls;have HK:=ql hk hk2;clear h hl hk hk2 hls;go_enter Tryz.func55,Tryz.ntmps55;go_wp2_with fail
 go_loopw [1,5] (fun kv iv wr=>∃i:Nat,i<=ms.length/\kv=.i (kGr k ms i)/\iv=.i i/\Hid (zck lo wr own a ms.length (zlt k ms i)/\Left (fun q=>(own q).1=1) w wr)) (fun _ iv _=>ms.length-(intOf iv).toNat)
 case atStart=>exact⟨0,Nat.zero_le _,rfl,rfl,HF.o.same (fun i _=>if_neg (Nat.not_lt_zero i)),Left.refl _ _⟩
 case round=>
  obtain⟨i,hile,rfl,rfl,HQ⟩:=hrel
  by_cases hlt:i<ms.length
  ·have hltI:(i:Int)<(ms.length:Int):=by omega
   have HKI:Hid (kGr k ms (i+1)=zq4 (kGr k ms i) (zcl ms i)):=rfl;have hkb:=zoB k ms i HL.o.2;have HMX:Hid (zjD k ms i=zhW (kGr k ms i) (zcl ms i)):=rfl
   generalize kGr k ms i=kk at hkb HKI HMX ⊢
   have HB:Hid (0<kk/\kk<7000000000000000000):=by have a:=HK.o;have b:=HL.o.1;exact⟨by omega,by omega⟩
   clear hkb;obtain⟨bo,C,rfl,hlo,hbo,hC,hsz,hr⟩:=HQ.o.1.rows (by omega);obtain⟨a0,c0,hx⟩:=hr i hlt;rw[show zlt k ms i i=zcl ms i from if_neg (Nat.lt_irrefl i)]at hx;have HFX:=hid (HL.o.2 i)
   generalize zcl ms i=x at hx HKI HMX HFX
   have HS:=hid (show i*7+7<=C.size by omega);have HRR:=zbX hlo hbo hC hsz;have M0:Hid (Mid own lo bo 125 C 7 i 1 wr wr #[.i x.no,.s x.to,.s x.gb,.l a0 x.r.vs.length c0,.s x.r.kd,.s x.r.tm,.s x.r.px] none none a0 [] [] x.r.vs):=⟨jl.new hC hx.cell,rfl,Left.refl _ _,hbo,Or.inl ⟨rfl,rfl⟩,(fun _ h=>by cases h),Or.inl ⟨rfl,rfl⟩,(fun _ h=>by cases h),hx.l0,hx.o0⟩
   clear hr hx hlo hbo hC hsz;obtain⟨y1,hv1⟩:=M0.out.ex 0 (by omega);have hf1:=fun o=>M0.out.row.fz o
   have hg1:=M0.out.row.lt;rw[Nat.add_zero]at hv1;have M1:=hid (M0.out.set 0 (.i (kk)) (by omega) HS.o);rw[Nat.add_zero]at M1;clear M0;have hw_1:wrap64 (kk+1)=kk+1:=zA _ ⟨by have a:=HB.o;have b:=HFX.o;omega,by have a:=HB.o;have b:=HFX.o;omega⟩;go_wp2_with fail
   clear hv1 hf1 hg1;refine(yI _ _ (by have a:=HB.o;have b:=HFX.o;omega) (by have a:=HB.o;have b:=HFX.o;omega)).mono ?_;rintro e wm1⟨rfl,hb⟩;have M2:=hid (M1.out.below hb);clear hb M1;obtain⟨y2,hv2⟩:=M2.out.ex 1 (by omega);have hf2:=fun o=>M2.out.row.fz o
   have hg2:=M2.out.row.lt;have M3:=hid (M2.out.set 1 (.s (mkT (kk+1))) (by omega) HS.o);clear M2;have hw_3:wrap64 (kk+1+1)=kk+1+1:=zA _ ⟨by have a:=HB.o;have b:=HFX.o;omega,by have a:=HB.o;have b:=HFX.o;omega⟩;go_wp2_with fail
   clear hv2 hf2 hg2;refine(yI _ _ (by have a:=HB.o;have b:=HFX.o;omega) (by have a:=HB.o;have b:=HFX.o;omega)).mono ?_;rintro e wm2⟨rfl,hb⟩;have M4:=hid (M3.out.below hb);clear hb M3;obtain⟨y3,hv3⟩:=M4.out.ex 2 (by omega);have hf3:=fun o=>M4.out.row.fz o
   have hg3:=M4.out.row.lt;have M5:=hid (M4.out.set 2 (.s (mkT (kk+1+1))) (by omega) HS.o);clear M4;have hw_5:wrap64 (kk+1+1+1)=kk+1+1+1:=zA _ ⟨by have a:=HB.o;have b:=HFX.o;omega,by have a:=HB.o;have b:=HFX.o;omega⟩;have hg4:=M5.out.row.lt;have hv4:_=some (Value.slice a0 x.r.vs.length c0):=M5.out.row.cell 3 (by omega);go_wp2_with fail
   clear hv3 hf3 hg3 hv4 hg4;refine(zpY lo c0 a0 x.r.vs _ _ M5.out.t2 (by have a:=HB.o;have b:=HFX.o;omega) (by have a:=HB.o;have b:=HFX.o;omega)).mono ?_;rintro e wm3⟨_,rfl,rfl,ho,hf⟩;have M6:=hid (M5.out.l2 ho hf);clear ho hf M5;go_wp2_with fail
   refine(yI _ _ (by have a:=HB.o;have b:=HFX.o;omega) (by have a:=HB.o;have b:=HFX.o;omega)).mono ?_;rintro e wm4⟨rfl,hb⟩;have M7:=hid (M6.out.below hb);clear hb M6;obtain⟨y5,hv5⟩:=M7.out.ex 4 (by omega);have hf5:=fun o=>M7.out.row.fz o
   have hg5:=M7.out.row.lt;have M8:=hid (M7.out.set 4 (.s (mkT (kk+1+1+1+x.r.vs.length))) (by omega) HS.o);clear M7;have hw_8:wrap64 (kk+1+1+1+x.r.vs.length+1)=kk+1+1+1+x.r.vs.length+1:=zA _ ⟨by have a:=HB.o;have b:=HFX.o;omega,by have a:=HB.o;have b:=HFX.o;omega⟩;go_wp2_with fail
   clear hv5 hf5 hg5;refine(yI _ _ (by have a:=HB.o;have b:=HFX.o;omega) (by have a:=HB.o;have b:=HFX.o;omega)).mono ?_;rintro e wm5⟨rfl,hb⟩;have M9:=hid (M8.out.below hb);clear hb M8;obtain⟨y6,hv6⟩:=M9.out.ex 5 (by omega);have hf6:=fun o=>M9.out.row.fz o
   have hg6:=M9.out.row.lt;have M10:=hid (M9.out.set 5 (.s (mkT (kk+1+1+1+x.r.vs.length+1))) (by omega) HS.o);clear M9;have hw_10:wrap64 (kk+1+1+1+x.r.vs.length+1+1)=kk+1+1+1+x.r.vs.length+1+1:=zA _ ⟨by have a:=HB.o;have b:=HFX.o;omega,by have a:=HB.o;have b:=HFX.o;omega⟩;go_wp2_with fail
   clear hv6 hf6 hg6;refine(yI _ _ (by have a:=HB.o;have b:=HFX.o;omega) (by have a:=HB.o;have b:=HFX.o;omega)).mono ?_;rintro e wm6⟨rfl,hb⟩;have M11:=hid (M10.out.below hb);clear hb M10;obtain⟨y7,hv7⟩:=M11.out.ex 6 (by omega);have hf7:=fun o=>M11.out.row.fz o
   have hg7:=M11.out.row.lt;have M12:=hid (M11.out.set 6 (.s (mkT (kk+1+1+1+x.r.vs.length+1+1))) (by omega) HS.o);clear M11;have hw_12:wrap64 (kk+1+1+1+x.r.vs.length+1+1+1)=kk+1+1+1+x.r.vs.length+1+1+1:=zA _ ⟨by have a:=HB.o;have b:=HFX.o;omega,by have a:=HB.o;have b:=HFX.o;omega⟩;go_wp2_with fail
   go_roundw
   case rel=>
    have hkn:kk+1+1+1+x.r.vs.length+1+1+1=kGr k ms (i+1):=HKI.o.symm;refine⟨i+1,by omega,by first|rw[hw_12,hkn]|rw[hkn],by rw[wrap_one (by have:=HL.o.1;omega)],⟨fun _=>?_⟩,HQ.o.2.trans (M12.out.left.wide ?_)⟩
    ·obtain⟨C',hC',hs',ho',hd'⟩:=M12.out.row.ex
     refine⟨bo,C',rfl,HRR.o.1,HRR.o.2.1,hC',by rw[hs'];exact HRR.o.2.2.2,fun z hz=>?_⟩
     by_cases ez:z=i
     ·subst ez
      rw[show zlt k ms (z+1) z=zjD k ms z from if_pos (Nat.lt_succ_self z),HMX.o];refine⟨a0,c0,fun j hj=>(hd' j hj).trans ?_,M12.out.t2,M12.out.o2⟩;unfold zhW;simp only[zdf];rfl
     ·rw[show zlt k ms (i+1) z=zlt k ms i z by unfold zlt;by_cases hz1:z<i <;> simp[hz1] <;> omega]
      obtain⟨b2,C2,h2a,_,_,h2C,_,h2r⟩:=HQ.o.1.rows (by omega)
      cases h2a
      obtain rfl:C2=C:=by have h3:=HRR.o.2.2.1;rw[h2C]at h3;cases h3;rfl
      obtain⟨d0,e0,hy⟩:=h2r z hz;exact⟨d0,e0,fun j hj=>(ho' _ (by omega)).trans (hy.cell j hj),hy.l0.left M12.out.left (fun g hg hh=>by simp only[hy.o0 g hg,Prod.mk.injEq]at hh;omega),hy.o0⟩
    ·rintro z (hz|hz|hz|hz) <;> rw[hz]
   case measure=>exact yR hlt (by have:=HL.o.1;omega)
  ·have e:i=ms.length:=by omega
   subst e;go_wp2_with fail
   go_ret;exact⟨rfl,HQ.o.1.same (fun j hj=>(if_pos hj).symm),HQ.o.2⟩
set_option maxRecDepth 20000 in
theorem zf9 (lo:Nat)(own:Nat->Lb)(a:OA)(cap:Nat)(ms:List Gr)(k:Int)(w:World)(h:zck lo w own a ms.length (zjD k ms))(hl:ms.length<=1048576)(hls:∀i,(zcl ms i).r.vs.length<=1048576)(hk:0<k)(hk2:k<5000000000000000000) :
 Calls Tryz.prog 59 #[.l a ms.length cap,.i k] w fun e w'=>e=.returned (.i (kGr k ms ms.length))/\Bw w w':=by
 have HF:=hid h;have HL:=ql hl hls;have HK:=ql hk hk2;clear h hl hk hk2 hls;go_enter Tryz.func59,Tryz.ntmps59;go_wp2_with fail
 go_loopw [1,5] (fun kv iv wr=>∃i:Nat,i<=ms.length/\kv=.i (kGr k ms i)/\iv=.i i/\Bw w wr) (fun _ iv _=>ms.length-(intOf iv).toNat)
 case atStart=>exact⟨0,Nat.zero_le _,rfl,rfl,bRf _ _⟩
 case round=>
  obtain⟨i,hile,rfl,rfl,hB⟩:=hrel
  by_cases hlt:i<ms.length
  ·have hltI:(i:Int)<(ms.length:Int):=by omega
   have HKI:Hid (kGr k ms (i+1)=zq4 (kGr k ms i) (zcl ms i)):=rfl;have hkb:=zoB k ms i HL.o.2;have HMX:Hid (zjD k ms i=zhW (kGr k ms i) (zcl ms i)):=rfl
   generalize kGr k ms i=kk at hkb HKI HMX ⊢
   have HB:Hid (0<kk/\kk<7000000000000000000):=by have a:=HK.o;have b:=HL.o.1;exact⟨by omega,by omega⟩
   clear hkb;obtain⟨bo,C,rfl,hlo,hbo,hC,hsz,hr⟩:=HF.o.rows (by omega);obtain⟨a0,c0,hx⟩:=hr i hlt;rw[HMX.o]at hx;have HFX:=hid (HL.o.2 i)
   generalize zcl ms i=x at hx HKI HMX HFX
   have HR0:Hid (jl w bo 125 C 7 i #[.i (zhW kk x).no,.s (zhW kk x).to,.s (zhW kk x).gb,.l a0 (zhW kk x).r.vs.length c0,.s (zhW kk x).r.kd,.s (zhW kk x).r.tm,.s (zhW kk x).r.px]):=jl.new hC hx.cell;have HT0:Hid (qm w a0 (zhW kk x).r.vs):=hx.l0.at (by show(zq8 _ _).length<=_;rw[zdf];have b:=HFX.o;unfold maxLen;omega);have HR1:Hid (jl wr bo 125 C 7 i #[.i (kk),.s (mkT (kk+1)),.s (mkT (kk+1+1)),.l a0 x.r.vs.length c0,.s (mkT (kk+1+1+1+x.r.vs.length)),.s (mkT (kk+1+1+1+x.r.vs.length+1)),.s (mkT (kk+1+1+1+x.r.vs.length+1+1))]):=by have hh:=(HR0.o).left (Left.of_below (fun _=>False) (hB.mono (Nat.le_refl _))) (fun h=>h);unfold zhW at hh;simp only[zdf]at hh;exact hh
   have HB0:=hid hB;clear hr hx hlo hbo hC hsz hB HR0;have hv_0:=(HR1.o).cell 0 (by omega);rw[Nat.add_zero]at hv_0;have hlt_0:=(HR1.o).lt;have hne_0:((kk) != (kk))=false:=by simp
   have hw_8:wrap64 (kk+1)=kk+1:=zA _ ⟨by have a:=HB.o;have b:=HFX.o;omega,by have a:=HB.o;have b:=HFX.o;omega⟩;have hv1:wr.drew.cell? (aD bo (i*7+1))=some (.s (mkT (kk+1))):=by have hh:=(HR1.o).cell 1 (by omega);exact hh
   have hlt1:bo<wr.drew.heap.size:=(HR1.o).lt;have hBd:Below wr.drew.heap.size wr wr.drew:=(bRf _ _).drew;go_wp2_with fail
   clear hv_0 hlt_0 hne_0
   go_region_held3 (fun w'=>w'.cell? (aD bo (i*7+1))=some (.s (mkT (kk+1)))) (exact hv1) (first|(go_at_call 107;refine(yI _ _ (by have a:=HB.o;have b:=HFX.o;omega) (by have a:=HB.o;have b:=HFX.o;omega)).mono ?_;rintro e wm1⟨rfl,hb⟩;have hv1:=(hb.cell (p:=(aD bo (i*7+1))) hlt1).trans hv1;have hBd:=hBd.trans (hb.mono hBd.size);clear hb))
   all_goals have HR2:=hid ((HR1.o).below hBd)
   all_goals have HB1:=hid (HB0.o.trans (hBd.mono HB0.o.size))
   all_goals clear hBd hlt1 HR1 HB0
   have hw_18:wrap64 (kk+1+1)=kk+1+1:=zA _ ⟨by have a:=HB.o;have b:=HFX.o;omega,by have a:=HB.o;have b:=HFX.o;omega⟩;have hv2:wm1.drew.cell? (aD bo (i*7+2))=some (.s (mkT (kk+1+1))):=by have hh:=(HR2.o).cell 2 (by omega);exact hh
   have hlt2:bo<wm1.drew.heap.size:=(HR2.o).lt;have hBd:Below wm1.drew.heap.size wm1 wm1.drew:=(bRf _ _).drew;go_wp2_with fail
   clear hv1
   go_region_held3 (fun w'=>w'.cell? (aD bo (i*7+2))=some (.s (mkT (kk+1+1)))) (exact hv2) (first|(go_at_call 107;refine(yI _ _ (by have a:=HB.o;have b:=HFX.o;omega) (by have a:=HB.o;have b:=HFX.o;omega)).mono ?_;rintro e wm2⟨rfl,hb⟩;have hv2:=(hb.cell (p:=(aD bo (i*7+2))) hlt2).trans hv2;have hBd:=hBd.trans (hb.mono hBd.size);clear hb))
   all_goals have HR3:=hid ((HR2.o).below hBd)
   all_goals have HB2:=hid (HB1.o.trans (hBd.mono HB1.o.size))
   all_goals clear hBd hlt2 HR2 HB1
   have hw_28:wrap64 (kk+1+1+1)=kk+1+1+1:=zA _ ⟨by have a:=HB.o;have b:=HFX.o;omega,by have a:=HB.o;have b:=HFX.o;omega⟩;have hsl0:=(HR3.o).cell 3 (by omega);have hltl0:=(HR3.o).lt;go_wp2_with fail
   clear hv2 hsl0 hltl0;refine(zqm a0 c0 x.r.vs.length _ _ (HT0.o.mono HB2.o) (by have b:=HFX.o;omega) (by have a:=HB.o;have b:=HFX.o;omega) (by have a:=HB.o;have b:=HFX.o;omega)).mono ?_;rintro e wm3⟨kq0,rfl,hke,hb⟩;obtain rfl:=hke;have HR4:=hid ((HR3.o).below hb);have HB3:=hid (HB2.o.trans (hb.mono HB2.o.size));clear hb HR3 HB2;have hng0:decide (kk+1+1+1+x.r.vs.length<0)=false:=by simp only[decide_eq_false_iff_not];have a:=HB.o;have b:=HFX.o;omega
   have hv4:wm3.drew.cell? (aD bo (i*7+4))=some (.s (mkT (kk+1+1+1+x.r.vs.length))):=by have hh:=(HR4.o).cell 4 (by omega);exact hh
   have hlt4:bo<wm3.drew.heap.size:=(HR4.o).lt;have hBd:Below wm3.drew.heap.size wm3 wm3.drew:=(bRf _ _).drew;go_wp2_with fail
   clear hng0
   go_region_held3 (fun w'=>w'.cell? (aD bo (i*7+4))=some (.s (mkT (kk+1+1+1+x.r.vs.length)))) (exact hv4) (first|(go_at_call 107;refine(yI _ _ (by have a:=HB.o;have b:=HFX.o;omega) (by have a:=HB.o;have b:=HFX.o;omega)).mono ?_;rintro e wm4⟨rfl,hb⟩;have hv4:=(hb.cell (p:=(aD bo (i*7+4))) hlt4).trans hv4;have hBd:=hBd.trans (hb.mono hBd.size);clear hb))
   all_goals have HR5:=hid ((HR4.o).below hBd)
   all_goals have HB4:=hid (HB3.o.trans (hBd.mono HB3.o.size))
   all_goals clear hBd hlt4 HR4 HB3
   have hw_49:wrap64 (kk+1+1+1+x.r.vs.length+1)=kk+1+1+1+x.r.vs.length+1:=zA _ ⟨by have a:=HB.o;have b:=HFX.o;omega,by have a:=HB.o;have b:=HFX.o;omega⟩;have hv5:wm4.drew.cell? (aD bo (i*7+5))=some (.s (mkT (kk+1+1+1+x.r.vs.length+1))):=by have hh:=(HR5.o).cell 5 (by omega);exact hh
   have hlt5:bo<wm4.drew.heap.size:=(HR5.o).lt;have hBd:Below wm4.drew.heap.size wm4 wm4.drew:=(bRf _ _).drew;go_wp2_with fail
   clear hv4
   go_region_held3 (fun w'=>w'.cell? (aD bo (i*7+5))=some (.s (mkT (kk+1+1+1+x.r.vs.length+1)))) (exact hv5) (first|(go_at_call 107;refine(yI _ _ (by have a:=HB.o;have b:=HFX.o;omega) (by have a:=HB.o;have b:=HFX.o;omega)).mono ?_;rintro e wm5⟨rfl,hb⟩;have hv5:=(hb.cell (p:=(aD bo (i*7+5))) hlt5).trans hv5;have hBd:=hBd.trans (hb.mono hBd.size);clear hb))
   all_goals have HR6:=hid ((HR5.o).below hBd)
   all_goals have HB5:=hid (HB4.o.trans (hBd.mono HB4.o.size))
   all_goals clear hBd hlt5 HR5 HB4
   have hw_59:wrap64 (kk+1+1+1+x.r.vs.length+1+1)=kk+1+1+1+x.r.vs.length+1+1:=zA _ ⟨by have a:=HB.o;have b:=HFX.o;omega,by have a:=HB.o;have b:=HFX.o;omega⟩;have hv6:wm5.drew.cell? (aD bo (i*7+6))=some (.s (mkT (kk+1+1+1+x.r.vs.length+1+1))):=by have hh:=(HR6.o).cell 6 (by omega);exact hh
   have hlt6:bo<wm5.drew.heap.size:=(HR6.o).lt;have hBd:Below wm5.drew.heap.size wm5 wm5.drew:=(bRf _ _).drew;go_wp2_with fail
   clear hv5
   go_region_held3 (fun w'=>w'.cell? (aD bo (i*7+6))=some (.s (mkT (kk+1+1+1+x.r.vs.length+1+1)))) (exact hv6) (first|(go_at_call 107;refine(yI _ _ (by have a:=HB.o;have b:=HFX.o;omega) (by have a:=HB.o;have b:=HFX.o;omega)).mono ?_;rintro e wm6⟨rfl,hb⟩;have hv6:=(hb.cell (p:=(aD bo (i*7+6))) hlt6).trans hv6;have hBd:=hBd.trans (hb.mono hBd.size);clear hb))
   all_goals have HR7:=hid ((HR6.o).below hBd)
   all_goals have HB6:=hid (HB5.o.trans (hBd.mono HB5.o.size))
   all_goals clear hBd hlt6 HR6 HB5
   have hw_69:wrap64 (kk+1+1+1+x.r.vs.length+1+1+1)=kk+1+1+1+x.r.vs.length+1+1+1:=zA _ ⟨by have a:=HB.o;have b:=HFX.o;omega,by have a:=HB.o;have b:=HFX.o;omega⟩;go_wp2_with fail
   have hkn:kk+1+1+1+x.r.vs.length+1+1+1=kGr k ms (i+1):=by rw[HKI.o];rfl
   exact⟨⟨i+1,by omega,by first|rw[hw_69,hkn]|rw[hkn],by rw[wrap_one (by have:=HL.o.1;omega)],HB6.o⟩,yR hlt (by have:=HL.o.1;omega)⟩
  ·have e:i=ms.length:=by omega
   subst e;go_wp2_with fail
   go_ret;exact⟨rfl,hB⟩
structure LgE (c:Nat->Option Value)(x:Lg):Prop where
 cell:∀j,j<4->c j=(#[.s x.tm,.s x.rs,.i x.mo,.i x.fr]:AV)[j]?
structure zco (lo:Nat)(w:World)(own:Nat->Lb)(a:OA)(n:Nat)(f:Nat->Lg):Prop where
 rows:0<n->∃b C,a=some (aD b 0)/\lo<=b/\own b=(2,0,0)/\w.heap[b]?=some (.cells C 69)/\n*4<=C.size/\∀i,i<n->LgE (fun j=>C[i*4+j]?) (f i)
theorem zco.left {S:Nat->Prop}{lo:Nat}{w w':World}{own:Nat->Lb}{a:OA}{n:Nat}{f:Nat->Lg}(h:zco lo w own a n f)(hl:Left S w w')(hS:∀k,(own k).1=2->¬S k):zco lo w' own a n f:=by
 refine⟨fun hn=>?_⟩;obtain⟨b,C,ha,hlo,hb,hC,hs,hr⟩:=h.rows hn;refine⟨b,C,ha,hlo,hb,(hl.out b (gES hC).1 (hS b (by rw[hb]))).trans hC,hs,hr⟩
theorem zco.mono {lo:Nat}{w w':World}{own:Nat->Lb}{a:OA}{n:Nat}{f:Nat->Lg}(h:zco lo w own a n f)(hb:Bw w w'):zco lo w' own a n f:=h.left (Left.of_below (fun _=>False) hb) (fun _ _ h=>h)
theorem zco.own {lo:Nat}{w:World}{own own':Nat->Lb}{a:OA}{n:Nat}{f:Nat->Lg}(h:zco lo w own a n f)(he:∀k,k<w.heap.size->(own k).1=2->own' k=own k):zco lo w own' a n f:=by
 refine⟨fun hn=>?_⟩;obtain⟨b,C,ha,hlo,hb,hC,hs,hr⟩:=h.rows hn;refine⟨b,C,ha,hlo,(he b (gES hC).1 (by rw[hb])).trans hb,hC,hs,hr⟩
theorem zco.low {lo lo':Nat}{w:World}{own:Nat->Lb}{a:OA}{n:Nat}{f:Nat->Lg}(h:zco lo w own a n f)(hl:lo'<=lo):zco lo' w own a n f:=by
 refine⟨fun hn=>?_⟩;obtain⟨b,C,ha,hlo,hb,hC,hs,hr⟩:=h.rows hn;refine⟨b,C,ha,Nat.le_trans hl hlo,hb,hC,hs,hr⟩
theorem zco.same {lo:Nat}{w:World}{own:Nat->Lb}{a:OA}{n:Nat}{f f':Nat->Lg}(h:zco lo w own a n f)(he:∀i,i<n->f' i=f i):zco lo w own a n f':=by
 refine⟨fun hn=>?_⟩;obtain⟨b,C,ha,hlo,hb,hC,hs,hr⟩:=h.rows hn;refine⟨b,C,ha,hlo,hb,hC,hs,fun i hi=>?_⟩;rw[he i hi];exact hr i hi
def zet (ms:List Lg)(i:Nat):Lg:=(ms[i]?).getD ⟨ByteArray.empty,ByteArray.empty,0,0⟩
theorem zpz {ms:List Lg}{i:Nat}(h:i<ms.length):zet ms i=ms[i]:=by unfold zet;rw[List.getElem?_eq_getElem h];rfl
theorem zco.at {lo:Nat}{w:World}{own:Nat->Lb}{a:OA}{ms:List Lg}(h:zco lo w own a ms.length (zet ms))(hs:∀i (h:i<ms.length),ms[i].Small)(hl:ms.length<=maxLen):zbn w a ms:=by
 refine⟨hl,hs,fun hne=>?_⟩;obtain⟨b,C,ha,hlo,hb,hC,hsz,hr⟩:=h.rows (List.length_pos_iff.2 hne);refine⟨b,0,ha,(gES hC).1,fun i hi j hj=>?_⟩;have hx:=hr i hi;rw[zpz hi]at hx;rw[cell_of_block hC,Nat.zero_add];exact hx.cell j hj
def zmV (k:Int)(_x:Lg):Lg:=⟨(mkT (k)),(mkT (k+1)),(k+1+1),(k+1+1+1)⟩
def zqu (k:Int)(_x:Lg):Int:=k+1+1+1+1
def kLg (k:Int)(ms:List Lg):Nat->Int
 | 0=>k
 | i+1=>zqu (kLg k ms i) (zet ms i)
def zjP (k:Int)(ms:List Lg)(i:Nat):Lg:=zmV (kLg k ms i) (zet ms i)
def zlr (k:Int)(ms:List Lg)(i j:Nat):Lg:=if j<i then zjP k ms j else zet ms j
theorem zoa (k:Int)(ms:List Lg)(i:Nat):k+i<=kLg k ms i/\kLg k ms i<=k+i*4:=by
 induction i with
 | zero=>exact⟨by show k+0<=k;omega,by show k<=k+0*4;omega⟩
 | succ i ih=>
  have h1:kLg k ms (i+1)=zqu (kLg k ms i) (zet ms i):=rfl;unfold zqu at h1;rw[h1];exact⟨by omega,by omega⟩
set_option maxRecDepth 20000 in
theorem zfB (lo:Nat)(own:Nat->Lb)(a:OA)(cap:Nat)(ms:List Lg)(k:Int)(w:World)(h:zco lo w own a ms.length (zet ms))(hl:ms.length<=1048576)(hk:0<k)(hk2:k<5000000000000000000) :
 Calls Tryz.prog 56 #[.l a ms.length cap,.i k] w fun e w'=>e=.returned (.i (kLg k ms ms.length))/\zco lo w' own a ms.length (zjP k ms)/\Left (fun q=>(own q).1=2) w w':=by
 have HF:=hid h;have HL:=hid hl;have HK:=ql hk hk2;clear h hl hk hk2;go_enter Tryz.func56,Tryz.ntmps56;go_wp2_with fail
 go_loopw [1,5] (fun kv iv wr=>∃i:Nat,i<=ms.length/\kv=.i (kLg k ms i)/\iv=.i i/\Hid (zco lo wr own a ms.length (zlr k ms i)/\Left (fun q=>(own q).1=2) w wr)) (fun _ iv _=>ms.length-(intOf iv).toNat)
 case atStart=>exact⟨0,Nat.zero_le _,rfl,rfl,HF.o.same (fun i _=>if_neg (Nat.not_lt_zero i)),Left.refl _ _⟩
 case round=>
  obtain⟨i,hile,rfl,rfl,HQ⟩:=hrel
  by_cases hlt:i<ms.length
  ·have hltI:(i:Int)<(ms.length:Int):=by omega
   have HKI:Hid (kLg k ms (i+1)=zqu (kLg k ms i) (zet ms i)):=rfl;have hkb:=zoa k ms i;have HMX:Hid (zjP k ms i=zmV (kLg k ms i) (zet ms i)):=rfl
   generalize kLg k ms i=kk at hkb HKI HMX ⊢
   have HB:Hid (0<kk/\kk<7000000000000000000):=by have a:=HK.o;have b:=HL.o;exact⟨by omega,by omega⟩
   clear hkb;obtain⟨bo,C,rfl,hlo,hbo,hC,hsz,hr⟩:=HQ.o.1.rows (by omega);have hx:=hr i hlt;rw[show zlr k ms i i=zet ms i from if_neg (Nat.lt_irrefl i)]at hx
   generalize zet ms i=x at hx HKI HMX
   have HS:=hid (show i*4+4<=C.size by omega);have HRR:=zbX hlo hbo hC hsz;have M0:Hid (Mid own lo bo 69 C 4 i 2 wr wr #[.s x.tm,.s x.rs,.i x.mo,.i x.fr] none none none [] [] []):=⟨jl.new hC hx.cell,rfl,Left.refl _ _,hbo,Or.inl ⟨rfl,rfl⟩,(fun _ h=>by cases h),Or.inl ⟨rfl,rfl⟩,(fun _ h=>by cases h),Or.inl ⟨rfl,rfl⟩,(fun _ h=>by cases h)⟩
   clear hr hx hlo hbo hC hsz;go_wp2_with fail
   refine(yI _ _ (by have a:=HB.o;omega) (by have a:=HB.o;omega)).mono ?_;rintro e wm1⟨rfl,hb⟩;have M1:=hid (M0.out.below hb);clear hb M0;obtain⟨y1,hv1⟩:=M1.out.ex 0 (by omega);have hf1:=fun o=>M1.out.row.fz o
   have hg1:=M1.out.row.lt;rw[Nat.add_zero]at hv1;have M2:=hid (M1.out.set 0 (.s (mkT (kk))) (by omega) HS.o);rw[Nat.add_zero]at M2;clear M1;have hw_2:wrap64 (kk+1)=kk+1:=zA _ ⟨by have a:=HB.o;omega,by have a:=HB.o;omega⟩;go_wp2_with fail
   clear hv1 hf1 hg1;refine(yI _ _ (by have a:=HB.o;omega) (by have a:=HB.o;omega)).mono ?_;rintro e wm2⟨rfl,hb⟩;have M3:=hid (M2.out.below hb);clear hb M2;obtain⟨y2,hv2⟩:=M3.out.ex 1 (by omega);have hf2:=fun o=>M3.out.row.fz o
   have hg2:=M3.out.row.lt;have M4:=hid (M3.out.set 1 (.s (mkT (kk+1))) (by omega) HS.o);clear M3;have hw_4:wrap64 (kk+1+1)=kk+1+1:=zA _ ⟨by have a:=HB.o;omega,by have a:=HB.o;omega⟩;obtain⟨y3,hv3⟩:=M4.out.ex 2 (by omega);have hf3:=fun o=>M4.out.row.fz o
   have hg3:=M4.out.row.lt;have M5:=hid (M4.out.set 2 (.i (kk+1+1)) (by omega) HS.o);clear M4;have hw_5:wrap64 (kk+1+1+1)=kk+1+1+1:=zA _ ⟨by have a:=HB.o;omega,by have a:=HB.o;omega⟩;obtain⟨y4,hv4⟩:=M5.out.ex 3 (by omega);have hf4:=fun o=>M5.out.row.fz o
   have hg4:=M5.out.row.lt;have M6:=hid (M5.out.set 3 (.i (kk+1+1+1)) (by omega) HS.o);clear M5;have hw_6:wrap64 (kk+1+1+1+1)=kk+1+1+1+1:=zA _ ⟨by have a:=HB.o;omega,by have a:=HB.o;omega⟩;go_wp2_with fail
   go_roundw
   case rel=>
    have hkn:kk+1+1+1+1=kLg k ms (i+1):=HKI.o.symm;refine⟨i+1,by omega,by first|rw[hw_6,hkn]|rw[hkn],by rw[wrap_one (by have:=HL.o;omega)],⟨fun _=>?_⟩,HQ.o.2.trans (M6.out.left.wide ?_)⟩
    ·obtain⟨C',hC',hs',ho',hd'⟩:=M6.out.row.ex
     refine⟨bo,C',rfl,HRR.o.1,HRR.o.2.1,hC',by rw[hs'];exact HRR.o.2.2.2,fun z hz=>?_⟩
     by_cases ez:z=i
     ·subst ez
      rw[show zlr k ms (z+1) z=zjP k ms z from if_pos (Nat.lt_succ_self z),HMX.o];exact⟨fun j hj=>hd' j hj⟩
     ·rw[show zlr k ms (i+1) z=zlr k ms i z by unfold zlr;by_cases hz1:z<i <;> simp[hz1] <;> omega]
      obtain⟨b2,C2,h2a,_,_,h2C,_,h2r⟩:=HQ.o.1.rows (by omega)
      cases h2a
      obtain rfl:C2=C:=by have h3:=HRR.o.2.2.1;rw[h2C]at h3;cases h3;rfl
      exact⟨fun j hj=>(ho' _ (by omega)).trans ((h2r z hz).cell j hj)⟩
    ·rintro z (hz|hz|hz|hz) <;> rw[hz]
   case measure=>exact yR hlt (by have:=HL.o;omega)
  ·have e:i=ms.length:=by omega
   subst e;go_wp2_with fail
   go_ret;exact⟨rfl,HQ.o.1.same (fun j hj=>(if_pos hj).symm),HQ.o.2⟩
set_option maxRecDepth 20000 in
theorem zfC (lo:Nat)(own:Nat->Lb)(a:OA)(cap:Nat)(ms:List Lg)(k:Int)(w:World)(h:zco lo w own a ms.length (zjP k ms))(hl:ms.length<=1048576)(hk:0<k)(hk2:k<5000000000000000000) :
 Calls Tryz.prog 60 #[.l a ms.length cap,.i k] w fun e w'=>e=.returned (.i (kLg k ms ms.length))/\Bw w w':=by
 have HF:=hid h;have HL:=hid hl;have HK:=ql hk hk2;clear h hl hk hk2;go_enter Tryz.func60,Tryz.ntmps60;go_wp2_with fail
 go_loopw [1,5] (fun kv iv wr=>∃i:Nat,i<=ms.length/\kv=.i (kLg k ms i)/\iv=.i i/\Bw w wr) (fun _ iv _=>ms.length-(intOf iv).toNat)
 case atStart=>exact⟨0,Nat.zero_le _,rfl,rfl,bRf _ _⟩
 case round=>
  obtain⟨i,hile,rfl,rfl,hB⟩:=hrel
  by_cases hlt:i<ms.length
  ·have hltI:(i:Int)<(ms.length:Int):=by omega
   have HKI:Hid (kLg k ms (i+1)=zqu (kLg k ms i) (zet ms i)):=rfl;have hkb:=zoa k ms i;have HMX:Hid (zjP k ms i=zmV (kLg k ms i) (zet ms i)):=rfl
   generalize kLg k ms i=kk at hkb HKI HMX ⊢
   have HB:Hid (0<kk/\kk<7000000000000000000):=by have a:=HK.o;have b:=HL.o;exact⟨by omega,by omega⟩
   clear hkb;obtain⟨bo,C,rfl,hlo,hbo,hC,hsz,hr⟩:=HF.o.rows (by omega);have hx:=hr i hlt;rw[HMX.o]at hx
   generalize zet ms i=x at hx HKI HMX
   have HR0:Hid (jl w bo 69 C 4 i #[.s (zmV kk x).tm,.s (zmV kk x).rs,.i (zmV kk x).mo,.i (zmV kk x).fr]):=jl.new hC hx.cell;have HR1:Hid (jl wr bo 69 C 4 i #[.s (mkT (kk)),.s (mkT (kk+1)),.i (kk+1+1),.i (kk+1+1+1)]):=by have hh:=(HR0.o).left (Left.of_below (fun _=>False) (hB.mono (Nat.le_refl _))) (fun h=>h);unfold zmV at hh;exact hh
   have HB0:=hid hB;clear hr hx hlo hbo hC hsz hB HR0;have hv1:wr.drew.cell? (aD bo (i*4))=some (.s (mkT (kk))):=by have hh:=(HR1.o).cell 0 (by omega);rw[Nat.add_zero]at hh;exact hh
   have hlt1:bo<wr.drew.heap.size:=(HR1.o).lt;have hBd:Below wr.drew.heap.size wr wr.drew:=(bRf _ _).drew;go_wp2_with fail
   go_region_held3 (fun w'=>w'.cell? (aD bo (i*4))=some (.s (mkT (kk)))) (exact hv1) (first|(go_at_call 107;refine(yI _ _ (by have a:=HB.o;omega) (by have a:=HB.o;omega)).mono ?_;rintro e wm1⟨rfl,hb⟩;have hv1:=(hb.cell (p:=(aD bo (i*4))) hlt1).trans hv1;have hBd:=hBd.trans (hb.mono hBd.size);clear hb))
   all_goals have HR2:=hid ((HR1.o).below hBd)
   all_goals have HB1:=hid (HB0.o.trans (hBd.mono HB0.o.size))
   all_goals clear hBd hlt1 HR1 HB0
   have hw_11:wrap64 (kk+1)=kk+1:=zA _ ⟨by have a:=HB.o;omega,by have a:=HB.o;omega⟩;have hv2:wm1.drew.cell? (aD bo (i*4+1))=some (.s (mkT (kk+1))):=by have hh:=(HR2.o).cell 1 (by omega);exact hh
   have hlt2:bo<wm1.drew.heap.size:=(HR2.o).lt;have hBd:Below wm1.drew.heap.size wm1 wm1.drew:=(bRf _ _).drew;go_wp2_with fail
   clear hv1
   go_region_held3 (fun w'=>w'.cell? (aD bo (i*4+1))=some (.s (mkT (kk+1)))) (exact hv2) (first|(go_at_call 107;refine(yI _ _ (by have a:=HB.o;omega) (by have a:=HB.o;omega)).mono ?_;rintro e wm2⟨rfl,hb⟩;have hv2:=(hb.cell (p:=(aD bo (i*4+1))) hlt2).trans hv2;have hBd:=hBd.trans (hb.mono hBd.size);clear hb))
   all_goals have HR3:=hid ((HR2.o).below hBd)
   all_goals have HB2:=hid (HB1.o.trans (hBd.mono HB1.o.size))
   all_goals clear hBd hlt2 HR2 HB1
   have hw_21:wrap64 (kk+1+1)=kk+1+1:=zA _ ⟨by have a:=HB.o;omega,by have a:=HB.o;omega⟩;have hv_2:=(HR3.o).cell 2 (by omega);have hlt_2:=(HR3.o).lt;have hne_2:((kk+1+1) != (kk+1+1))=false:=by simp
   have hw_25:wrap64 (kk+1+1+1)=kk+1+1+1:=zA _ ⟨by have a:=HB.o;omega,by have a:=HB.o;omega⟩;have hv_3:=(HR3.o).cell 3 (by omega);have hlt_3:=(HR3.o).lt;have hne_3:((kk+1+1+1) != (kk+1+1+1))=false:=by simp
   have hw_29:wrap64 (kk+1+1+1+1)=kk+1+1+1+1:=zA _ ⟨by have a:=HB.o;omega,by have a:=HB.o;omega⟩;go_wp2_with fail
   have hkn:kk+1+1+1+1=kLg k ms (i+1):=by rw[HKI.o];rfl
   exact⟨⟨i+1,by omega,by first|rw[hw_29,hkn]|rw[hkn],by rw[wrap_one (by have:=HL.o;omega)],HB2.o⟩,yR hlt (by have:=HL.o;omega)⟩
  ·have e:i=ms.length:=by omega
   subst e;go_wp2_with fail
   go_ret;exact⟨rfl,hB⟩
end Go.Proofs.YtcgpjfcocmcodaaGreat
