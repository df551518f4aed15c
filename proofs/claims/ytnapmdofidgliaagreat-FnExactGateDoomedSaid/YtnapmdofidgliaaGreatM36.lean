import Derived.Test.YtnapmdofidgliaaGreatM35
set_option maxHeartbeats 4000000
namespace Go.Proofs.YtnapmdofidgliaaGreat
open Go.RowKit
theorem qp (a:Option Addr)(cap:Nat)(fs:List Fld)(v:ByteArray)(w:World)(hw:zY w a fs) :
 Calls Tryz.prog 172 #[.slice a fs.length cap,.string v] w fun e w'=>e=.returned (.int .i64 (zR fs v))/\w'=w:=by
 have hl:=hw.len;unfold maxLen at hl;go_enter Tryz.func172,Tryz.ntmps172
 go_wp2
 go_loop [5] (fun i=>∃k:Nat,k<=fs.length/\i=.int .i64 k/\hasName (fs.take k) v=false) (fun i=>fs.length-(intOf i).toNat)
 case atStart=>exact⟨0,Nat.zero_le _,rfl,rfl⟩
 case round=>
  obtain⟨k,hk,rfl,hno⟩:=hrel
  by_cases hlt:k<fs.length
  ·obtain⟨b,off,rfl,hb,hr⟩:=hw.rows (by rintro rfl;simp at hlt)
   obtain⟨wa,wcap,hf⟩:=hr k hlt;obtain⟨c0,c1,c2,c3,c4,c5,c6,c7,c8,c9,c10⟩:=hf.load;clear hw hr hf c1 c2 c3 c4 c5 c6 c7 c8 c9 c10
   by_cases he:fs[k].nm=v
   ·have hbe:(fs[k].nm.toList == v.toList)=true:=by rw[beq_toList];simpa using he
    have HB:Hid (zR fs v=(k:Int)):=zer fs v k hlt hno he;clear he hno
    go_wp2
    go_ret;exact⟨by rw[HB.out];rfl,rfl⟩
   ·have hbe:(fs[k].nm.toList == v.toList)=false:=by rw[beq_toList];simpa using he
    have HS:Hid (hasName (fs.take (k+1)) v=false):=by unfold Hid;rw[zd8 fs v k hlt,hno,decide_eq_false he];rfl
    clear he hno
    go_wp2
    go_round
    case rel=>exact⟨k+1,by omega,by go_num,HS.out⟩
    case measure=>simp[intOf];omega
  ·have HA:Hid (zR fs v=-1):=zgW fs v (by rw[<- zia fs v k (by omega)];exact hno)
   clear hno hw
   go_wp2
   go_ret;exact⟨by rw[HA.out];rfl,rfl⟩
theorem zA (a:Option Addr)(cap:Nat)(fs:List Fld)(v:ByteArray)(w:World)(hw:zY w a fs) :
 Calls Tryz.prog 171 #[.slice a fs.length cap,.string v] w fun e w'=>e=.returned (.bool (plain fs v))/\Below w.heap.size w w':=by
 have hl:=hw.len;unfold maxLen at hl
 rcases jm fs v with⟨h1,h2⟩|⟨i,hi,h1,h2,h3⟩
 ·have HP:Hid (plain fs v=false):=zav h2
  go_enter Tryz.func171,Tryz.ntmps171;go_wp2_with fail
  have h:=qp a cap fs v w hw;rw[h1]at h;refine h.mono ?_;rintro e w1⟨rfl,rfl⟩;clear h;go_wp2_with fail
  go_ret;exact⟨by rw[HP.out];rfl,bRf _ _⟩
 ·have HP:Hid (plain fs v=decide (fs[i].kd≠4)):=zkd h3
  obtain⟨b,off,rfl,hb,hr⟩:=hw.rows (by rintro rfl;simp at hi);obtain⟨wa,wcap,hf0⟩:=hr i hi;go_enter Tryz.func171,Tryz.ntmps171;go_wp2_with fail
  have h:=qp (some ⟨b,off,none⟩) cap fs v w hw;rw[h1]at h;refine h.mono ?_;rintro e w1⟨rfl,rfl⟩;obtain⟨c0,c1,c2,c3,c4,c5,c6,c7,c8,c9,c10⟩:=hf0.load;have hiI:(i:Int)<(fs.length:Int):=by omega
  have hge:decide ((i:Int)≥0)=true:=by simp
  clear h hw hr hf0 h3 h2 h1;go_wp2_with fail
  go_ret;exact⟨by rw[HP.out];exact zq1 fs[i].kd,bRf _ _⟩
def yu (fs:List Fld)(m:Mnd):Bool:=
 plain fs m.fd&&(!isSet m.wh||plain fs m.wh)&&(!isSet m.fr||plain fs m.fr)&&!decide (m.wh=m.fd)&&!decide (m.fr=m.fd)&&yD fs m
theorem zpL (s:ByteArray):isSet s=true↔s≠ByteArray.empty:=by
 unfold isSet;rw[zq]
 constructor
 ·intro h e;subst e;simp at h
 ·intro h
  simp only[Bool.not_eq_true',decide_eq_false_iff_not];intro h0
  apply h
  have:s.data.size=0:=h0
  cases s with
  | mk d=>simp only at this;have:=Array.eq_empty_of_size_eq_zero this;subst this;rfl
def yE (ls:List Lg)(tick:Int)(p:Pu):Bool:=jr ls p.tm p.rs&&(zB p.dr&&(within p.am 1 1000000&&within p.un tick (tick+10)))
noncomputable def y7 (b:Bk):Bool:=decide (b.ps.length<=24)&&(zbZ zaB b.ps&&b.ps.all (yE b.ls b.tick))
theorem zdP (p:Pu)(w:World):Calls Tryz.prog 166 #[.agg p.cells] w fun e w'=>e=.returned (yw p.tm p.rs)/\Below w.heap.size w w':=by
 unfold Pu.cells yw;go_enter Tryz.func166,Tryz.ntmps166;go_wp2_with fail
 refine bodyPost_ret (v:=.agg #[.string p.tm,.string p.rs]) (by simp[results,Tryz.results166,go_sem]) rfl ⟨rfl,?_⟩
 first|exact zw _ _ _|exact((zw _ _ _).setCell (by simp) _).setCell (by simp) _|exact((zw _ _ _).setCell (by show _<=_+1;omega) _).setCell (by show _<=_+1;omega) _
theorem zbY (p:Lg)(w:World):Calls Tryz.prog 168 #[.agg p.cells] w fun e w'=>e=.returned (yw p.tm p.rs)/\Below w.heap.size w w':=by
 unfold Lg.cells yw;go_enter Tryz.func168,Tryz.ntmps168;go_wp2_with fail
 refine bodyPost_ret (v:=.agg #[.string p.tm,.string p.rs]) (by simp[results,Tryz.results168,go_sem]) rfl ⟨rfl,?_⟩
 first|exact zw _ _ _|exact((zw _ _ _).setCell (by simp) _).setCell (by simp) _|exact((zw _ _ _).setCell (by show _<=_+1;omega) _).setCell (by show _<=_+1;omega) _
theorem zit (a:Option Addr)(cap:Nat)(ms:List Lg)(tm rs:ByteArray)(w:World)(hw:zcX w a ms)(hl:ms.length<=1000)(hr:rising qP ms) :
 Calls Tryz.prog 165 #[.slice a ms.length cap,yw tm rs] w fun e w'=>(∃p:Nat,e=.returned (.tuple #[.int .i64 p,.bool (jr ms tm rs)])/\zfi ms tm rs p)/\Below w.heap.size w w':=by
 unfold yw;go_enter Tryz.func165,Tryz.ntmps165;go_wp2_with fail
 refine(zhQ _ _ ms ⟨tm,rs,0,0⟩ _ (hw.mono (bAl _ _)) hl hr).mono ?_;rintro e w1⟨⟨p,rfl,hp⟩,hb⟩;have hB1:Below w.heap.size w w1:=(bAl _ _).trans (hb.mono (by simp));clear hb;go_wp2_with fail
 go_ret2
 exact⟨⟨p,rfl,hp⟩,hB1⟩
theorem zk1 (b:Bk)(a0 a1 a2 a3:Option Addr)(c0 c1 c2 c3:Nat)(w:World)(hb:jk w b a0 a1 a2 a3)(hrl:rising qP b.ls)(hll:b.ls.length<=10)(htk:0<=b.tick/\b.tick<=1000000) :
 Calls Tryz.prog 120 #[.agg (b.cells a0 a1 a2 a3 c0 c1 c2 c3)] w fun e w'=>e=.returned (.bool (y7 b))/\Below w.heap.size w w':=by
 have HK:=hid hb;have HRL:=jC hrl hll;clear hb hrl hll;unfold Bk.cells
 by_cases hln:b.ps.length<=24
 rotate_left
 ·have HF:Hid (y7 b=false):=by unfold Hid y7;rw[decide_eq_false hln];rfl
  have hg:(24:Int)<(b.ps.length:Int):=by omega
  go_enter Tryz.func120,Tryz.ntmps120;go_wp2_with fail
  go_ret;exact⟨ze HF.out.symm,bAl _ _⟩
 have hg:decide ((24:Int)<(b.ps.length:Int))=false:=by simp;omega
 have HLN:Hid (b.ps.length<=24):=hln;clear hln;go_enter Tryz.func120,Tryz.ntmps120;go_wp2_with fail
 have hX0:=zl w #[.int .i64 b.now,.int .i64 b.tick,.int .i64 b.given,.slice a0 b.os.length c0,.slice a1 b.gs.length c1,.slice a2 b.ls.length c2,.slice a3 b.ps.length c3] 48;have HB0:Hid (Below w.heap.size w (w.alloc (.cells #[.int .i64 b.now,.int .i64 b.tick,.int .i64 b.given,.slice a0 b.os.length c0,.slice a1 b.gs.length c1,.slice a2 b.ls.length c2,.slice a3 b.ps.length c3] 48))):=bAl _ _;obtain⟨W0,hW0⟩:∃W0,W0=w.alloc (.cells #[.int .i64 b.now,.int .i64 b.tick,.int .i64 b.given,.slice a0 b.os.length c0,.slice a1 b.gs.length c1,.slice a2 b.ls.length c2,.slice a3 b.ps.length c3] 48):=⟨_,rfl⟩
 have hz0:w.heap.size<W0.heap.size:=by rw[hW0];simp
 rw[<- hW0]at HB0 hX0 ⊢;clear hW0;refine(ziK _ _ b.ps _ (HK.out.ps.mono HB0.out)).mono ?_;rintro e w1⟨rfl,hb1⟩;have HB1:=hid (HB0.out.trans (hb1.mono HB0.out.size));have hX1:=za hX0 hz0 hb1;have hz1:=nLt hz0 hb1.size;clear hb1 hX0 hz0 HB0
 by_cases has:zbZ zaB b.ps=true
 rotate_left
 ·have has':zbZ zaB b.ps=false:=by simpa using has
  have HF:Hid (y7 b=false):=by unfold Hid y7;rw[has'];simp
  rw[has'];clear has has';go_wp2_with fail
  go_ret;exact⟨ze HF.out.symm,HB1.out⟩
 have HG:Hid (y7 b=b.ps.all (yE b.ls b.tick)):=by unfold Hid y7;rw[has,decide_eq_true HLN.out];rfl
 rw[has];clear has;go_wp2_with fail
 go_loopw [20] (fun iv wr=>∃k:Nat,k<=b.ps.length/\iv=.int .i64 k/\Hid ((b.ps.take k).all (yE b.ls b.tick)=true/\Below w1.heap.size w1 wr)) (fun iv _=>b.ps.length-(intOf iv).toNat)
 case atStart=>exact⟨0,Nat.zero_le _,rfl,by simp,bRf _ _⟩
 case round=>
  obtain⟨k,hk,rfl,HQ⟩:=hrel;have hkn:k<=24:=by have:=HLN.out;omega
  by_cases hlt:k<b.ps.length
  ·obtain⟨ob,off,rfl,hob,d0,d1,d2,d3,d4⟩:=HK.out.ps.load (HB1.out.trans (HQ.out.2.mono HB1.out.size)) k hlt
   have hob':=nLt hob (HB1.out.trans (HQ.out.2.mono HB1.out.size)).size;have hltI:(k:Int)<(b.ps.length:Int):=by omega
   have hX:=za hX1 hz1 HQ.out.2;have hz:w.heap.size<wr.heap.size:=nLt hz1 HQ.out.2.size;have HSn:Hid ((b.ps.take (k+1)).all (yE b.ls b.tick)=((b.ps.take k).all (yE b.ls b.tick)&&(yE b.ls b.tick) b.ps[k])):=qQ _ _ _ hlt;have HBo:Hid (∀ob,Below w1.heap.size w1 (wr.alloc ob)):=fun ob=>HQ.out.2.alloc HQ.out.2.size _
   have HBw:Hid (∀W,Below w1.heap.size w1 W->Below w.heap.size w W):=fun W hW=>HB1.out.trans (hW.mono HB1.out.size)
   have HNo:Hid ((yE b.ls b.tick) b.ps[k]=false->y7 b=false):=fun h=>by rw[HG.out];exact zaD _ _ _ hlt h
   have HYes:Hid ((yE b.ls b.tick) b.ps[k]=true->(b.ps.take (k+1)).all (yE b.ls b.tick)=true):=fun h=>by rw[HSn.out,HQ.out.1,h];rfl
   have HSm:Hid b.ps[k].Small:=HK.out.ps.small k hlt;go_wp2_with fail
   have hbN:Below wr.heap.size wr (wr.alloc (.cells #[.string b.ps[k].dr,.string b.ps[k].tm,.string b.ps[k].rs,.int .i64 b.ps[k].am,.int .i64 b.ps[k].un] 144)):=bAl _ _;have hN:=zl wr #[.string b.ps[k].dr,.string b.ps[k].tm,.string b.ps[k].rs,.int .i64 b.ps[k].am,.int .i64 b.ps[k].un] 144;obtain⟨w2,hw2⟩:∃w2,w2=wr.alloc (.cells #[.string b.ps[k].dr,.string b.ps[k].tm,.string b.ps[k].rs,.int .i64 b.ps[k].am,.int .i64 b.ps[k].un] 144):=⟨_,rfl⟩
   have hn2:wr.heap.size<w2.heap.size:=by rw[hw2];simp
   rw[<- hw2]at hbN hN ⊢;have HB2:Hid (Below w1.heap.size w1 w2):=by unfold Hid;rw[hw2];exact HBo.out _
   have hX2:=za hX hz hbN;have hzX2:=Nat.lt_trans hz hn2;clear hw2 d0 d1 d2 d3 d4 hX hbN;have hS:(∀j,w2.drew.cell? ⟨w.heap.size,j,none⟩=(#[.int .i64 b.now,.int .i64 b.tick,.int .i64 b.given,.slice a0 b.os.length c0,.slice a1 b.gs.length c1,.slice a2 b.ls.length c2,.slice (some ⟨ob,off,none⟩) b.ps.length c3]:Array Value)[j]?)/\(∀j,w2.drew.cell? ⟨wr.heap.size,j,none⟩=(#[.string b.ps[k].dr,.string b.ps[k].tm,.string b.ps[k].rs,.int .i64 b.ps[k].am,.int .i64 b.ps[k].un]:Array Value)[j]?):=⟨hX2,hN⟩
   have hB:=HB2.out.drew;have hzx:=hzX2;have hzn:=hn2;clear hX2 hN
   go_region_held3 (fun w'=>(∀j,w'.cell? ⟨w.heap.size,j,none⟩=(#[.int .i64 b.now,.int .i64 b.tick,.int .i64 b.given,.slice a0 b.os.length c0,.slice a1 b.gs.length c1,.slice a2 b.ls.length c2,.slice (some ⟨ob,off,none⟩) b.ps.length c3]:Array Value)[j]?)/\(∀j,w'.cell? ⟨wr.heap.size,j,none⟩=(#[.string b.ps[k].dr,.string b.ps[k].tm,.string b.ps[k].rs,.int .i64 b.ps[k].am,.int .i64 b.ps[k].un]:Array Value)[j]?)) (exact hS) (first
    | (go_at_call 166;refine(zdP b.ps[k] _).mono ?_;rintro e w3⟨rfl,hb3⟩;have hS:=(⟨za hS.1 hzx hb3,za hS.2 hzn hb3⟩:_/\_);have hB:=hB.trans (hb3.mono hB.size);have hzx:=nLt hzx hb3.size;have hzn:=nLt hzn hb3.size;clear hb3)
    | (go_at_call 165;refine(zit _ _ b.ls b.ps[k].tm b.ps[k].rs _ (by exact HK.out.ls.mono (HBw.out _ hB)) (by have:=HRL.out.2;omega) HRL.out.1).mono ?_;rintro e w3⟨⟨pl,rfl,_⟩,hb3⟩;have hS:=(⟨za hS.1 hzx hb3,za hS.2 hzn hb3⟩:_/\_);have hB:=hB.trans (hb3.mono hB.size);have hzx:=nLt hzx hb3.size;have hzn:=nLt hzn hb3.size;clear hb3))
   have HB3:=hid hB;have hX3:=hS.1;have hN3:=hS.2;clear hS hB;have htk1:=htk;have HN1:∀v,zB b.ps[k].dr=v->Hid (∀W,Calls Tryz.prog 147 #[.string b.ps[k].dr] W fun e w'=>e=.returned (.bool v)/\w'=W):=fun v h W=>zf h (zF _ W HSm.out.dr)
   have HW1:∀v,within b.ps[k].am 1 1000000=v->Hid (∀W,Calls Tryz.prog 152 #[.int .i64 b.ps[k].am,.int .i64 1,.int .i64 1000000] W fun e w'=>e=.returned (.bool v)/\w'=W):=fun v h W=>zf h (jg _ _ _ W)
   have HW2:∀v,within b.ps[k].un b.tick (b.tick+10)=v->Hid (∀W,Calls Tryz.prog 152 #[.int .i64 b.ps[k].un,.int .i64 b.tick,.int .i64 (b.tick+10)] W fun e w'=>e=.returned (.bool v)/\w'=W):=fun v h W=>zf h (jg _ _ _ W)
   by_cases t1:jr b.ls b.ps[k].tm b.ps[k].rs=true
   rotate_left
   ·have HF:Hid (y7 b=false):=HNo.out (by unfold yE;rw[bFi t1];rfl)
    rw[bFi t1];clear HN1 HW1 HW2 t1;go_wp2_with fail
    go_ret;exact⟨ze HF.out.symm,HBw.out _ HB3.out⟩
   rw[t1]
   by_cases t2:zB b.ps[k].dr=true
   rotate_left
   ·have HF:Hid (y7 b=false):=HNo.out (by unfold yE;rw[t1,bFi t2];rfl)
    have Ht2:=HN1 false (bFi t2);clear HN1 HW1 HW2 t1 t2;go_wp2_with fail
    refine(Ht2.out _).mono ?_;rintro e w4⟨rfl,rfl⟩;go_wp2_with fail
    go_ret;exact⟨ze HF.out.symm,HBw.out _ HB3.out⟩
   have Ht2:=HN1 true t2
   by_cases t3:within b.ps[k].am 1 1000000=true
   rotate_left
   ·have HF:Hid (y7 b=false):=HNo.out (by unfold yE;rw[t1,t2,bFi t3];rfl)
    have Ht3:=HW1 false (bFi t3);clear HN1 HW1 HW2 t1 t2 t3;go_wp2_with fail
    refine(Ht2.out _).mono ?_;rintro e w4⟨rfl,rfl⟩;go_wp2_with fail
    refine(Ht3.out _).mono ?_;rintro e w4⟨rfl,rfl⟩;go_wp2_with fail
    go_ret;exact⟨ze HF.out.symm,HBw.out _ HB3.out⟩
   have Ht3:=HW1 true t3
   by_cases t4:within b.ps[k].un b.tick (b.tick+10)=true
   rotate_left
   ·have HF:Hid (y7 b=false):=HNo.out (by unfold yE;rw[t1,t2,t3,bFi t4];rfl)
    have Ht4:=HW2 false (bFi t4);clear HN1 HW1 HW2 t1 t2 t3 t4;go_wp2_with fail
    refine(Ht2.out _).mono ?_;rintro e w4⟨rfl,rfl⟩;go_wp2_with fail
    refine(Ht3.out _).mono ?_;rintro e w4⟨rfl,rfl⟩;go_wp2_with fail
    refine(Ht4.out _).mono ?_;rintro e w4⟨rfl,rfl⟩;go_wp2_with fail
    go_ret;exact⟨ze HF.out.symm,HBw.out _ HB3.out⟩
   have Ht4:=HW2 true t4;have HY:Hid ((b.ps.take (k+1)).all (yE b.ls b.tick)=true):=HYes.out (by unfold yE;rw[t1,t2,t3,t4];rfl);clear HN1 HW1 HW2 t1 t2 t3 t4;go_wp2_with fail
   refine(Ht2.out _).mono ?_;rintro e w4⟨rfl,rfl⟩;go_wp2_with fail
   refine(Ht3.out _).mono ?_;rintro e w4⟨rfl,rfl⟩;go_wp2_with fail
   refine(Ht4.out _).mono ?_;rintro e w4⟨rfl,rfl⟩;go_wp2_with fail
   exact⟨⟨k+1,by omega,by go_num,HY.out,HB3.out⟩,zm hlt⟩
  ·have e:k=b.ps.length:=by omega
   subst e
   have HE:Hid (y7 b=true):=by
    unfold Hid;rw[HG.out];have h:=HQ.out.1;rw[tOl (Nat.le_refl _)]at h;exact h
   have HBe:=hid (HB1.out.trans (HQ.out.2.mono HB1.out.size));clear hlt hk HQ;go_wp2_with fail
   go_ret;exact⟨ze HE.out.symm,HBe.out⟩
set_option maxRecDepth 20000 in
theorem zeG (a a':Option Addr)(cap cap':Nat)(ss:List Shp)(ms:List Mnd)(w:World)(hw:yU w a ss)(hm:qN w a' ms)(hml:ms.length<=1048576) :
 Calls Tryz.prog 114 #[.slice a ss.length cap,.slice a' ms.length cap'] w fun e w'=>e=.returned (.bool (yj ss ms))/\Below w.heap.size w w':=by
 have HW:=jC hw hm;have hl:=hw.len;unfold maxLen at hl;clear hw hm
 by_cases h12:ms.length<=12
 rotate_left
 ·have HF:Hid (yj ss ms=false):=by unfold Hid yj;rw[decide_eq_false h12];simp
  go_enter Tryz.func114,Tryz.ntmps114;go_wp2_with fail
  go_ret;exact⟨by rw[HF.out];rfl,bRf _ _⟩
 have h12I:(ms.length:Int)<=12:=by omega
 by_cases hok:zN ss=true
 rotate_left
 ·have hokf:zN ss=false:=by simpa using hok
  have HF:Hid (yj ss ms=false):=by unfold Hid yj;rw[hokf];simp
  go_enter Tryz.func114,Tryz.ntmps114;go_wp2_with fail
  have h:=zdT a cap ss w HW.out.1;rw[hokf]at h;refine h.mono ?_;rintro e w1⟨rfl,hb1⟩;clear h;go_wp2_with fail
  go_ret;exact⟨by rw[HF.out];rfl,hb1⟩
 have HOK:=hid hok;go_enter Tryz.func114,Tryz.ntmps114;go_wp2_with fail
 have h:=zdT a cap ss w HW.out.1;rw[hok]at h;refine h.mono ?_;rintro e w1⟨rfl,hb1⟩;have HB1:=hid hb1;clear h hb1 hok;go_wp2_with fail
 refine(zcS _).mono ?_;rintro e w2⟨rfl,hw2⟩
 have HB2:Hid (Below w.heap.size w w2/\w2.heap[w1.heap.size]?=some (.map yQ 4)/\w1.heap.size<w2.heap.size):=by
  rw[hw2];exact⟨HB1.out.trans ((bAl _ _).mono HB1.out.size),alloc_at _ _,by simp⟩
 clear hw2;go_wp2_with fail
 go_loopw [25] (fun iv wr=>∃k:Nat,k<=ms.length/\iv=.int .i64 k/\(ms.take k).all (j6 ss)=true/\Below w2.heap.size w2 wr) (fun iv _=>ms.length-(intOf iv).toNat)
 case atStart=>exact⟨0,Nat.zero_le _,rfl,rfl,bRf _ _⟩
 case round=>
  obtain⟨k,hk,rfl,hall,hB⟩:=hrel;have HB:=jC hB (HB2.out.1.trans (hB.mono HB2.out.1.size));have HA:=hid hall;clear hall hB
  by_cases hlt:k<ms.length
  ·obtain⟨b,off,rfl,hb,c0,c1,c2,c3,c4,c5⟩:=HW.out.2.load HB.out.2 k hlt
   have hltI:(k:Int)<(ms.length:Int):=by omega
   have hsm:=HW.out.2.small k hlt
   have HTK:Hid ((ms.take (k+1)).all (j6 ss)=j6 ss ms[k]):=by
    unfold Hid;rw[tSe hlt,List.all_append,HA.out];simp
   have HNO:Hid (j6 ss ms[k]=false->yj ss ms=false):=by
    intro h
    have:ms.all (j6 ss)=false:=by rw[List.all_eq_false];exact⟨_,List.getElem_mem hlt,by rw[h];simp⟩
    unfold yj;rw[this];simp
   have hba:=(bRf wr.heap.size wr).alloc (Nat.le_refl _) (.cells #[.string ms[k].kd,.string ms[k].fd,.string ms[k].wh,.string ms[k].wi,.string ms[k].pt,.string ms[k].fr] 133);have HSM:=hid hsm;clear hsm;go_wp2_with fail
   have h:=qJ a cap ss ms[k].kd _ (HW.out.1.mono (HB.out.2.trans (hba.mono HB.out.2.size)))
   by_cases hkk:zG ss ms[k].kd=true
   rotate_left
   ·have hkf:zG ss ms[k].kd=false:=by simpa using hkk
    rw[hkf]at h;refine h.mono ?_;rintro e w3⟨fa,fcap,rfl,hfl,hb3⟩;have HF:=jC (HNO.out (by unfold j6;rw[hkf];rfl)) (HB.out.2.trans ((hba.trans (hb3.mono hba.size)).mono HB.out.2.size));clear h hba hfl hb3 c0 c1 c2 c3 c4 c5;go_wp2_with fail
    go_ret;exact⟨by rw[HF.out.1];rfl,HF.out.2.alloc HF.out.2.size _⟩
   rw[hkk]at h;refine h.mono ?_;rintro e w3⟨fa,fcap,rfl,hfl,hb3⟩;have hX3:=za (zl wr _ _) (by simp) hb3;have hz3:wr.heap.size<w3.heap.size:=by have:=hb3.size;simp at this;omega
   have HB3:=hid (hba.trans (hb3.mono hba.size));have hbs:=(bRf w3.heap.size w3).alloc (Nat.le_refl _) (.cells #[.string (shapeOf ss ms[k].kd).kd,.slice fa (shapeOf ss ms[k].kd).fs.length fcap] 131);have HB4:=hid (HB3.out.trans (hbs.mono HB3.out.size));have HFL:=hid ((hfl.mono hb3).mono hbs);have HMA:Hid (j6 ss ms[k]=za4 (shapeOf ss ms[k].kd).fs ms[k]):=by unfold Hid j6;rw[hkk];simp
   have HRM:Hid ((w3.alloc (.cells #[.string (shapeOf ss ms[k].kd).kd,.slice fa (shapeOf ss ms[k].kd).fs.length fcap] 131)).heap[w1.heap.size]?=some (.map yQ 4)):=by
    have h1:=HB.out.1.size;have h2:=HB2.out.2.2;exact(HB4.out.block w1.heap.size (by omega)).trans ((HB.out.1.block w1.heap.size h2).trans HB2.out.2.1)
   clear h hba hfl hb3 hbs hkk c0 c1 c2 c3 c4 c5;go_wp2_with fail
   have h:=zo7 w1.heap.size fa fcap (shapeOf ss ms[k].kd).fs ms[k] _ HRM.out HFL.out HSM.out
   by_cases hmo:za4 (shapeOf ss ms[k].kd).fs ms[k]=true
   ·rw[hmo]at h
    refine h.mono ?_;rintro e w5⟨rfl,hb5⟩;have HY:Hid ((ms.take (k+1)).all (j6 ss)=true/\Below w2.heap.size w2 w5):=⟨by rw[HTK.out,HMA.out];exact hmo,HB.out.1.trans ((HB4.out.trans (hb5.mono HB4.out.size)).mono HB.out.1.size)⟩
    clear h hb5 hmo hX3;go_wp2_with fail
    exact⟨⟨k+1,by omega,by go_num,HY.out.1,HY.out.2⟩,zm hlt⟩
   ·have hmf:za4 (shapeOf ss ms[k].kd).fs ms[k]=false:=by simpa using hmo
    rw[hmf]at h;refine h.mono ?_;rintro e w5⟨rfl,hb5⟩;have HF:=jC (HNO.out (by rw[HMA.out];exact hmf)) (HB.out.2.trans ((HB4.out.trans (hb5.mono HB4.out.size)).mono HB.out.2.size));clear h hb5 hmo hX3;go_wp2_with fail
    go_ret;exact⟨by rw[HF.out.1];rfl,HF.out.2⟩
  ·have e:k=ms.length:=by omega
   have hall:=HA.out;rw[e,tOl (Nat.le_refl _)]at hall;have HALL:=hid hall;subst e;clear hall HA;go_wp2_with fail
   have HBw:=hid HB.out.2;clear HB
   go_loopw [49] (fun iv wq=>∃k:Nat,k<=ss.length/\iv=.int .i64 k/\(ss.take k).all (rowOk ms)=true/\Below w.heap.size w wq) (fun iv _=>ss.length-(intOf iv).toNat)
   case atStart=>exact⟨0,Nat.zero_le _,rfl,rfl,HBw.out⟩
   case round=>
    obtain⟨k,hk,rfl,hall,hB⟩:=hrel;have HB:=hid hB;have HA:=hid hall;clear hall hB
    by_cases hlt:k<ss.length
    ·obtain⟨b,off,rfl,hb,hr⟩:=HW.out.1.rows (by rintro rfl;simp at hlt)
     obtain⟨fa,fcap,hs0⟩:=hr k hlt;have hs:=hs0.mono hb HB.out;have hck:=hs.kind;have hcl:=hs.list;have hfl:=hs.zdk;have hltI:(k:Int)<(ss.length:Int):=by omega
     have HTK:Hid ((ss.take (k+1)).all (rowOk ms)=rowOk ms ss[k]):=by
      unfold Hid;rw[tSe hlt,List.all_append,HA.out];simp
     have HNO:Hid (rowOk ms ss[k]=false->yj ss ms=false):=by
      intro h
      have:ss.all (rowOk ms)=false:=by rw[List.all_eq_false];exact⟨_,List.getElem_mem hlt,by rw[h];simp⟩
      unfold yj;rw[this];simp
     have hba:=(bRf wr.heap.size wr).alloc (Nat.le_refl _) (.cells #[.string ss[k].kd,.slice fa ss[k].fs.length fcap] 131);have HFL:=hid (hfl.mono hba);have HBA:Hid (Below w.heap.size w (wr.alloc (.cells #[.string ss[k].kd,.slice fa ss[k].fs.length fcap] 131))):=HB.out.trans (hba.mono HB.out.size);clear hr hs0 hs hfl hba;go_wp2_with fail
     have h:=zh2 ss[k] ms a' fa cap' fcap _ (HW.out.2.mono HBA.out) HFL.out hml (zd0 HOK.out k hlt) (zjB HOK.out HALL.out k hlt)
     by_cases hrk:rowOk ms ss[k]=true
     ·have hrk':(zH (zn ss[k] ms) ss[k].fs.length).1=true:=hrk
      refine h.mono ?_;rintro e w5⟨v5,rfl,hb5,_⟩;have HY:Hid ((ss.take (k+1)).all (rowOk ms)=true/\Below w.heap.size w w5):=⟨by rw[HTK.out];exact hrk,HBA.out.trans (hb5.mono HBA.out.size)⟩
      rw[hrk'];clear h hb5 hrk hrk' hck hcl;go_wp2_with fail
      exact⟨⟨k+1,by omega,by go_num,HY.out.1,HY.out.2⟩,zm hlt⟩
     ·have hrf:rowOk ms ss[k]=false:=by simpa using hrk
      have hrk':(zH (zn ss[k] ms) ss[k].fs.length).1=false:=hrf;refine h.mono ?_;rintro e w5⟨v5,rfl,hb5,_⟩;have HF:Hid (yj ss ms=false/\Below w.heap.size w w5):=⟨HNO.out hrf,HBA.out.trans (hb5.mono HBA.out.size)⟩
      rw[hrk'];clear h hb5 hrk hrk' hck hcl;go_wp2_with fail
      go_ret;exact⟨by rw[HF.out.1];rfl,HF.out.2⟩
    ·have e:k=ss.length:=by omega
     have hall:=HA.out;rw[e,tOl (Nat.le_refl _)]at hall;have HF:Hid (yj ss ms=true):=by unfold Hid yj;rw[HALL.out,HOK.out,hall,decide_eq_true h12];rfl
     subst e;clear hall HA;go_wp2_with fail
     go_ret;exact⟨by rw[HF.out];rfl,HB.out⟩
end Go.Proofs.YtnapmdofidgliaaGreat
