import Derived.Test.YtnapmdofidgliaaGreatM44
set_option maxHeartbeats 40000000
namespace Go.Proofs.YtnapmdofidgliaaGreat
open Go.RowKit
noncomputable def qw (l:Lw)(b:Bk):Bool:=yV l.ts b&&(y7 b&&zcV l b)
theorem zn7 (ls:List Lg)(tm rs:ByteArray):ls.any (ze8 tm rs)=jr ls tm rs:=rfl
theorem zfa {l:Lw}{b:Bk}(h:yV l.ts b=false):qw l b=false:=by unfold qw;rw[h];rfl
theorem zfh {l:Lw}{b:Bk}(h:y7 b=false):qw l b=false:=by unfold qw;rw[h];simp
theorem znw {l:Lw}{b:Bk}(h:zcV l b=false):qw l b=false:=by unfold qw;rw[h];simp
theorem zgl {b:Bk}(h:b.ps.all (yE b.ls b.tick)=true):∀i (h:i<b.ps.length),0<=b.ps[i].am/\b.ps[i].am<=1000000:=fun i hi=>by
 have h4:=List.all_eq_true.1 h _ (List.getElem_mem hi);unfold yE within at h4;simp only[Bool.and_eq_true,decide_eq_true_eq]at h4;omega
set_option maxRecDepth 20000 in
theorem zmz (l:Lw)(la lb lc:Option Addr)(lca lcb lcc:Nat)(b:Bk)(a0 a1 a2 a3:Option Addr)(c0 c1 c2 c3:Nat)(w:World)(hl:jh w l la lb lc)(hb:jk w b a0 a1 a2 a3)(htk:0<=b.tick/\b.tick<=1000000)(hz:qG b.os<=1048576) :
 Calls Tryz.prog 64 #[.agg (l.cells la lb lc lca lcb lcc),.agg (b.cells a0 a1 a2 a3 c0 c1 c2 c3)] w fun e w'=>e=.returned (.bool (qw l b))/\Below w.heap.size w w':=by
 have HK:=hid hb;have HL:=hid hl;have HZ:=jC hz htk;clear hb hl hz htk;unfold Lw.cells Bk.cells
 by_cases hln:b.ls.length<=10
 rotate_left
 ·have HF:Hid (qw l b=false):=zfa (by unfold yV;rw[decide_eq_false hln];rfl)
  have hg:(10:Int)<(b.ls.length:Int):=by omega
  go_enter Tryz.func64,Tryz.ntmps64;go_wp2_with fail
  go_ret;exact⟨ze HF.out.symm,zw _ _ _⟩
 have hg:decide ((10:Int)<(b.ls.length:Int))=false:=by simp;omega
 have HLN:=hid hln;clear hln
 by_cases hpn:b.ps.length<=24
 rotate_left
 ·have HF:Hid (qw l b=false):=zfh (by unfold y7;rw[decide_eq_false hpn];rfl)
  have hg2:(24:Int)<(b.ps.length:Int):=by omega
  go_enter Tryz.func64,Tryz.ntmps64;go_wp2_with fail
  go_ret;exact⟨ze HF.out.symm,zw _ _ _⟩
 have hg2:decide ((24:Int)<(b.ps.length:Int))=false:=by simp;omega
 have HPN:Hid (b.ps.length<=24):=hpn;clear hpn;go_enter Tryz.func64,Tryz.ntmps64;go_wp2_with fail
 clear hg hg2;obtain⟨hL0,hX0⟩:=qx w #[.slice la l.ss.length lca,.slice lb l.ms.length lcb,.slice lc l.ts.length lcc] #[.int .i64 b.now,.int .i64 b.tick,.int .i64 b.given,.slice a0 b.os.length c0,.slice a1 b.gs.length c1,.slice a2 b.ls.length c2,.slice a3 b.ps.length c3] 41 48;have HB0:Hid (Below w.heap.size w ((w.alloc (.cells #[.slice la l.ss.length lca,.slice lb l.ms.length lcb,.slice lc l.ts.length lcc] 41)).alloc (.cells #[.int .i64 b.now,.int .i64 b.tick,.int .i64 b.given,.slice a0 b.os.length c0,.slice a1 b.gs.length c1,.slice a2 b.ls.length c2,.slice a3 b.ps.length c3] 48))):=zw w _ _;obtain⟨W0,hW0⟩:∃W0,W0=(w.alloc (.cells #[.slice la l.ss.length lca,.slice lb l.ms.length lcb,.slice lc l.ts.length lcc] 41)).alloc (.cells #[.int .i64 b.now,.int .i64 b.tick,.int .i64 b.given,.slice a0 b.os.length c0,.slice a1 b.gs.length c1,.slice a2 b.ls.length c2,.slice a3 b.ps.length c3] 48):=⟨_,rfl⟩
 have hz0:w.heap.size+1<W0.heap.size:=by rw[hW0];simp
 rw[<- hW0]at HB0 hX0 hL0 ⊢;clear hW0
 go_loopw [5] (fun iv wr=>∃k:Nat,k<=b.ps.length/\iv=.int .i64 k/\Hid ((b.ps.take k).all (yE b.ls b.tick)=true/\za2 zaB b.ps k/\Below W0.heap.size W0 wr)) (fun iv _=>b.ps.length-(intOf iv).toNat)
 case atStart=>exact⟨0,Nat.zero_le _,rfl,by simp,fun i _ h=>by omega,bRf _ _⟩
 case round=>
  obtain⟨k,hk,rfl,HQ⟩:=hrel;have hkn:k<=24:=by have:=HPN.out;omega
  have hX1:=za hX0 hz0 HQ.out.2.2;have hL1:=za hL0 (nSl hz0) HQ.out.2.2;have hz1:=nLt hz0 HQ.out.2.2.size;have HBq:=hid (HB0.out.trans (HQ.out.2.2.mono HB0.out.size))
  by_cases hlt:k<b.ps.length
  ·have hsm:=HK.out.ps.small k hlt
   obtain⟨ob,off,rfl,hob,d0,d1,d2,d3,d4⟩:=HK.out.ps.load HBq.out k hlt;have hob':ob<wr.heap.size:=nLt hob HBq.out.size;have hltI:(k:Int)<(b.ps.length:Int):=by omega
   have HSn:Hid ((b.ps.take (k+1)).all (yE b.ls b.tick)=((b.ps.take k).all (yE b.ls b.tick)&&(yE b.ls b.tick) b.ps[k])):=qQ _ _ _ hlt;have HBo:Hid (∀ob,Below W0.heap.size W0 (wr.alloc ob)):=fun ob=>HQ.out.2.2.alloc HQ.out.2.2.size _
   have HBw:Hid (∀W,Below W0.heap.size W0 W->Below w.heap.size w W):=fun W hW=>HB0.out.trans (hW.mono HB0.out.size)
   have HNo:Hid ((yE b.ls b.tick) b.ps[k]=false->qw l b=false):=fun h=>zfh (by unfold y7;rw[zaD _ _ _ hlt h];simp)
   have HNa:Hid (0<k->0<=zaB (b.ps[k-1]'(by omega)) b.ps[k]->qw l b=false):=fun h0 h=>zfh (by unfold y7;rw[zeq hlt h0 (Int.not_lt.2 h)];simp)
   have HYes:Hid ((yE b.ls b.tick) b.ps[k]=true->(∀m (e:k=m+1),zaB (b.ps[m]'(by omega)) b.ps[k]<0)->(b.ps.take (k+1)).all (yE b.ls b.tick)=true/\za2 zaB b.ps (k+1)):=fun h h'=>⟨by rw[HSn.out,HQ.out.1,h];rfl,zfm HQ.out.2.1 hlt h'⟩
   have HSm:Hid (b.ps[k].Small):=hsm;clear hsm;go_wp2_with fail
   have hY0:=zl wr #[.string b.ps[k].dr,.string b.ps[k].tm,.string b.ps[k].rs,.int .i64 b.ps[k].am,.int .i64 b.ps[k].un] 144;have hb5:Below wr.heap.size wr (wr.alloc (.cells #[.string b.ps[k].dr,.string b.ps[k].tm,.string b.ps[k].rs,.int .i64 b.ps[k].am,.int .i64 b.ps[k].un] 144)):=bAl _ _;have HBe:=HBo.out (.cells #[.string b.ps[k].dr,.string b.ps[k].tm,.string b.ps[k].rs,.int .i64 b.ps[k].am,.int .i64 b.ps[k].un] 144);obtain⟨W5,hW5⟩:∃W5,W5=wr.alloc (.cells #[.string b.ps[k].dr,.string b.ps[k].tm,.string b.ps[k].rs,.int .i64 b.ps[k].am,.int .i64 b.ps[k].un] 144):=⟨_,rfl⟩
   have hy0:wr.heap.size<W5.heap.size:=by rw[hW5];simp
   rw[<- hW5]at hb5 hY0 HBe ⊢;clear hW5 d0 d1 d2 d3 d4;have hX:=za (za hX1 hz1 hb5) (nLt hz1 hb5.size) (bRf W5.heap.size W5).drew;have hY:=za hY0 hy0 (bRf W5.heap.size W5).drew;have hz:=nLt hz1 hb5.size;have hy:=hy0;have hB:=HBe.drew;have hobz:=nLt hob' hb5.size
   have HP:Hid (∀h0:0<k,W5.drew.cell? ⟨ob,off+(k-1)*5,none⟩=some (.string (b.ps[k-1]'(by omega)).dr)/\W5.drew.cell? ⟨ob,off+(k-1)*5+1,none⟩=some (.string (b.ps[k-1]'(by omega)).tm)/\W5.drew.cell? ⟨ob,off+(k-1)*5+2,none⟩=some (.string (b.ps[k-1]'(by omega)).rs)/\W5.drew.cell? ⟨ob,off+(k-1)*5+3,none⟩=some (.int .i64 (b.ps[k-1]'(by omega)).am)/\W5.drew.cell? ⟨ob,off+(k-1)*5+4,none⟩=some (.int .i64 (b.ps[k-1]'(by omega)).un)):=fun h0=>by
    have hBq5:=(HBq.out.trans (hb5.mono HBq.out.size)).drew;obtain⟨ob',off',e',hob'',e0,e1,e2,e3,e4⟩:=HK.out.ps.load hBq5 (k-1) (by omega)
    cases e'
    exact⟨e0,e1,e2,e3,e4⟩
   have HBe:Hid (Below W0.heap.size W0 W5.drew):=hB;have HKq:Hid (jk W5.drew b a0 a1 a2 (some ⟨ob,off,none⟩)):=HK.out.mono (HBq.out.trans (hb5.mono HBq.out.size)).drew;have hwr:IntKind.i64.wrap (b.tick+10)=b.tick+10:=by rw[IntKind.wrap_i64];have:=HZ.out;omega
   clear hX1 hz1 hb5 hY0 hy0 HBo hX0 hz0 hob hob' HSn hL0 hL1 hB
   by_cases hk0:0<k
   ·have hk1:(0:Int)<=(k:Int)-1:=by omega
    have hk2:(k:Int)-1<(b.ps.length:Int):=by omega
    have hg:decide (0<k)=true:=decide_eq_true hk0;have hkw:IntKind.i64.wrap ((k:Int)-1)=(k:Int)-1:=by rw[IntKind.wrap_i64];omega
    have hkN:((k:Int)-1).toNat=k-1:=by omega
    have hk3:(1:Int)<=(k:Int):=by omega
    obtain⟨hP0,hP1,hP2,hP3,hP4⟩:=HP.out hk0;clear HP;refine wp_region_held_drew (S:=fun w'=>(∀j,w'.cell? ⟨w.heap.size+1,j,none⟩=(#[.int .i64 b.now,.int .i64 b.tick,.int .i64 b.given,.slice a0 b.os.length c0,.slice a1 b.gs.length c1,.slice a2 b.ls.length c2,.slice (some ⟨ob,off,none⟩) b.ps.length c3]:Array Value)[j]?)/\(∀j,w'.cell? ⟨wr.heap.size,j,none⟩=(#[.string b.ps[k].dr,.string b.ps[k].tm,.string b.ps[k].rs,.int .i64 b.ps[k].am,.int .i64 b.ps[k].un]:Array Value)[j]?)/\w'.cell? ⟨ob,off+(k-1)*5,none⟩=some (.string (b.ps[k-1]'(by omega)).dr)/\w'.cell? ⟨ob,off+(k-1)*5+1,none⟩=some (.string (b.ps[k-1]'(by omega)).tm)/\w'.cell? ⟨ob,off+(k-1)*5+2,none⟩=some (.string (b.ps[k-1]'(by omega)).rs)/\w'.cell? ⟨ob,off+(k-1)*5+3,none⟩=some (.int .i64 (b.ps[k-1]'(by omega)).am)/\w'.cell? ⟨ob,off+(k-1)*5+4,none⟩=some (.int .i64 (b.ps[k-1]'(by omega)).un)) (by kernel_rfl) ⟨hX,hY,hP0,hP1,hP2,hP3,hP4⟩ (fun H_=>?_);refine tG 0 ?_;refine tG 1 ?_
    by_cases t1:zB b.ps[k].dr=true
    ·refine cH 2 rfl fun K hK=>?_
     go_simp
     refine(zf t1 (zi _ _ HSm.out.dr)).mono ?_;rintro e w6⟨rfl,rfl⟩
     (try go_wp2_with fail)
     refine hK.out _ _ ?_ (fun H_=>?_)
     ·exact H_
     clear hK K
     (try simp only[Act.put,sA,s0,sS])
     refine tG 3 ?_;refine tG 4 ?_;refine tG 5 ?_;refine tG 6 ?_;refine tG 7 ?_;refine tG 8 ?_;refine tG 9 ?_;refine cH 10 rfl fun K hK=>?_
     go_simp
     refine(zg7 b a0 a1 a2 (some ⟨ob,off,none⟩) c0 c1 c2 c3 _ _ _ HKq.out (by have:=HLN.out;omega)).mono ?_;rintro e w7⟨rfl,hb7⟩;have hX7:=za hX hz hb7;have hY7:=za hY hy hb7;have hz7:=nLt hz hb7.size;have hy7:=nLt hy hb7.size;have hobz7:=nLt hobz hb7.size;have HBe7:Hid (Below W0.heap.size W0 w7):=HBe.out.trans (hb7.mono HBe.out.size);have hP07:=(hb7.cell (p:=⟨ob,off+(k-1)*5,none⟩) hobz).trans hP0;have hP17:=(hb7.cell (p:=⟨ob,off+(k-1)*5+1,none⟩) hobz).trans hP1;have hP27:=(hb7.cell (p:=⟨ob,off+(k-1)*5+2,none⟩) hobz).trans hP2;have hP37:=(hb7.cell (p:=⟨ob,off+(k-1)*5+3,none⟩) hobz).trans hP3;have hP47:=(hb7.cell (p:=⟨ob,off+(k-1)*5+4,none⟩) hobz).trans hP4;clear hb7
     (try go_wp2_with fail)
     refine hK.out _ _ ?_ (fun H_=>?_)
     ·exact⟨hX7,hY7,hP07,hP17,hP27,hP37,hP47⟩
     clear hK K
     (try simp only[Act.put,sA,s0,sS])
     by_cases t2:zdH (ze8 b.ps[k].tm b.ps[k].rs) b.ls<0
     ·have hd2:decide (zdH (ze8 b.ps[k].tm b.ps[k].rs) b.ls<0)=true:=decide_eq_true t2
      have HLe:Hid (jr b.ls b.ps[k].tm b.ps[k].rs=false):=(zcj _ _).1 t2;clear t2;refine tG 11 ?_;refine tG 12 ?_;refine tG 13 ?_;refine kG 14 ?_;refine kG 15 ?_;refine kG 16 ?_;refine kG 17 ?_;refine tG 18 ?_;refine tG 19 ?_;refine kG 20 ?_;refine kG 21 ?_;refine kG 22 ?_;refine kG 23 ?_;refine kG 24 ?_;refine kG 25 ?_;refine kG 26 ?_;refine kG 27 ?_;refine kG 28 ?_;refine tG 29 ?_;refine tG 30 ?_;refine kG 31 ?_;refine kG 32 ?_;refine kG 33 ?_;refine kG 34 ?_;refine kG 35 ?_;refine kG 36 ?_;refine kG 37 ?_;refine kG 38 ?_;refine kG 39 ?_;refine kG 40 ?_;refine kG 41 ?_;refine kG 42 ?_;refine kG 43 ?_;refine tG 44 ?_;refine wpAnyH_done (by kernel_rfl) ?_ _;have HF:Hid (qw l b=false):=HNo.out (by unfold yE within;rw[HLe.out];simp);go_wp2_with fail
      go_ret;exact⟨ze HF.out.symm,HBw.out _ HBe7.out⟩
     ·have hd2:=decide_eq_false t2
      have HLe:Hid (jr b.ls b.ps[k].tm b.ps[k].rs=true):=by
       unfold Hid;rw[<- zn7]
       cases hq:b.ls.any (ze8 b.ps[k].tm b.ps[k].rs) with
       | true=>rfl
       | false=>exact absurd ((zcj _ _).2 hq) t2
      clear t2;refine tG 11 ?_;refine tG 12 ?_;refine tG 13 ?_;refine tG 14 ?_;refine tG 15 ?_
      by_cases t3:(decide (1<=b.ps[k].am)&&decide (b.ps[k].am<=1000000))=true
      ·refine cH 16 rfl fun K hK=>?_
       go_simp
       refine(zf t3 (yB _ _ _ _)).mono ?_;rintro e w6⟨rfl,rfl⟩
       (try go_wp2_with fail)
       refine hK.out _ _ ?_ (fun H_=>?_)
       ·exact H_
       clear hK K
       (try simp only[Act.put,sA,s0,sS])
       refine tG 17 ?_;refine tG 18 ?_;refine tG 19 ?_;refine tG 20 ?_;refine tG 21 ?_;refine tG 22 ?_;refine tG 23 ?_;refine tG 24 ?_;refine tG 25 ?_;refine tG 26 ?_
       by_cases t4:(decide (b.tick<=b.ps[k].un)&&decide (b.ps[k].un<=b.tick+10))=true
       ·refine cH 27 rfl fun K hK=>?_
        go_simp
        refine(zf t4 (yB _ _ _ _)).mono ?_;rintro e w6⟨rfl,rfl⟩
        (try go_wp2_with fail)
        refine hK.out _ _ ?_ (fun H_=>?_)
        ·exact H_
        clear hK K
        (try simp only[Act.put,sA,s0,sS])
        refine tG 28 ?_;refine tG 29 ?_;refine tG 30 ?_;refine tG 31 ?_;refine tG 32 ?_;refine tG 33 ?_;refine tG 34 ?_;refine tG 35 ?_;refine tG 36 ?_;refine tG 37 ?_;refine tG 38 ?_;refine tG 39 ?_;refine tG 40 ?_;refine cH 41 rfl fun K hK=>?_
        go_simp
        refine(zjI (b.ps[k-1]'(by omega)) b.ps[k] _).mono ?_;rintro e w8⟨rfl,hb8⟩;have hX8:=za hX7 hz7 hb8;have hY8:=za hY7 hy7 hb8;have hz8:=nLt hz7 hb8.size;have hy8:=nLt hy7 hb8.size;have hobz8:=nLt hobz7 hb8.size;have HBe8:Hid (Below W0.heap.size W0 w8):=HBe7.out.trans (hb8.mono HBe7.out.size);have hP08:=(hb8.cell (p:=⟨ob,off+(k-1)*5,none⟩) hobz7).trans hP07;have hP18:=(hb8.cell (p:=⟨ob,off+(k-1)*5+1,none⟩) hobz7).trans hP17;have hP28:=(hb8.cell (p:=⟨ob,off+(k-1)*5+2,none⟩) hobz7).trans hP27;have hP38:=(hb8.cell (p:=⟨ob,off+(k-1)*5+3,none⟩) hobz7).trans hP37;have hP48:=(hb8.cell (p:=⟨ob,off+(k-1)*5+4,none⟩) hobz7).trans hP47;clear hb8
        (try go_wp2_with fail)
        refine hK.out _ _ ?_ (fun H_=>?_)
        ·exact⟨hX8,hY8,hP08,hP18,hP28,hP38,hP48⟩
        clear hK K
        (try simp only[Act.put,sA,s0,sS])
        by_cases t5:zaB (b.ps[k-1]'(by omega)) b.ps[k]<0
        ·have hd5:decide (0<=zaB (b.ps[k-1]'(by omega)) b.ps[k])=false:=decide_eq_false (by omega)
         refine tG 42 ?_;refine tG 43 ?_;refine tG 44 ?_;refine wpAnyH_done (by kernel_rfl) ?_ _;have HG1:Hid (yE b.ls b.tick b.ps[k]=true):=by unfold Hid yE within;rw[HLe.out,t1,t3,t4];rfl
         have HD:Hid ((b.ps.take (k+1)).all (yE b.ls b.tick)=true/\za2 zaB b.ps (k+1)):=HYes.out HG1.out (zgr hlt (fun _=>t5));go_wp2_with fail
         exact⟨⟨k+1,by omega,by go_num,HD.out.1,HD.out.2,HBe8.out⟩,by simp[intOf];omega⟩
        ·have hd5:decide (0<=zaB (b.ps[k-1]'(by omega)) b.ps[k])=true:=decide_eq_true (by omega)
         refine tG 42 ?_;refine tG 43 ?_;refine tG 44 ?_;refine wpAnyH_done (by kernel_rfl) ?_ _;have HF:Hid (qw l b=false):=HNa.out (by omega) (Int.not_lt.1 t5);go_wp2_with fail
         go_ret;exact⟨ze HF.out.symm,HBw.out _ HBe8.out⟩
       ·refine cH 27 rfl fun K hK=>?_
        go_simp
        refine(zf (bFi t4) (yB _ _ _ _)).mono ?_;rintro e w6⟨rfl,rfl⟩
        (try go_wp2_with fail)
        refine hK.out _ _ ?_ (fun H_=>?_)
        ·exact H_
        clear hK K
        (try simp only[Act.put,sA,s0,sS])
        refine tG 28 ?_;refine tG 29 ?_;refine tG 30 ?_;refine kG 31 ?_;refine kG 32 ?_;refine kG 33 ?_;refine kG 34 ?_;refine kG 35 ?_;refine kG 36 ?_;refine kG 37 ?_;refine kG 38 ?_;refine kG 39 ?_;refine kG 40 ?_;refine kG 41 ?_;refine kG 42 ?_;refine kG 43 ?_;refine tG 44 ?_;refine wpAnyH_done (by kernel_rfl) ?_ _;have HF:Hid (qw l b=false):=HNo.out (by unfold yE within;rw[bFi t4];simp);go_wp2_with fail
        go_ret;exact⟨ze HF.out.symm,HBw.out _ HBe7.out⟩
      ·refine cH 16 rfl fun K hK=>?_
       go_simp
       refine(zf (bFi t3) (yB _ _ _ _)).mono ?_;rintro e w6⟨rfl,rfl⟩
       (try go_wp2_with fail)
       refine hK.out _ _ ?_ (fun H_=>?_)
       ·exact H_
       clear hK K
       (try simp only[Act.put,sA,s0,sS])
       refine tG 17 ?_;refine tG 18 ?_;refine tG 19 ?_;refine kG 20 ?_;refine kG 21 ?_;refine kG 22 ?_;refine kG 23 ?_;refine kG 24 ?_;refine kG 25 ?_;refine kG 26 ?_;refine kG 27 ?_;refine kG 28 ?_;refine tG 29 ?_;refine tG 30 ?_;refine kG 31 ?_;refine kG 32 ?_;refine kG 33 ?_;refine kG 34 ?_;refine kG 35 ?_;refine kG 36 ?_;refine kG 37 ?_;refine kG 38 ?_;refine kG 39 ?_;refine kG 40 ?_;refine kG 41 ?_;refine kG 42 ?_;refine kG 43 ?_;refine tG 44 ?_;refine wpAnyH_done (by kernel_rfl) ?_ _;have HF:Hid (qw l b=false):=HNo.out (by unfold yE within;rw[bFi t3];simp);go_wp2_with fail
       go_ret;exact⟨ze HF.out.symm,HBw.out _ HBe7.out⟩
    ·refine cH 2 rfl fun K hK=>?_
     go_simp
     refine(zf (bFi t1) (zi _ _ HSm.out.dr)).mono ?_;rintro e w6⟨rfl,rfl⟩
     (try go_wp2_with fail)
     refine hK.out _ _ ?_ (fun H_=>?_)
     ·exact H_
     clear hK K
     (try simp only[Act.put,sA,s0,sS])
     refine tG 3 ?_;refine tG 4 ?_;refine kG 5 ?_;refine kG 6 ?_;refine kG 7 ?_;refine kG 8 ?_;refine kG 9 ?_;refine kG 10 ?_;refine kG 11 ?_;refine tG 12 ?_;refine tG 13 ?_;refine kG 14 ?_;refine kG 15 ?_;refine kG 16 ?_;refine kG 17 ?_;refine tG 18 ?_;refine tG 19 ?_;refine kG 20 ?_;refine kG 21 ?_;refine kG 22 ?_;refine kG 23 ?_;refine kG 24 ?_;refine kG 25 ?_;refine kG 26 ?_;refine kG 27 ?_;refine kG 28 ?_;refine tG 29 ?_;refine tG 30 ?_;refine kG 31 ?_;refine kG 32 ?_;refine kG 33 ?_;refine kG 34 ?_;refine kG 35 ?_;refine kG 36 ?_;refine kG 37 ?_;refine kG 38 ?_;refine kG 39 ?_;refine kG 40 ?_;refine kG 41 ?_;refine kG 42 ?_;refine kG 43 ?_;refine tG 44 ?_;refine wpAnyH_done (by kernel_rfl) ?_ _;have HF:Hid (qw l b=false):=HNo.out (by unfold yE within;rw[bFi t1];simp);go_wp2_with fail
     go_ret;exact⟨ze HF.out.symm,HBw.out _ HBe.out⟩
   ·have hg:decide (0<k)=false:=decide_eq_false hk0
    clear HP;refine wp_region_held_drew (S:=fun w'=>(∀j,w'.cell? ⟨w.heap.size+1,j,none⟩=(#[.int .i64 b.now,.int .i64 b.tick,.int .i64 b.given,.slice a0 b.os.length c0,.slice a1 b.gs.length c1,.slice a2 b.ls.length c2,.slice (some ⟨ob,off,none⟩) b.ps.length c3]:Array Value)[j]?)/\(∀j,w'.cell? ⟨wr.heap.size,j,none⟩=(#[.string b.ps[k].dr,.string b.ps[k].tm,.string b.ps[k].rs,.int .i64 b.ps[k].am,.int .i64 b.ps[k].un]:Array Value)[j]?) ) (by kernel_rfl) ⟨hX,hY⟩ (fun H_=>?_);refine tG 0 ?_;refine tG 1 ?_
    by_cases t1:zB b.ps[k].dr=true
    ·refine cH 2 rfl fun K hK=>?_
     go_simp
     refine(zf t1 (zi _ _ HSm.out.dr)).mono ?_;rintro e w6⟨rfl,rfl⟩
     (try go_wp2_with fail)
     refine hK.out _ _ ?_ (fun H_=>?_)
     ·exact H_
     clear hK K
     (try simp only[Act.put,sA,s0,sS])
     refine tG 3 ?_;refine tG 4 ?_;refine tG 5 ?_;refine tG 6 ?_;refine tG 7 ?_;refine tG 8 ?_;refine tG 9 ?_;refine cH 10 rfl fun K hK=>?_
     go_simp
     refine(zg7 b a0 a1 a2 (some ⟨ob,off,none⟩) c0 c1 c2 c3 _ _ _ HKq.out (by have:=HLN.out;omega)).mono ?_;rintro e w7⟨rfl,hb7⟩;have hX7:=za hX hz hb7;have hY7:=za hY hy hb7;have hz7:=nLt hz hb7.size;have hy7:=nLt hy hb7.size;have hobz7:=nLt hobz hb7.size;have HBe7:Hid (Below W0.heap.size W0 w7):=HBe.out.trans (hb7.mono HBe.out.size);clear hb7
     (try go_wp2_with fail)
     refine hK.out _ _ ?_ (fun H_=>?_)
     ·exact⟨hX7,hY7⟩
     clear hK K
     (try simp only[Act.put,sA,s0,sS])
     by_cases t2:zdH (ze8 b.ps[k].tm b.ps[k].rs) b.ls<0
     ·have hd2:decide (zdH (ze8 b.ps[k].tm b.ps[k].rs) b.ls<0)=true:=decide_eq_true t2
      have HLe:Hid (jr b.ls b.ps[k].tm b.ps[k].rs=false):=(zcj _ _).1 t2;clear t2;refine tG 11 ?_;refine tG 12 ?_;refine tG 13 ?_;refine kG 14 ?_;refine kG 15 ?_;refine kG 16 ?_;refine kG 17 ?_;refine tG 18 ?_;refine tG 19 ?_;refine kG 20 ?_;refine kG 21 ?_;refine kG 22 ?_;refine kG 23 ?_;refine kG 24 ?_;refine kG 25 ?_;refine kG 26 ?_;refine kG 27 ?_;refine kG 28 ?_;refine tG 29 ?_;refine tG 30 ?_;refine kG 31 ?_;refine kG 32 ?_;refine kG 33 ?_;refine kG 34 ?_;refine kG 35 ?_;refine kG 36 ?_;refine kG 37 ?_;refine kG 38 ?_;refine kG 39 ?_;refine kG 40 ?_;refine kG 41 ?_;refine kG 42 ?_;refine kG 43 ?_;refine tG 44 ?_;refine wpAnyH_done (by kernel_rfl) ?_ _;have HF:Hid (qw l b=false):=HNo.out (by unfold yE within;rw[HLe.out];simp);go_wp2_with fail
      go_ret;exact⟨ze HF.out.symm,HBw.out _ HBe7.out⟩
     ·have hd2:decide (zdH (ze8 b.ps[k].tm b.ps[k].rs) b.ls<0)=false:=decide_eq_false t2
      have HLe:Hid (jr b.ls b.ps[k].tm b.ps[k].rs=true):=by
       unfold Hid;rw[<- zn7]
       cases hq:b.ls.any (ze8 b.ps[k].tm b.ps[k].rs) with
       | true=>rfl
       | false=>exact absurd ((zcj _ _).2 hq) t2
      clear t2;refine tG 11 ?_;refine tG 12 ?_;refine tG 13 ?_;refine tG 14 ?_;refine tG 15 ?_
      by_cases t3:(decide (1<=b.ps[k].am)&&decide (b.ps[k].am<=1000000))=true
      ·refine cH 16 rfl fun K hK=>?_
       go_simp
       refine(zf t3 (yB _ _ _ _)).mono ?_;rintro e w6⟨rfl,rfl⟩
       (try go_wp2_with fail)
       refine hK.out _ _ ?_ (fun H_=>?_)
       ·exact H_
       clear hK K
       (try simp only[Act.put,sA,s0,sS])
       refine tG 17 ?_;refine tG 18 ?_;refine tG 19 ?_;refine tG 20 ?_;refine tG 21 ?_;refine tG 22 ?_;refine tG 23 ?_;refine tG 24 ?_;refine tG 25 ?_;refine tG 26 ?_
       by_cases t4:(decide (b.tick<=b.ps[k].un)&&decide (b.ps[k].un<=b.tick+10))=true
       ·refine cH 27 rfl fun K hK=>?_
        go_simp
        refine(zf t4 (yB _ _ _ _)).mono ?_;rintro e w6⟨rfl,rfl⟩
        (try go_wp2_with fail)
        refine hK.out _ _ ?_ (fun H_=>?_)
        ·exact H_
        clear hK K
        (try simp only[Act.put,sA,s0,sS])
        refine tG 28 ?_;refine tG 29 ?_;refine tG 30 ?_;refine tG 31 ?_;refine tG 32 ?_;refine tG 33 ?_;refine kG 34 ?_;refine kG 35 ?_;refine kG 36 ?_;refine kG 37 ?_;refine kG 38 ?_;refine kG 39 ?_;refine kG 40 ?_;refine kG 41 ?_;refine kG 42 ?_;refine tG 43 ?_;refine tG 44 ?_;refine wpAnyH_done (by kernel_rfl) ?_ _;have HG1:Hid (yE b.ls b.tick b.ps[k]=true):=by unfold Hid yE within;rw[HLe.out,t1,t3,t4];rfl
        have HD:Hid ((b.ps.take (k+1)).all (yE b.ls b.tick)=true/\za2 zaB b.ps (k+1)):=HYes.out HG1.out (fun m e=>by omega);go_wp2_with fail
        exact⟨⟨k+1,by omega,by go_num,HD.out.1,HD.out.2,HBe7.out⟩,by simp[intOf];omega⟩
       ·refine cH 27 rfl fun K hK=>?_
        go_simp
        refine(zf (bFi t4) (yB _ _ _ _)).mono ?_;rintro e w6⟨rfl,rfl⟩
        (try go_wp2_with fail)
        refine hK.out _ _ ?_ (fun H_=>?_)
        ·exact H_
        clear hK K
        (try simp only[Act.put,sA,s0,sS])
        refine tG 28 ?_;refine tG 29 ?_;refine tG 30 ?_;refine kG 31 ?_;refine kG 32 ?_;refine kG 33 ?_;refine kG 34 ?_;refine kG 35 ?_;refine kG 36 ?_;refine kG 37 ?_;refine kG 38 ?_;refine kG 39 ?_;refine kG 40 ?_;refine kG 41 ?_;refine kG 42 ?_;refine kG 43 ?_;refine tG 44 ?_;refine wpAnyH_done (by kernel_rfl) ?_ _;have HF:Hid (qw l b=false):=HNo.out (by unfold yE within;rw[bFi t4];simp);go_wp2_with fail
        go_ret;exact⟨ze HF.out.symm,HBw.out _ HBe7.out⟩
      ·refine cH 16 rfl fun K hK=>?_
       go_simp
       refine(zf (bFi t3) (yB _ _ _ _)).mono ?_;rintro e w6⟨rfl,rfl⟩
       (try go_wp2_with fail)
       refine hK.out _ _ ?_ (fun H_=>?_)
       ·exact H_
       clear hK K
       (try simp only[Act.put,sA,s0,sS])
       refine tG 17 ?_;refine tG 18 ?_;refine tG 19 ?_;refine kG 20 ?_;refine kG 21 ?_;refine kG 22 ?_;refine kG 23 ?_;refine kG 24 ?_;refine kG 25 ?_;refine kG 26 ?_;refine kG 27 ?_;refine kG 28 ?_;refine tG 29 ?_;refine tG 30 ?_;refine kG 31 ?_;refine kG 32 ?_;refine kG 33 ?_;refine kG 34 ?_;refine kG 35 ?_;refine kG 36 ?_;refine kG 37 ?_;refine kG 38 ?_;refine kG 39 ?_;refine kG 40 ?_;refine kG 41 ?_;refine kG 42 ?_;refine kG 43 ?_;refine tG 44 ?_;refine wpAnyH_done (by kernel_rfl) ?_ _;have HF:Hid (qw l b=false):=HNo.out (by unfold yE within;rw[bFi t3];simp);go_wp2_with fail
       go_ret;exact⟨ze HF.out.symm,HBw.out _ HBe7.out⟩
    ·refine cH 2 rfl fun K hK=>?_
     go_simp
     refine(zf (bFi t1) (zi _ _ HSm.out.dr)).mono ?_;rintro e w6⟨rfl,rfl⟩
     (try go_wp2_with fail)
     refine hK.out _ _ ?_ (fun H_=>?_)
     ·exact H_
     clear hK K
     (try simp only[Act.put,sA,s0,sS])
     refine tG 3 ?_;refine tG 4 ?_;refine kG 5 ?_;refine kG 6 ?_;refine kG 7 ?_;refine kG 8 ?_;refine kG 9 ?_;refine kG 10 ?_;refine kG 11 ?_;refine tG 12 ?_;refine tG 13 ?_;refine kG 14 ?_;refine kG 15 ?_;refine kG 16 ?_;refine kG 17 ?_;refine tG 18 ?_;refine tG 19 ?_;refine kG 20 ?_;refine kG 21 ?_;refine kG 22 ?_;refine kG 23 ?_;refine kG 24 ?_;refine kG 25 ?_;refine kG 26 ?_;refine kG 27 ?_;refine kG 28 ?_;refine tG 29 ?_;refine tG 30 ?_;refine kG 31 ?_;refine kG 32 ?_;refine kG 33 ?_;refine kG 34 ?_;refine kG 35 ?_;refine kG 36 ?_;refine kG 37 ?_;refine kG 38 ?_;refine kG 39 ?_;refine kG 40 ?_;refine kG 41 ?_;refine kG 42 ?_;refine kG 43 ?_;refine tG 44 ?_;refine wpAnyH_done (by kernel_rfl) ?_ _;have HF:Hid (qw l b=false):=HNo.out (by unfold yE within;rw[bFi t1];simp);go_wp2_with fail
     go_ret;exact⟨ze HF.out.symm,HBw.out _ HBe.out⟩
  ·have e:k=b.ps.length:=by omega
   subst e
   have HAm:Hid (b.ps.all (yE b.ls b.tick)=true):=by
    have:=HQ.out.1
    rwa [tOl (Nat.le_refl _)]at this
   have HPu:Hid (y7 b=true):=by
    unfold Hid y7;rw[zgF HQ.out.2.1 (Nat.le_refl _),decide_eq_true HPN.out,HAm.out];rfl
   obtain⟨W1,hW1⟩:∃W1,W1=wr:=⟨_,rfl⟩
   rw[<- hW1]at hX1 hL1 hz1 HBq ⊢;clear HQ hlt hk hX0 hz0 hL0 hW1 HB0;go_wp2_with fail
   go_loopw [7] (fun iv wr=>∃k:Nat,k<=b.ls.length/\iv=.int .i64 k/\Hid ((b.ls.take k).all (yJ l.ts)=true/\za2 qP b.ls k/\(b.ls.take k).all (za1 l b)=true/\Below W1.heap.size W1 wr)) (fun iv _=>b.ls.length-(intOf iv).toNat)
   case atStart=>exact⟨0,Nat.zero_le _,rfl,by simp,fun i _ h=>by omega,by simp,bRf _ _⟩
   case round=>
    obtain⟨k,hk,rfl,HQ⟩:=hrel;have hkn:k<=10:=by have:=HLN.out;omega
    have hX2:=za hX1 hz1 HQ.out.2.2.2;have hL2:=za hL1 (nSl hz1) HQ.out.2.2.2;have hz2:=nLt hz1 HQ.out.2.2.2.size;have hq2:=nSl hz2;have HBr:Hid (Below w.heap.size w wr):=HBq.out.trans (HQ.out.2.2.2.mono HBq.out.size)
    by_cases hlt:k<b.ls.length
    ·have hsm:=HK.out.ls.small k hlt
     obtain⟨ob,off,rfl,hob,d0,d1,d2,d3⟩:=HK.out.ls.load HBr.out k hlt;have hob':ob<wr.heap.size:=nLt hob HBr.out.size;have hltI:(k:Int)<(b.ls.length:Int):=by omega
     have HBo:Hid (∀ob,Below W1.heap.size W1 (wr.alloc ob)):=fun ob=>HQ.out.2.2.2.alloc HQ.out.2.2.2.size _
     have HBw:Hid (∀W,Below W1.heap.size W1 W->Below w.heap.size w W):=fun W hW=>HBq.out.trans (hW.mono HBq.out.size)
     have HNo:Hid ((yJ l.ts) b.ls[k]=false->qw l b=false):=fun h=>zfa (by unfold yV;rw[zaD _ _ _ hlt h];simp)
     have HNs:Hid ((za1 l b) b.ls[k]=false->qw l b=false):=fun h=>znw (by unfold zcV;rw[zaD _ _ _ hlt h])
     have HNa:Hid (0<k->0<=qP (b.ls[k-1]'(by omega)) b.ls[k]->qw l b=false):=fun h0 h=>zfa (by unfold yV;rw[zeq hlt h0 (Int.not_lt.2 h)];simp)
     have HYes:Hid ((yJ l.ts) b.ls[k]=true->(∀m (e:k=m+1),qP (b.ls[m]'(by omega)) b.ls[k]<0)->za1 l b b.ls[k]=true->(b.ls.take (k+1)).all (yJ l.ts)=true/\za2 qP b.ls (k+1)/\(b.ls.take (k+1)).all (za1 l b)=true):=fun h h' h''=>⟨by rw[qQ _ _ _ hlt,HQ.out.1,h];rfl,zfm HQ.out.2.1 hlt h',by rw[qQ _ _ _ hlt,HQ.out.2.2.1,h''];rfl⟩
     have HSm:Hid (b.ls[k].Small):=hsm;clear hsm;go_wp2_with fail
     have hY0:=zl wr #[.string b.ls[k].tm,.string b.ls[k].rs,.int .i64 b.ls[k].mo,.int .i64 b.ls[k].fr] 142;have hb5:Below wr.heap.size wr (wr.alloc (.cells #[.string b.ls[k].tm,.string b.ls[k].rs,.int .i64 b.ls[k].mo,.int .i64 b.ls[k].fr] 142)):=bAl _ _;have HBe:=HBo.out (.cells #[.string b.ls[k].tm,.string b.ls[k].rs,.int .i64 b.ls[k].mo,.int .i64 b.ls[k].fr] 142);obtain⟨W5,hW5⟩:∃W5,W5=wr.alloc (.cells #[.string b.ls[k].tm,.string b.ls[k].rs,.int .i64 b.ls[k].mo,.int .i64 b.ls[k].fr] 142):=⟨_,rfl⟩
     have hy:wr.heap.size<W5.heap.size:=by rw[hW5];simp
     rw[<- hW5]at hb5 hY0 HBe ⊢;clear hW5 d0 d1 d2 d3;have hX:=za hX2 hz2 hb5;have hLw:=za hL2 (nSl hz2) hb5;have hY:=hY0;have hz:=nLt hz2 hb5.size;have hz':=nSl hz;have HBe:=hid HBe;have hobz:=nLt hob' hb5.size;have HBf:=hid (HBr.out.trans (hb5.mono HBr.out.size))
     have HP:Hid (∀h0:0<k,W5.cell? ⟨ob,off+(k-1)*4,none⟩=some (.string (b.ls[k-1]'(by omega)).tm)/\W5.cell? ⟨ob,off+(k-1)*4+1,none⟩=some (.string (b.ls[k-1]'(by omega)).rs)):=fun h0=>by
      obtain⟨ob',off',e',hob'',e0,e1,e2,e3⟩:=HK.out.ls.load HBf.out (k-1) (by omega)
      cases e'
      exact⟨e0,e1⟩
     clear hX1 hz1 hb5 hY0 HBo hX2 hz2 hL1 hL2 hob hob' HQ;refine(zb6 _ _ l.ts b.ls[k].tm _ (HL.out.ts.mono HBf.out)).mono ?_;rintro e w6⟨rfl,hww⟩;rw[hww];clear hww w6
     by_cases t1:yG l.ts b.ls[k].tm=true
     rotate_left
     ·have HF:Hid (qw l b=false):=HNo.out (by unfold yJ;rw[bFi t1];rfl)
      rw[bFi t1];clear t1;go_wp2_with fail
      go_ret;exact⟨ze HF.out.symm,HBf.out⟩
     have HT1:=hid t1;rw[t1];clear t1;go_wp2_with fail
     refine(zi b.ls[k].rs _ HSm.out.rs).mono ?_;rintro e w6⟨rfl,hww⟩;rw[hww];clear hww w6
     by_cases t2:zB b.ls[k].rs=true
     rotate_left
     ·have HF:Hid (qw l b=false):=HNo.out (by unfold yJ;rw[bFi t2];simp)
      rw[bFi t2];clear t2;go_wp2_with fail
      go_ret;exact⟨ze HF.out.symm,HBf.out⟩
     have HT2:=hid t2;rw[t2];clear t2
     by_cases t3:b.ls[k].fr<0
     ·have HF:Hid (qw l b=false):=HNo.out (by unfold yJ jF;rw[decide_eq_false (p:=0<=b.ls[k].fr) (by omega)];simp)
      have hd:=decide_eq_true t3;go_wp2_with fail
      go_ret;exact⟨ze HF.out.symm,HBf.out⟩
     have hd3:=decide_eq_false t3
     by_cases t4:b.ls[k].mo<b.ls[k].fr
     ·have HF:Hid (qw l b=false):=HNo.out (by unfold yJ jF;rw[decide_eq_false (p:=b.ls[k].fr<=b.ls[k].mo) (by omega)];simp)
      have hd:=decide_eq_true t4;go_wp2_with fail
      go_ret;exact⟨ze HF.out.symm,HBf.out⟩
     have hd4:=decide_eq_false t4
     by_cases t5:1000000<b.ls[k].mo
     ·have HF:Hid (qw l b=false):=HNo.out (by unfold yJ jF;rw[decide_eq_false (p:=b.ls[k].mo<=1000000) (by omega)];simp)
      have hd:=decide_eq_true t5;go_wp2_with fail
      go_ret;exact⟨ze HF.out.symm,HBf.out⟩
     have hd5:=decide_eq_false t5
     have HLa:Hid (yJ l.ts b.ls[k]=true):=by
      unfold Hid yJ jF;rw[HT1.out,HT2.out,decide_eq_true (p:=0<=b.ls[k].fr) (by omega),decide_eq_true (p:=b.ls[k].fr<=b.ls[k].mo) (by omega),decide_eq_true (p:=b.ls[k].mo<=1000000) (by omega)];rfl
     have HFr:Hid (0<=b.ls[k].fr/\b.ls[k].fr<=1000000):=by unfold Hid;omega
     clear t3 t4 t5;go_wp2_with fail
     clear hd3 hd4 hd5
     by_cases hk0:0<k
     ·have hk1:(0:Int)<=(k:Int)-1:=by omega
      have hk2:(k:Int)-1<(b.ls.length:Int):=by omega
      have hg:=decide_eq_true hk0;have hkw:IntKind.i64.wrap ((k:Int)-1)=(k:Int)-1:=by rw[IntKind.wrap_i64];omega
      have hkN:((k:Int)-1).toNat=k-1:=by omega
      have hk3:(1:Int)<=(k:Int):=by omega
      obtain⟨hP0,hP1⟩:=HP.out hk0;refine wp_region_held_drew (S:=fun w'=>(∀j,w'.cell? ⟨w.heap.size+1,j,none⟩=(#[.int .i64 b.now,.int .i64 b.tick,.int .i64 b.given,.slice a0 b.os.length c0,.slice a1 b.gs.length c1,.slice (some ⟨ob,off,none⟩) b.ls.length c2,.slice a3 b.ps.length c3]:Array Value)[j]?)/\(∀j,w'.cell? ⟨wr.heap.size,j,none⟩=(#[.string b.ls[k].tm,.string b.ls[k].rs,.int .i64 b.ls[k].mo,.int .i64 b.ls[k].fr]:Array Value)[j]?)/\w'.cell? ⟨ob,off+(k-1)*4,none⟩=some (.string (b.ls[k-1]'(by omega)).tm)/\w'.cell? ⟨ob,off+(k-1)*4+1,none⟩=some (.string (b.ls[k-1]'(by omega)).rs)) (by kernel_rfl) ⟨za hX hz (bRf W5.heap.size W5).drew,za hY hy (bRf W5.heap.size W5).drew,hP0,hP1⟩ (fun H_=>?_);refine tG 0 ?_;refine tG 1 ?_;refine tG 2 ?_;refine tG 3 ?_;refine tG 4 ?_;refine tG 5 ?_;refine tG 6 ?_;refine tG 7 ?_;refine tG 8 ?_;refine tG 9 ?_;refine tG 10 ?_;refine tG 11 ?_;refine tG 12 ?_;refine tG 13 ?_;refine tG 14 ?_;refine tG 15 ?_;refine tG 16 ?_;refine tG 17 ?_;refine tG 18 ?_;refine tG 19 ?_;refine tG 20 ?_;refine cH 21 rfl fun K hK=>?_
      go_simp
      refine(zhE _ _ _ _ _).mono ?_;rintro e w6⟨rfl,rfl⟩
      (try go_wp2_with fail)
      refine hK.out _ _ ?_ (fun H_=>?_)
      ·exact H_
      clear hK K
      (try simp only[Act.put,sA,s0,sS])
      by_cases t6:key2 (b.ls[k-1]'(by omega)).tm (b.ls[k-1]'(by omega)).rs b.ls[k].tm b.ls[k].rs<0
      ·have hd6:decide (0<=key2 (b.ls[k-1]'(by omega)).tm (b.ls[k-1]'(by omega)).rs b.ls[k].tm b.ls[k].rs)=false:=decide_eq_false (by omega)
       refine tG 22 ?_;refine tG 23 ?_;refine wpAnyH_done (by kernel_rfl) ?_ _;have HT6:=hid t6;clear t6 hd6;go_wp2_with fail
       have hLD:=za hLw hz' (bRf W5.heap.size W5).drew.drew;have hXD:=za hX hz (bRf W5.heap.size W5).drew.drew;have hYD:=za hY hy (bRf W5.heap.size W5).drew.drew;have hzD:=hz;have hyD:=hy;have HBeD:=hid HBe.out.drew.drew;have HUs:=zej l b b.ls[k].tm b.ls[k].rs HZ.out.1;have HOs:=zbN b.ps b.ls[k].tm b.ls[k].rs (zgl HAm.out) b.ps.length (Nat.le_refl _);have hw1:IntKind.i64.wrap (used l b.os b.ls[k].tm b.ls[k].rs+out b.ps b.ls[k].tm b.ls[k].rs)=used l b.os b.ls[k].tm b.ls[k].rs+out b.ps b.ls[k].tm b.ls[k].rs:=by rw[IntKind.wrap_i64];have:=HPN.out;unfold out;omega
       have hw2:IntKind.i64.wrap (used l b.os b.ls[k].tm b.ls[k].rs+out b.ps b.ls[k].tm b.ls[k].rs+b.ls[k].fr)=used l b.os b.ls[k].tm b.ls[k].rs+out b.ps b.ls[k].tm b.ls[k].rs+b.ls[k].fr:=by rw[IntKind.wrap_i64];have:=HPN.out;have:=HFr.out;unfold out;omega
       clear HUs HOs;refine wp_region_held_drew (S:=fun w'=>(∀j,w'.cell? ⟨w.heap.size,j,none⟩=(#[.slice la l.ss.length lca,.slice lb l.ms.length lcb,.slice lc l.ts.length lcc]:Array Value)[j]?)/\(∀j,w'.cell? ⟨w.heap.size+1,j,none⟩=(#[.int .i64 b.now,.int .i64 b.tick,.int .i64 b.given,.slice a0 b.os.length c0,.slice a1 b.gs.length c1,.slice (some ⟨ob,off,none⟩) b.ls.length c2,.slice a3 b.ps.length c3]:Array Value)[j]?)/\(∀j,w'.cell? ⟨wr.heap.size,j,none⟩=(#[.string b.ls[k].tm,.string b.ls[k].rs,.int .i64 b.ls[k].mo,.int .i64 b.ls[k].fr]:Array Value)[j]?)) (by kernel_rfl) ⟨hLD,hXD,hYD⟩ (fun H_=>?_);refine tG 0 ?_;refine tG 1 ?_;refine tG 2 ?_;refine tG 3 ?_;refine tG 4 ?_;refine tG 5 ?_;refine tG 7 ?_;refine tG 8 ?_;refine tG 9 ?_;refine tG 10 ?_;refine tG 11 ?_;refine tG 14 ?_;refine tG 15 ?_;refine tG 17 ?_;refine tG 18 ?_;refine cH 6 rfl fun K hK=>?_
       go_simp
       refine(zha l la lb lc lca lcb lcc b a0 a1 _ a3 c0 c1 c2 c3 _ _ _ (HL.out.mono (HBw.out _ HBeD.out)) (HK.out.mono (HBw.out _ HBeD.out)) HZ.out.1).mono ?_;rintro e w7⟨rfl,hb7⟩;have hX7:=za hXD hzD hb7;have hL7:=za hLD (nSl hzD) hb7;have hY7:=za hYD hyD hb7;have hz7:=nLt hzD hb7.size;have hy7:=nLt hyD hb7.size;have HBe7:=hid (HBeD.out.trans (hb7.mono HBeD.out.size));clear hb7
       (try go_wp2_with fail)
       refine hK.out _ _ ?_ (fun H_=>?_)
       ·exact⟨hL7,hX7,hY7⟩
       clear hK K
       (try simp only[Act.put,sA,s0,sS])
       refine cH 12 rfl fun K hK=>?_
       go_simp
       refine(zlD b a0 a1 _ a3 c0 c1 c2 c3 _ _ _ (HK.out.mono (HBw.out _ HBe7.out)) (by have:=HPN.out;omega) (zgl HAm.out)).mono ?_;rintro e w8⟨rfl,hb8⟩;have hX8:=za hX7 hz7 hb8;have hL8:=za hL7 (nSl hz7) hb8;have hY8:=za hY7 hy7 hb8;have hz8:=nLt hz7 hb8.size;have hy8:=nLt hy7 hb8.size;have HBe8:=hid (HBe7.out.trans (hb8.mono HBe7.out.size));clear hb8
       (try go_wp2_with fail)
       refine hK.out _ _ ?_ (fun H_=>?_)
       ·exact⟨hL8,hX8,hY8⟩
       clear hK K
       (try simp only[Act.put,sA,s0,sS])
       refine tG 13 ?_;refine tG 16 ?_
       by_cases t7:used l b.os b.ls[k].tm b.ls[k].rs+out b.ps b.ls[k].tm b.ls[k].rs+b.ls[k].fr=b.ls[k].mo
       ·have hd7:=bne_eq_false_iff_eq.2 t7
        have HT7:=hid t7;clear t7;refine tG 19 ?_;refine wpAnyH_done (by kernel_rfl) ?_ _;have HD:Hid ((b.ls.take (k+1)).all (yJ l.ts)=true/\za2 qP b.ls (k+1)/\(b.ls.take (k+1)).all (za1 l b)=true):=HYes.out HLa.out (zgr hlt (fun _=>HT6.out)) (by unfold za1 sumTo;rw[decide_eq_true_eq];have:=HT7.out;unfold out at this;omega);go_wp2_with fail
        exact⟨⟨k+1,by omega,by go_num,HD.out.1,HD.out.2.1,HD.out.2.2,HBe8.out⟩,by simp[intOf];omega⟩
       ·have hd7:=bne_iff_ne.2 t7
        have HT7:=hid t7;clear t7;refine tG 19 ?_;refine wpAnyH_done (by kernel_rfl) ?_ _;have HF:Hid (qw l b=false):=HNs.out (by unfold za1 sumTo;rw[decide_eq_false_iff_not];have:=HT7.out;unfold out at this;omega);go_wp2_with fail
        go_ret;exact⟨ze HF.out.symm,HBw.out _ HBe8.out⟩
      ·have hd6:decide (0<=key2 (b.ls[k-1]'(by omega)).tm (b.ls[k-1]'(by omega)).rs b.ls[k].tm b.ls[k].rs)=true:=decide_eq_true (by omega)
       refine tG 22 ?_;refine tG 23 ?_;refine wpAnyH_done (by kernel_rfl) ?_ _;have HF:Hid (qw l b=false):=HNa.out (by omega) (Int.not_lt.1 t6);go_wp2_with fail
       go_ret;exact⟨ze HF.out.symm,HBw.out _ HBe.out.drew⟩
     ·have hg:=decide_eq_false hk0
      refine wp_region_held_drew (S:=fun w'=>(∀j,w'.cell? ⟨w.heap.size+1,j,none⟩=(#[.int .i64 b.now,.int .i64 b.tick,.int .i64 b.given,.slice a0 b.os.length c0,.slice a1 b.gs.length c1,.slice (some ⟨ob,off,none⟩) b.ls.length c2,.slice a3 b.ps.length c3]:Array Value)[j]?)/\(∀j,w'.cell? ⟨wr.heap.size,j,none⟩=(#[.string b.ls[k].tm,.string b.ls[k].rs,.int .i64 b.ls[k].mo,.int .i64 b.ls[k].fr]:Array Value)[j]?) ) (by kernel_rfl) ⟨za hX hz (bRf W5.heap.size W5).drew,za hY hy (bRf W5.heap.size W5).drew⟩ (fun H_=>?_);refine tG 0 ?_;refine tG 1 ?_;refine tG 2 ?_;refine kG 3 ?_;refine kG 4 ?_;refine kG 5 ?_;refine kG 6 ?_;refine kG 7 ?_;refine kG 8 ?_;refine kG 9 ?_;refine kG 10 ?_;refine kG 11 ?_;refine kG 12 ?_;refine kG 13 ?_;refine kG 14 ?_;refine kG 15 ?_;refine kG 16 ?_;refine kG 17 ?_;refine kG 18 ?_;refine kG 19 ?_;refine kG 20 ?_;refine kG 21 ?_;refine kG 22 ?_;refine tG 23 ?_;refine wpAnyH_done (by kernel_rfl) ?_ _;go_wp2_with fail
      have hLD:=za hLw hz' (bRf W5.heap.size W5).drew.drew;have hXD:=za hX hz (bRf W5.heap.size W5).drew.drew;have hYD:=za hY hy (bRf W5.heap.size W5).drew.drew;have hzD:=hz;have hyD:=hy;have HBeD:=hid HBe.out.drew.drew;have HUs:=zej l b b.ls[k].tm b.ls[k].rs HZ.out.1;have HOs:=zbN b.ps b.ls[k].tm b.ls[k].rs (zgl HAm.out) b.ps.length (Nat.le_refl _);have hw1:IntKind.i64.wrap (used l b.os b.ls[k].tm b.ls[k].rs+out b.ps b.ls[k].tm b.ls[k].rs)=used l b.os b.ls[k].tm b.ls[k].rs+out b.ps b.ls[k].tm b.ls[k].rs:=by rw[IntKind.wrap_i64];have:=HPN.out;unfold out;omega
      have hw2:IntKind.i64.wrap (used l b.os b.ls[k].tm b.ls[k].rs+out b.ps b.ls[k].tm b.ls[k].rs+b.ls[k].fr)=used l b.os b.ls[k].tm b.ls[k].rs+out b.ps b.ls[k].tm b.ls[k].rs+b.ls[k].fr:=by rw[IntKind.wrap_i64];have:=HPN.out;have:=HFr.out;unfold out;omega
      clear HUs HOs;refine wp_region_held_drew (S:=fun w'=>(∀j,w'.cell? ⟨w.heap.size,j,none⟩=(#[.slice la l.ss.length lca,.slice lb l.ms.length lcb,.slice lc l.ts.length lcc]:Array Value)[j]?)/\(∀j,w'.cell? ⟨w.heap.size+1,j,none⟩=(#[.int .i64 b.now,.int .i64 b.tick,.int .i64 b.given,.slice a0 b.os.length c0,.slice a1 b.gs.length c1,.slice (some ⟨ob,off,none⟩) b.ls.length c2,.slice a3 b.ps.length c3]:Array Value)[j]?)/\(∀j,w'.cell? ⟨wr.heap.size,j,none⟩=(#[.string b.ls[k].tm,.string b.ls[k].rs,.int .i64 b.ls[k].mo,.int .i64 b.ls[k].fr]:Array Value)[j]?)) (by kernel_rfl) ⟨hLD,hXD,hYD⟩ (fun H_=>?_);refine tG 0 ?_;refine tG 1 ?_;refine tG 2 ?_;refine tG 3 ?_;refine tG 4 ?_;refine tG 5 ?_;refine tG 7 ?_;refine tG 8 ?_;refine tG 9 ?_;refine tG 10 ?_;refine tG 11 ?_;refine tG 14 ?_;refine tG 15 ?_;refine tG 17 ?_;refine tG 18 ?_;refine cH 6 rfl fun K hK=>?_
      go_simp
      refine(zha l la lb lc lca lcb lcc b a0 a1 _ a3 c0 c1 c2 c3 _ _ _ (HL.out.mono (HBw.out _ HBeD.out)) (HK.out.mono (HBw.out _ HBeD.out)) HZ.out.1).mono ?_;rintro e w7⟨rfl,hb7⟩;have hX7:=za hXD hzD hb7;have hL7:=za hLD (nSl hzD) hb7;have hY7:=za hYD hyD hb7;have hz7:=nLt hzD hb7.size;have hy7:=nLt hyD hb7.size;have HBe7:=hid (HBeD.out.trans (hb7.mono HBeD.out.size));clear hb7
      (try go_wp2_with fail)
      refine hK.out _ _ ?_ (fun H_=>?_)
      ·exact⟨hL7,hX7,hY7⟩
      clear hK K
      (try simp only[Act.put,sA,s0,sS])
      refine cH 12 rfl fun K hK=>?_
      go_simp
      refine(zlD b a0 a1 _ a3 c0 c1 c2 c3 _ _ _ (HK.out.mono (HBw.out _ HBe7.out)) (by have:=HPN.out;omega) (zgl HAm.out)).mono ?_;rintro e w8⟨rfl,hb8⟩;have hX8:=za hX7 hz7 hb8;have hL8:=za hL7 (nSl hz7) hb8;have hY8:=za hY7 hy7 hb8;have hz8:=nLt hz7 hb8.size;have hy8:=nLt hy7 hb8.size;have HBe8:=hid (HBe7.out.trans (hb8.mono HBe7.out.size));clear hb8
      (try go_wp2_with fail)
      refine hK.out _ _ ?_ (fun H_=>?_)
      ·exact⟨hL8,hX8,hY8⟩
      clear hK K
      (try simp only[Act.put,sA,s0,sS])
      refine tG 13 ?_;refine tG 16 ?_
      by_cases t7:used l b.os b.ls[k].tm b.ls[k].rs+out b.ps b.ls[k].tm b.ls[k].rs+b.ls[k].fr=b.ls[k].mo
      ·have hd7:=bne_eq_false_iff_eq.2 t7
       have HT7:=hid t7;clear t7;refine tG 19 ?_;refine wpAnyH_done (by kernel_rfl) ?_ _;have HD:Hid ((b.ls.take (k+1)).all (yJ l.ts)=true/\za2 qP b.ls (k+1)/\(b.ls.take (k+1)).all (za1 l b)=true):=HYes.out HLa.out (fun m e=>by omega) (by unfold za1 sumTo;rw[decide_eq_true_eq];have:=HT7.out;unfold out at this;omega);go_wp2_with fail
       exact⟨⟨k+1,by omega,by go_num,HD.out.1,HD.out.2.1,HD.out.2.2,HBe8.out⟩,by simp[intOf];omega⟩
      ·have hd7:=bne_iff_ne.2 t7
       have HT7:=hid t7;clear t7;refine tG 19 ?_;refine wpAnyH_done (by kernel_rfl) ?_ _;have HF:Hid (qw l b=false):=HNs.out (by unfold za1 sumTo;rw[decide_eq_false_iff_not];have:=HT7.out;unfold out at this;omega);go_wp2_with fail
       go_ret;exact⟨ze HF.out.symm,HBw.out _ HBe8.out⟩
    ·have e:k=b.ls.length:=by omega
     subst e
     have HE:Hid (qw l b=true):=by
      unfold Hid qw yV zcV;have h1:=HQ.out.1;have h2:=HQ.out.2.2.1;rw[tOl (Nat.le_refl _)]at h1 h2;rw[zgF HQ.out.2.1 (Nat.le_refl _),decide_eq_true HLN.out,HPu.out,h1,h2];rfl
     clear HQ hlt hk hX1 hL1;go_wp2_with fail
     go_ret;exact⟨ze HE.out.symm,HBr.out⟩
end Go.Proofs.YtnapmdofidgliaaGreat
