import Derived.Test.YtihdafafigceiaaGreatM32
import Derived.Test.YtihdafafigceiaaGreatM28
import Derived.Test.YtihdafafigceiaaGreatM08
import Derived.Test.YtihdafafigceiaaGreatM26
import Derived.Test.YtihdafafigceiaaGreatM29
import Derived.Deep.RegionWith
import Derived.WideKeyEntry
set_option maxHeartbeats 4000000
namespace Go.Proofs.YtihdafafigceiaaGreat
open Go.RowKit
theorem yc.new (w:World):yc (w.alloc (.map #[] 0)) w.heap.size (fun _ _=>none) :=
 ⟨⟨#[],0,Array.getElem?_push_size,fun x hx=>(by simp at hx),fun a b v h=>(by cases h),fun i j x y hx=>(by simp at hx)⟩,fun es c h=>by
  have e:(w.alloc (.map #[] 0)).heap[w.heap.size]?=some (.map #[] 0):=Array.getElem?_push_size
  rw [e] at h
  cases h
  exact ⟨fun x hx=>(by simp at hx),by simp⟩⟩
theorem zgq.below {r B:Nat} {w0 w w':World} (h:zgq r w w') (hb:Below B w0 w) (hr:B<=r):Below B w0 w' :=
 ⟨h.os.trans hb.os,h.tape.trans hb.tape,h.output.trans hb.output,by rw [h.size];exact hb.size,fun k hk=>(h.out k (by omega)).trans (hb.block k hk)⟩
theorem zeP (o:Ob) (a0 a1:Option Addr) (c0 c1:Nat) (w:World):Calls Tryz.prog 112 #[.agg #[.string o.kd,.string o.nm,.string o.tm,.slice a0 o.vs.length c0,.bool o.en,.slice a1 o.hs.length c1,.int .i64 o.vr]] w fun e w'=>e = .returned (qM o.kd o.nm)/\Below w.heap.size w w':=by
 unfold qM
 go_enter Tryz.func112,Tryz.ntmps112
 go_wp2_with fail
 refine bodyPost_ret (v:=.agg #[.string o.kd,.string o.nm]) (by simp [results,Tryz.results112,go_sem]) rfl ⟨rfl,?_⟩
 first | exact zA _ _ _ | exact ((zA _ _ _).setCell (by simp) _).setCell (by simp) _ | exact ((zA _ _ _).setCell (by show _<=_+1;omega) _).setCell (by show _<=_+1;omega) _
structure zb1 (f:ByteArray->ByteArray->Option Int) (os:List Ob) (k:Nat):Prop where
 has:∀ p q,(f p q).isSome=(os.take k).any (Gate.zaa p q)
 at_:∀ p q v,f p q=some v->∃ i,∃ h:i < os.length,v=(i:Int)/\os[i].kd=p/\os[i].nm=q
theorem zb1.put {f:ByteArray->ByteArray->Option Int} {os:List Ob} {k:Nat} (h:zb1 f os k) (hlt:k < os.length):zb1 (fun p q=>if p=os[k].kd/\q=os[k].nm then some (k:Int) else f p q) os (k+1):=by
 refine ⟨fun p q=>?_,fun p q v hv=>?_⟩
 ·rw [List.take_succ_eq_append_getElem hlt,List.any_append,<- h.has p q]
  simp only [List.any_cons,List.any_nil,Bool.or_false]
  by_cases e:p=os[k].kd/\q=os[k].nm
  ·rw [if_pos e]
   unfold Gate.zaa
   simp [e.1,e.2]
  ·rw [if_neg e]
   have:Gate.zaa p q os[k]=false:=by
    unfold Gate.zaa
    rw [Bool.and_eq_false_iff,decide_eq_false_iff_not,decide_eq_false_iff_not]
    by_cases e1:os[k].kd=p
    ·exact Or.inr fun e2=>e ⟨e1.symm,e2.symm⟩
    ·exact Or.inl e1
   rw [this,Bool.or_false]
 ·by_cases e:p=os[k].kd/\q=os[k].nm
  ·rw [if_pos e] at hv
   exact ⟨k,hlt,(Option.some.inj hv).symm,e.1.symm,e.2.symm⟩
  ·rw [if_neg e] at hv
   exact h.at_ p q v hv
theorem zhC (a:Option Addr) (cap:Nat) (os:List Ob) (w:World) (hw:zbq w a os) (hl:os.length<=1048576) :
 Calls Tryz.prog 148 #[.slice a os.length cap] w fun e w'=>(∃ f,e = .returned (.map (some w.heap.size))/\yc w' w.heap.size f/\zb1 f os os.length)/\Below w.heap.size w w':=by
 have HW:Hid (zbq w a os):=hw
 have hmk:∀ w:World,(Instr.makeMap 134 none).run Tryz.prog w = .ok (.map (some w.heap.size)) (w.alloc (.map #[] 0)):=fun w=>by kernel_rfl
 clear hw
 go_enter Tryz.func148,Tryz.ntmps148
 go_wp2_with fail
 clear hmk
 go_loopw [9] (fun iv wr=>∃ k:Nat,k<=os.length/\iv = .int .i64 k/\Hid ((∃ f,yc wr w.heap.size f/\zb1 f os k)/\Below w.heap.size w wr)) (fun iv _=>os.length - (intOf iv).toNat)
 case atStart=>exact ⟨0,Nat.zero_le _,rfl,⟨_,yc.new w,⟨fun p q=>by simp,fun p q v h=>by cases h⟩⟩,(Below.refl _ _).alloc (Nat.le_refl _) _⟩
 case round =>
  obtain ⟨k,hk,rfl,HX⟩:=hrel
  obtain ⟨⟨f,hf,hc⟩,hB⟩:=HX.out
  have hkn:k<=1048576:=by omega
  by_cases hlt:k < os.length
  ·obtain ⟨ob,off,v0,v1,q0,q1,rfl,hob,hsm,hl0,hl1,d0,d1,d2,d3,d4,d5,d6⟩:=HW.out.load hB k hlt
   have hltI:(k:Int) < (os.length:Int):=by omega
   have hob':ob < wr.heap.size:=Nat.lt_of_lt_of_le hob hB.size
   have HKn:Hid (os[k].Small):=hsm
   have HPf:Hid (yc wr w.heap.size f/\zb1 f os k/\Below w.heap.size w wr):=⟨hf,hc,hB⟩
   clear hf hc hB HX hsm hl0 hl1
   go_wp2_with fail
   refine (zeP os[k] v0 v1 q0 q1 _).mono ?_
   rintro e w1 ⟨rfl,hb1⟩
   have hBa:=(HPf.out.2.2.alloc HPf.out.2.2.size (.cells #[.string os[k].kd,.string os[k].nm,.string os[k].tm,.slice v0 os[k].vs.length q0,.bool os[k].en,.slice v1 os[k].hs.length q1,.int .i64 os[k].vr] 115))
   have hf1:yc w1 w.heap.size f:=(HPf.out.1.mono ((Below.refl _ _).alloc (Nat.le_refl _) _)).mono hb1
   obtain ⟨w2,hup,hf2,hp2⟩:=hf1.upd zdB Tryz.underlying134 os[k].kd os[k].nm HKn.out.kd HKn.out.nm (k:Int)
   have HC:Hid ((∃ f,yc w2 w.heap.size f/\zb1 f os (k+1))/\Below w.heap.size w w2) :=
    ⟨⟨_,hf2,HPf.out.2.1.put hlt⟩,hp2.below (hBa.trans (hb1.mono hBa.size)) (Nat.le_refl _)⟩
   clear hf1 hf2 hp2 hb1 hBa
   go_wp2_with fail
   exact ⟨⟨k+1,by omega,by go_num,HC.out⟩,zn hlt⟩
  ·have e:k=os.length:=by omega
   subst e
   have HE:Hid (∃ f,yc wr w.heap.size f/\zb1 f os os.length):=⟨f,hf,hc⟩
   have HB:Hid (Below w.heap.size w wr):=hB
   clear hf hc hB HX hlt hk
   go_wp2_with fail
   go_ret
   obtain ⟨f,h1,h2⟩:=HE.out
   exact ⟨⟨f,rfl,h1,h2⟩,HB.out⟩
theorem zge (a:Option Addr) (cap:Nat) (os:List Ob) (w:World) (hw:zbq w a os) (hl:os.length<=1048576) :
 Calls Tryz.prog 148 #[.slice a os.length cap] w fun e w'=>(∃ f,e = .returned (.map (some w.heap.size))/\yc w' w.heap.size f/\∀ p q,(f p q).isSome=os.any (Gate.zaa p q))/\Below w.heap.size w w':=by
 refine (zhC a cap os w hw hl).mono ?_
 rintro e w' ⟨⟨f,he,hf,hp⟩,hb⟩
 exact ⟨⟨f,he,hf,fun p q=>by rw [hp.has p q,List.take_of_length_le (Nat.le_refl _)]⟩,hb⟩
theorem zg0 (s:ByteArray):(0 < qQ s/\zay s=qQ s) \/ (¬ 0 < qQ s/\zay s=0):=by
 unfold qQ zay
 by_cases h:Gate.zai s=true
 ·rw [if_pos h,if_pos h]
  have:=Gate.zcM s h
  omega
 ·rw [if_neg h,if_neg h]
  omega
theorem zjm (l:Lw) (la lb lc:Option Addr) (lca lcb lcc:Nat) (o:Ob) (oa oa':Option Addr) (ocap ocap':Nat) (res:ByteArray) (w:World) (hl:y9 w l la lb lc) (ho:qj w o oa oa') (hc:¬ (Gate.zx l.ss o=true/\res.toList.isEmpty=false)) :
 Calls Tryz.prog 132 #[.agg (l.cells la lb lc lca lcb lcc),.agg #[.string o.kd,.string o.nm,.string o.tm,.slice oa o.vs.length ocap,.bool o.en,.slice oa' o.hs.length ocap',.int .i64 o.vr],.string res] w fun e w'=>e = .returned (.int .i64 (Gate.qU l.ss o res))/\Below w.heap.size w w':=by
 have HL:Hid (y9 w l la lb lc):=hl
 have HO:Hid (qj w o oa oa'):=ho
 have HW:Hid (Gate.qU l.ss o res=0):=by unfold Hid Gate.qU;rw [if_neg hc]
 have HC:Hid (¬ (Gate.zx l.ss o=true/\res.toList.isEmpty=false)):=hc
 clear hl ho hc
 unfold Lw.cells
 by_cases hk:Gate.zx l.ss o=true
 ·have he:res.toList.isEmpty=true:=by
   cases h:res.toList.isEmpty with
   | true=>rfl
   | false=>exact absurd ⟨hk,h⟩ HC.out
  have HK:Hid (Gate.zx l.ss o=true):=hk
  clear hk
  go_enter Tryz.func132,Tryz.ntmps132
  go_wp2_with fail
  refine (qR _ _ l.ss o _ _ _ _ _ (HL.out.ss.mono (zA _ _ _)) (HO.out.mono (zA _ _ _)) HK.out).mono ?_
  rintro e w1 ⟨fa,fcap,rfl,hfl,hb⟩
  have HB1:Hid (Below w.heap.size w w1):=(zA w _ _).trans (hb.mono (by simp;omega))
  clear hfl hb
  go_wp2_with fail
  go_ret
  exact ⟨zq HW.out.symm,HB1.out⟩
 ·have HK:Hid (Gate.zx l.ss o=false):=by unfold Hid;simpa using hk
  clear hk
  go_enter Tryz.func132,Tryz.ntmps132
  go_wp2_with fail
  refine (zcH _ _ l.ss o _ _ _ _ _ (HL.out.ss.mono (zA _ _ _)) (HO.out.mono (zA _ _ _)) HK.out).mono ?_
  rintro e w1 ⟨v,rfl,hb⟩
  have HB1:Hid (Below w.heap.size w w1):=(zA w _ _).trans (hb.mono (by simp;omega))
  clear hb
  go_wp2_with fail
  go_ret
  exact ⟨zq HW.out.symm,HB1.out⟩
theorem zik (l:Lw) (la lb lc:Option Addr) (lca lcb lcc:Nat) (o:Ob) (oa oa':Option Addr) (ocap ocap':Nat) (res:ByteArray) (w:World) (hl:y9 w l la lb lc) (ho:qj w o oa oa') (hc:Gate.zx l.ss o=true) (he:res.toList.isEmpty=false) (hlen:o.vs.length<=1048576) :
 Calls Tryz.prog 132 #[.agg (l.cells la lb lc lca lcb lcc),.agg #[.string o.kd,.string o.nm,.string o.tm,.slice oa o.vs.length ocap,.bool o.en,.slice oa' o.hs.length ocap',.int .i64 o.vr],.string res] w fun e w'=>e = .returned (.int .i64 (Gate.qU l.ss o res))/\Below w.heap.size w w':=by
 have HL:Hid (y9 w l la lb lc):=hl
 have HO:Hid (qj w o oa oa'):=ho
 have HW:Hid (Gate.qU l.ss o res=(if res=o.kd then 1 else 0)+Gate.zdx (Gate.shapeOf l.ss o.kd).fs o.vs res (Gate.shapeOf l.ss o.kd).fs.length):=by unfold Hid Gate.qU;rw [if_pos ⟨hc,he⟩]
 have HC:Hid (Gate.zx l.ss o=true):=hc
 have HK:Hid (Gate.zG l.ss o.kd=true/\o.vs.length=(Gate.shapeOf l.ss o.kd).fs.length):=by unfold Gate.zx at hc;unfold Hid;simpa using hc
 have HN:Hid (o.vs.length<=1048576):=hlen
 clear hl ho hc hlen
 unfold Lw.cells
 go_enter Tryz.func132,Tryz.ntmps132
 go_wp2_with fail
 refine (qR _ _ l.ss o _ _ _ _ _ (HL.out.ss.mono (zA _ _ _)) (HO.out.mono (zA _ _ _)) HC.out).mono ?_
 rintro e w1 ⟨fa,fcap,rfl,hfl,hb⟩
 obtain ⟨hX0,hY0⟩:=qz w #[.slice la l.ss.length lca,.slice lb l.ms.length lcb,.slice lc l.ts.length lcc] #[.string o.kd,.string o.nm,.string o.tm,.slice oa o.vs.length ocap,.bool o.en,.slice oa' o.hs.length ocap',.int .i64 o.vr] 41 115
 have hY1:=za hY0 (by simp) hb
 have hz1:w.heap.size+1 < w1.heap.size:=by have:=hb.size;simp at this;omega
 have HB1:Hid (Below w.heap.size w w1):=(zA w _ _).trans (hb.mono (by simp;omega))
 have HFl:Hid (zP w1 fa (Gate.shapeOf l.ss o.kd).fs):=hfl.mono hb
 clear hfl hb hX0 hY0
 obtain ⟨S,HS⟩:∃ S,Hid (S=Gate.shapeOf l.ss o.kd):=⟨_,rfl⟩
 rw [<- HS.out] at HFl HK HW ⊢
 obtain ⟨n0,hn0⟩:∃ n0:Int,n0=if res=o.kd then 1 else 0:=⟨_,rfl⟩
 have hb0:0<=n0/\n0<=1:=by rw [hn0];split <;> omega
 rw [<- hn0] at HW
 have HN0:Hid (n0=if res=o.kd then 1 else 0):=hn0
 clear hn0
 by_cases hk:res=o.kd
 all_goals (
  first
  | (have hq:(res.toList == o.kd.toList)=true:=by rw [Gate.beq_toList];simpa using hk)
  | (have hq:(res.toList == o.kd.toList)=false:=by rw [Gate.beq_toList];simpa using hk)
  have HKE:=zir hk
  clear hk
  go_wp2_with fail
  go_loopw [9,10] (fun nv iv wr=>∃ (k:Nat) (s:Int),k<=S.fs.length/\iv = .int .i64 k/\nv = .int .i64 s/\Hid (s=n0+Gate.zdx S.fs o.vs res k/\Below w1.heap.size w1 wr)) (fun _ iv _=>S.fs.length - (intOf iv).toNat)
  case atStart=>exact ⟨0,n0,Nat.zero_le _,rfl,by have:=HN0.out;first | (rw [if_pos HKE.out] at this;rw [this]) | (rw [if_neg HKE.out] at this;rw [this]),by simp [Gate.zdx],Below.refl _ _⟩
  case round =>
   obtain ⟨k,s,hk,rfl,rfl,HQ⟩:=hrel
   have hsb:0<=s/\s<=1+k * 10000000:=by have h1:=HQ.out.1;have h2:=Gate.zcm S.fs o.vs res k;omega
   have hkn:k<=1048576:=by have:=HN.out;have:=HK.out.2;omega
   by_cases hlt:k < S.fs.length
   ·obtain ⟨b,off,rfl,hb,hr⟩:=HFl.out.rows (by intro e;rw [e] at hlt;simp at hlt)
    obtain ⟨wa,wcap,hf⟩:=hr k hlt
    obtain ⟨c0,c1,c2,c3,c4,c5,c6,c7,c8,c9,c10⟩:=(hf.mono hb HQ.out.2).load
    have hlv:k < o.vs.length:=by have:=HK.out.2;omega
    have hltI:(k:Int) < (S.fs.length:Int):=by omega
    have hlvI:(k:Int) < (o.vs.length:Int):=by omega
    obtain ⟨vb,voff,rfl,hvb,hvc0⟩:=HO.out.vals.cells (by intro e;rw [e] at hlv;simp at hlv)
    have hvc:=((HB1.out.trans (HQ.out.2.mono HB1.out.size)).cell (p:=⟨vb,voff+k,none⟩) hvb).trans (hvc0 k hlv)
    have hvb':vb < wr.heap.size:=Nat.lt_of_lt_of_le hvb (HB1.out.trans (HQ.out.2.mono HB1.out.size)).size
    have hb':b < wr.heap.size:=Nat.lt_of_lt_of_le hb HQ.out.2.size
    have hY:=za hY1 hz1 HQ.out.2
    have hz:w.heap.size+1 < wr.heap.size:=Nat.lt_of_lt_of_le hz1 HQ.out.2.size
    have HSt:Hid (Gate.zdx S.fs o.vs res (k+1)=Gate.zdx S.fs o.vs res k+Gate.yL S.fs[k] o.vs[k] res):=Gate.znw S.fs o.vs res k hlt hlv
    have HVs:Hid (o.vs[k].size<=maxLen):=HO.out.vals.small _ (List.getElem_mem _)
    have hnr:-1<=qQ o.vs[k]/\qQ o.vs[k]<=10000000:=by
     have h1:=zg0 o.vs[k];have h2:=Gate.zdz o.vs[k]
     have h3:qQ o.vs[k]=-1 \/ 0<=qQ o.vs[k]:=by
      unfold qQ;split
      ·rename_i h;exact Or.inr (Gate.zcM _ h)
      ·exact Or.inl rfl
     omega
    clear hf hr hvc0 c0 c2 c3 c4 c5 c6 c7 c8 c9
    go_wp2_with fail
    refine (zdA o.vs[k] _ HVs.out).mono ?_
    rintro e w2 ⟨rfl,rfl⟩
    by_cases h1:S.fs[k].kd=1
    ·have e1:(S.fs[k].kd == 1)=true:=by simpa using h1
     by_cases h2:S.fs[k].wg=res
     ·have e2:(S.fs[k].wg.toList == res.toList)=true:=by rw [Gate.beq_toList];simpa using h2
      have HFw:Hid (Gate.yL S.fs[k] o.vs[k] res=zay o.vs[k]):=by unfold Hid Gate.yL;rw [if_pos ⟨h1,h2⟩]
      clear h1 h2
      rcases zg0 o.vs[k] with ⟨hp,hd⟩ | ⟨hp,hd⟩
      ·have HD:=zir hd
       have hpd:decide (0 < qQ o.vs[k])=true:=by simpa using hp
       clear hd
       go_wp2_with fail
       first
        | exact ⟨⟨k+1,s+qQ o.vs[k],by omega,by go_num,by go_num,by rw [HSt.out,HFw.out,HQ.out.1,HD.out];omega,HQ.out.2⟩,zn hlt⟩
        | (go_quiet (fail);go_wp2_with fail;exact ⟨⟨k+1,s+qQ o.vs[k],by omega,by go_num,by go_num,by rw [HSt.out,HFw.out,HQ.out.1,HD.out];omega,below_drewN HQ.out.2 _⟩,zn hlt⟩)
      ·have HD:=zir hd
       have hpd:decide (0 < qQ o.vs[k])=false:=by simpa using hp
       clear hd
       go_wp2_with fail
       first
        | exact ⟨⟨k+1,s,by omega,by go_num,rfl,by rw [HSt.out,HFw.out,HQ.out.1,HD.out];omega,HQ.out.2⟩,zn hlt⟩
        | (go_quiet (fail);go_wp2_with fail;exact ⟨⟨k+1,s,by omega,by go_num,rfl,by rw [HSt.out,HFw.out,HQ.out.1,HD.out];omega,below_drewN HQ.out.2 _⟩,zn hlt⟩)
     ·have e2:(S.fs[k].wg.toList == res.toList)=false:=by rw [Gate.beq_toList];simpa using h2
      have HFw:Hid (Gate.yL S.fs[k] o.vs[k] res=0):=by unfold Hid Gate.yL;rw [if_neg (fun h=>h2 h.2)]
      clear h1 h2
      go_wp2_with fail
      first
       | exact ⟨⟨k+1,s,by omega,by go_num,rfl,by rw [HSt.out,HFw.out,HQ.out.1];omega,HQ.out.2⟩,zn hlt⟩
       | (go_quiet (fail);go_wp2_with fail;exact ⟨⟨k+1,s,by omega,by go_num,rfl,by rw [HSt.out,HFw.out,HQ.out.1];omega,below_drewN HQ.out.2 _⟩,zn hlt⟩)
    ·have e1:(S.fs[k].kd == 1)=false:=by simpa using h1
     have HFw:Hid (Gate.yL S.fs[k] o.vs[k] res=0):=by unfold Hid Gate.yL;rw [if_neg (fun h=>h1 h.1)]
     clear h1
     go_wp2_with fail
     first
      | exact ⟨⟨k+1,s,by omega,by go_num,rfl,by rw [HSt.out,HFw.out,HQ.out.1];omega,HQ.out.2⟩,zn hlt⟩
      | (go_quiet (fail);go_wp2_with fail;exact ⟨⟨k+1,s,by omega,by go_num,rfl,by rw [HSt.out,HFw.out,HQ.out.1];omega,below_drewN HQ.out.2 _⟩,zn hlt⟩)
   ·have e:k=S.fs.length:=by omega
    subst e
    have HE:Hid (Gate.qU l.ss o res=s):=by unfold Hid;rw [HW.out,HQ.out.1]
    clear hlt hk
    go_wp2_with fail
    go_ret
    exact ⟨zq HE.out.symm,HB1.out.trans (HQ.out.2.mono HB1.out.size)⟩)
theorem zin (l:Lw) (la lb lc:Option Addr) (lca lcb lcc:Nat) (o:Ob) (oa oa':Option Addr) (ocap ocap':Nat) (res:ByteArray) (w:World) (hl:y9 w l la lb lc) (ho:qj w o oa oa') (hlen:o.vs.length<=1048576) :
 Calls Tryz.prog 215 #[.agg (l.cells la lb lc lca lcb lcc),.agg #[.string o.kd,.string o.nm,.string o.tm,.slice oa o.vs.length ocap,.bool o.en,.slice oa' o.hs.length ocap',.int .i64 o.vr],.string res] w fun e w'=>e = .returned (.int .i64 (Gate.qU l.ss o res))/\Below w.heap.size w w':=by
 by_cases hc:Gate.zx l.ss o=true/\res.toList.isEmpty=false
 ·exact ziW l la lb lc lca lcb lcc o oa oa' ocap ocap' res w hl ho hc.1 hc.2 hlen
 ·exact zjt l la lb lc lca lcb lcc o oa oa' ocap ocap' res w hl ho hc
theorem zja (l:Lw) (la lb lc:Option Addr) (lca lcb lcc:Nat) (o:Ob) (oa oa':Option Addr) (ocap ocap':Nat) (res:ByteArray) (w:World) (hl:y9 w l la lb lc) (ho:qj w o oa oa') (hlen:o.vs.length<=1048576) :
 Calls Tryz.prog 132 #[.agg (l.cells la lb lc lca lcb lcc),.agg #[.string o.kd,.string o.nm,.string o.tm,.slice oa o.vs.length ocap,.bool o.en,.slice oa' o.hs.length ocap',.int .i64 o.vr],.string res] w fun e w'=>e = .returned (.int .i64 (Gate.qU l.ss o res))/\Below w.heap.size w w':=by
 by_cases hc:Gate.zx l.ss o=true/\res.toList.isEmpty=false
 ·exact zik l la lb lc lca lcb lcc o oa oa' ocap ocap' res w hl ho hc.1 hc.2 hlen
 ·exact zjm l la lb lc lca lcb lcc o oa oa' ocap ocap' res w hl ho hc
namespace Gate
def zpd:Ob:=⟨ByteArray.empty,ByteArray.empty,ByteArray.empty,[],false,[],0⟩
def zbc (l:Lw) (team res:ByteArray) (o:Ob):Int:=if under l.ts 4 o.tm team=true then qU l.ss o res else 0
def zad (l:Lw) (os:List Ob) (team res:ByteArray):Nat->Int
 | 0=>0
 | k+1=>zad l os team res k+zbc l team res (os.getD k zpd)
def used (l:Lw) (os:List Ob) (team res:ByteArray):Int:=zad l os team res os.length
theorem znC (ss:List Shp) (o:Ob) (res:ByteArray):0<=qU ss o res/\qU ss o res<=1+o.sz * 10000000:=by
 have h0:o.vs.length<=o.sz:=by unfold Ob.sz zdg qV;omega
 unfold qU
 split
 ·rename_i hc
  have hc1:=hc.1
  unfold zx at hc1
  simp only [Bool.and_eq_true,decide_eq_true_eq] at hc1
  have:=zcm (shapeOf ss o.kd).fs o.vs res (shapeOf ss o.kd).fs.length
  have h3:=hc1.2
  split <;> omega
 ·omega
theorem zkf (l:Lw) (team res:ByteArray) (o:Ob):0<=zbc l team res o/\zbc l team res o<=1+o.sz * 10000000:=by
 unfold zbc
 split
 ·exact znC _ _ _
 ·omega
theorem ze4 (l:Lw) (os:List Ob) (team res:ByteArray) (k:Nat) (h:k < os.length):zad l os team res (k+1)=zad l os team res k+zbc l team res os[k]:=by
 have e1:os.getD k zpd=os[k]:=by simp [List.getD,h]
 simp only [zad]
 rw [e1]
theorem zbP (l:Lw) (os:List Ob) (team res:ByteArray):∀ k,k<=os.length->0<=zad l os team res k/\zad l os team res k<=k+zaR (os.take k) * 10000000
 | 0,_=>by simp [zad,zaR]
 | k+1,h=>by
  have h1:=zbP l os team res k (by omega)
  have h2:=zkf l team res os[k]
  have h3:zaR (os.take (k+1))=zaR (os.take k)+os[k].sz:=za1 Ob.sz os k h
  rw [ze4 l os team res k h,h3]
  omega
end Gate
theorem zkZ (l:Lw) (la lb lc:Option Addr) (lca lcb lcc:Nat) (b:Bk) (a0 a1 a2 a3:Option Addr) (c0 c1 c2 c3:Nat) (team res:ByteArray) (w:World) (hl:y9 w l la lb lc) (hb:qw w b a0 a1 a2 a3) (hz:qD b.os<=1048576) :
 Calls Tryz.prog 197 #[.agg (l.cells la lb lc lca lcb lcc),.agg (b.cells a0 a1 a2 a3 c0 c1 c2 c3),.string team,.string res] w fun e w'=>e = .returned (.int .i64 (Gate.used l b.os team res))/\Below w.heap.size w w':=by
 have HL:Hid (y9 w l la lb lc):=hl
 have HK:Hid (qw w b a0 a1 a2 a3):=hb
 have HZ:Hid (qD b.os<=1048576/\b.os.length<=1048576):=⟨hz,by unfold qD at hz;omega⟩
 clear hl hb hz
 unfold Lw.cells Bk.cells
 go_enter Tryz.func197,Tryz.ntmps197
 go_wp2_with fail
 obtain ⟨hX0,hY0⟩:=qz w #[.slice la l.ss.length lca,.slice lb l.ms.length lcb,.slice lc l.ts.length lcc] #[.int .i64 b.now,.int .i64 b.tick,.int .i64 b.given,.slice a0 b.os.length c0,.slice a1 b.gs.length c1,.slice a2 b.ls.length c2,.slice a3 b.ps.length c3] 41 48
 have HB0:Hid (Below w.heap.size w ((w.alloc (.cells #[.slice la l.ss.length lca,.slice lb l.ms.length lcb,.slice lc l.ts.length lcc] 41)).alloc (.cells #[.int .i64 b.now,.int .i64 b.tick,.int .i64 b.given,.slice a0 b.os.length c0,.slice a1 b.gs.length c1,.slice a2 b.ls.length c2,.slice a3 b.ps.length c3] 48))):=zA w _ _
 obtain ⟨W0,hW0⟩:∃ W0,W0=(w.alloc (.cells #[.slice la l.ss.length lca,.slice lb l.ms.length lcb,.slice lc l.ts.length lcc] 41)).alloc (.cells #[.int .i64 b.now,.int .i64 b.tick,.int .i64 b.given,.slice a0 b.os.length c0,.slice a1 b.gs.length c1,.slice a2 b.ls.length c2,.slice a3 b.ps.length c3] 48):=⟨_,rfl⟩
 have hz0:w.heap.size+1 < W0.heap.size:=by rw [hW0];simp
 rw [<- hW0] at HB0 hX0 hY0 ⊢
 clear hW0
 go_loopw [9,15] (fun nv iv wr=>∃ (k:Nat) (s:Int),k<=b.os.length/\iv = .int .i64 k/\nv = .int .i64 s/\Hid (s=Gate.zad l b.os team res k/\Below W0.heap.size W0 wr)) (fun _ iv _=>b.os.length - (intOf iv).toNat)
 case atStart=>exact ⟨0,0,Nat.zero_le _,rfl,rfl,by simp [Gate.zad],Below.refl _ _⟩
 case round =>
  obtain ⟨k,s,hk,rfl,rfl,HQ⟩:=hrel
  have hsb:0<=s/\s<=20000000000000:=by
   have h1:=HQ.out.1;have h2:=Gate.zbP l b.os team res k hk;have h3:=HZ.out
   have h4:zaR (b.os.take k)<=zaR b.os:=zcB Ob.sz b.os k
   unfold qD at h3
   omega
  have hkn:k<=1048576:=by have:=HZ.out.2;omega
  by_cases hlt:k < b.os.length
  ·obtain ⟨ob,off,v0,v1,q0,q1,rfl,hob,hsm,hl0,hl1,d0,d1,d2,d3,d4,d5,d6⟩:=HK.out.os.load (HB0.out.trans (HQ.out.2.mono HB0.out.size)) k hlt
   have hob':ob < wr.heap.size:=Nat.lt_of_lt_of_le hob (HB0.out.trans (HQ.out.2.mono HB0.out.size)).size
   have hltI:(k:Int) < (b.os.length:Int):=by omega
   have hX:=za hX0 (Nat.lt_of_succ_lt hz0) HQ.out.2
   have hz:w.heap.size+1 < wr.heap.size:=Nat.lt_of_lt_of_le hz0 HQ.out.2.size
   have hzX:w.heap.size < wr.heap.size:=Nat.lt_of_succ_lt hz
   have HSt:Hid (Gate.zad l b.os team res (k+1)=Gate.zad l b.os team res k+Gate.zbc l team res b.os[k]):=Gate.ze4 l b.os team res k hlt
   have HOo:Hid (qj wr b.os[k] v0 v1):=⟨hsm,hl0,hl1⟩
   have HOl:Hid (b.os[k].vs.length<=1048576):=by
    have h3:=HZ.out.1
    have:=(zkY (left:=1048576) (ms:=b.os) (by omega) (by omega)).2 k hlt
    exact this.1
   have hub:=Gate.zkf l team res b.os[k]
   have hwb:=Gate.zfH l.ss b.os[k] res HOl.out
   clear hsm hl0 hl1 hub
   go_wp2_with fail
   have hb1:Below wr.heap.size wr (wr.alloc (.cells #[.string b.os[k].kd,.string b.os[k].nm,.string b.os[k].tm,.slice v0 b.os[k].vs.length q0,.bool b.os[k].en,.slice v1 b.os[k].hs.length q1,.int .i64 b.os[k].vr] 115)):=(Below.refl _ _).alloc (Nat.le_refl _) _
   have hN:=zm wr #[.string b.os[k].kd,.string b.os[k].nm,.string b.os[k].tm,.slice v0 b.os[k].vs.length q0,.bool b.os[k].en,.slice v1 b.os[k].hs.length q1,.int .i64 b.os[k].vr] 115
   obtain ⟨w1,hw1⟩:∃ w1,w1=wr.alloc (.cells #[.string b.os[k].kd,.string b.os[k].nm,.string b.os[k].tm,.slice v0 b.os[k].vs.length q0,.bool b.os[k].en,.slice v1 b.os[k].hs.length q1,.int .i64 b.os[k].vr] 115):=⟨_,rfl⟩
   have hn1:wr.heap.size < w1.heap.size:=by rw [hw1];simp
   rw [<- hw1] at hb1 hN ⊢
   clear hw1 d0 d1 d2 d3 d4 d5 d6
   have HB1:Hid (Below W0.heap.size W0 w1):=HQ.out.2.trans (hb1.mono HQ.out.2.size)
   have hX1:=za hX (Nat.lt_of_succ_lt hz) hb1
   have HO1:Hid (qj w1 b.os[k] v0 v1):=HOo.out.mono hb1
   have hz1:w.heap.size+1 < w1.heap.size:=Nat.lt_trans hz hn1
   clear hb1 hX
   refine (zjI _ _ l.ts b.os[k].tm team _ (HL.out.ts.mono (HB0.out.trans (HB1.out.mono HB0.out.size)))).mono ?_
   rintro e w2 ⟨rfl,hb2⟩
   have HB2:Hid (Below W0.heap.size W0 w2):=HB1.out.trans (hb2.mono HB1.out.size)
   have hX2:=za hX1 (Nat.lt_of_succ_lt hz1) hb2
   have hN2:=za hN hn1 hb2
   have HO2:Hid (qj w2 b.os[k] v0 v1):=HO1.out.mono hb2
   have hz2:w.heap.size+1 < w2.heap.size:=Nat.lt_of_lt_of_le hz1 hb2.size
   have hn2:wr.heap.size < w2.heap.size:=Nat.lt_of_lt_of_le hn1 hb2.size
   clear hb2 hX1 hN
   by_cases hu:Gate.under l.ts 4 b.os[k].tm team=true
   ·have HU:Hid (Gate.zbc l team res b.os[k]=Gate.qU l.ss b.os[k] res):=by unfold Hid Gate.zbc;rw [if_pos hu]
    rw [hu]
    clear hu
    go_wp2_with fail
    refine (zin l _ _ _ _ _ _ b.os[k] _ _ _ _ res _ (HL.out.mono (HB0.out.trans (HB2.out.mono HB0.out.size))) HO2.out HOl.out).mono ?_
    rintro e w3 ⟨rfl,hb3⟩
    have HB3:Hid (Below W0.heap.size W0 w3):=HB2.out.trans (hb3.mono HB2.out.size)
    clear hb3
    go_wp2_with fail
    exact ⟨⟨k+1,s+Gate.qU l.ss b.os[k] res,by omega,by go_num,by go_num,by rw [HSt.out,HU.out,HQ.out.1],HB3.out⟩,zn hlt⟩
   ·have hu':Gate.under l.ts 4 b.os[k].tm team=false:=by simpa using hu
    have HU:Hid (Gate.zbc l team res b.os[k]=0):=by unfold Hid Gate.zbc;rw [if_neg hu]
    rw [hu']
    clear hu hu'
    go_wp2_with fail
    exact ⟨⟨k+1,s,by omega,by go_num,rfl,by rw [HSt.out,HU.out,HQ.out.1];omega,HB2.out⟩,zn hlt⟩
  ·have e:k=b.os.length:=by omega
   subst e
   have HE:Hid (Gate.used l b.os team res=s):=by unfold Hid Gate.used;rw [HQ.out.1]
   clear hlt hk
   go_wp2_with fail
   go_ret
   exact ⟨zq HE.out.symm,HB0.out.trans (HQ.out.2.mono HB0.out.size)⟩
theorem yc.entry {kt mt:TypeId} (K:zhZ kt) (hm:Tryz.prog.underlying mt=some (.map kt 3)) {w:World} {r:Nat} {f:ByteArray->ByteArray->Option Int} (h:yc w r f) (a b:ByteArray) (ha:a.size<=maxLen) (hb:b.size<=maxLen) (v0:Int) (hf:f a b=some v0) :
 ∃ st:Int,(Instr.mapEntry mt (.map (some r)) (qM a b)).run Tryz.prog w = .ok (.tuple #[.int .i64 v0,.int .i64 st]) w /\
  ∀ v:Int,∃ w',(Instr.entryStore mt (.map (some r)) (.int .i64 st) (.int .i64 v)).run Tryz.prog w = .ok () w'/\yc w' r (fun p q=>if p=a/\q=b then some v else f p q)/\zgq r w w':=by
 obtain ⟨es,clock,hh,h1,h2,h3⟩:=h.ex
 obtain ⟨l,hl⟩:=K.key a b ha hb
 obtain ⟨s1,s2⟩:=h.stamps es clock hh
 have hkeys:∀ e ∈ es.toList,∃ l,keyOf Tryz.prog kt e.key=some l:=fun e he=>by
  obtain ⟨a',b',v,e1,ha',hb',_⟩:=h1 e he
  rw [e1];exact K.key a' b' ha' hb'
 have hc:=K.law.check w false hl
 have hs:=K.law.stays w hl
 rcases K.law.find w hl es.toList hkeys with ⟨g1,g2⟩ | ⟨j,e,g1,g2,g3⟩
 ·obtain ⟨x,hx,hk⟩:=h2 a b v0 hf
  exact absurd hk (g2 x hx)
 ·have hj:es[j]?=some e:=by simpa using g2
  have hv:e.val = .int .i64 v0:=by
   obtain ⟨a',b',v',e1,_,_,e2,e3⟩:=h1 e (List.mem_of_getElem? g2)
   rw [g3] at e1
   have hab:a=a'/\b=b':=by unfold qM at e1;simpa using e1
   obtain ⟨rfl,rfl⟩:=hab
   rw [e3] at hf
   rw [e2,Option.some.inj hf]
  have hsame:es.modify j (fun e=>{ e with key:=qM a b })=es:=by
   apply Array.ext'
   rw [Array.toList_modify]
   apply List.ext_getElem?
   intro i
   rw [List.getElem?_modify]
   by_cases e':j=i
   ·subst e'
    rw [g2]
    simp [<- g3]
   ·simp [e']
  have hset:{ w with heap:=w.heap.setIfInBounds r (.map es clock) }=w:=by
   have hr:r < w.heap.size:=(Array.getElem?_eq_some_iff.1 hh).1
   have:w.heap.setIfInBounds r (.map es clock)=w.heap:=by
    apply Array.ext_getElem?
    intro i
    by_cases e':r=i
    ·subst e';rw [Array.getElem?_setIfInBounds_self_of_lt hr,hh]
    ·rw [Array.getElem?_setIfInBounds_ne e']
   rw [this]
  refine ⟨(e.born:Int),?_,fun v=>?_⟩
  ·rw [hv] at g1
   simp [Instr.mapEntry,run_underlying hm,MapKept.run_getObj_map hh,hc,g1,hj,g3,hs,hsame,MapKept.run_setObj_map _ hh,Result.andThen,goInt,hset]
  ·obtain ⟨w',u1,u2,u3⟩:=h.upd K hm a b ha hb v
   refine ⟨w',?_,u2,u3⟩
   have hidx:es.findIdx? (fun e'=>((e'.born:Nat):Int) == ((e.born:Nat):Int))=some j:=by
    rw [WideElems.findIdx_arr]
    exact WideElems.findIdx_born s2 g2
   have hmod:es.modify j (fun e=>{ e with val:=.int .i64 v })=es.modify j (fun e'=>{ e' with key:=qM a b,val:=.int .i64 v }):=by
    apply Array.ext'
    rw [Array.toList_modify,Array.toList_modify]
    apply List.ext_getElem?
    intro i
    rw [List.getElem?_modify,List.getElem?_modify]
    by_cases e':j=i
    ·subst e'
     rw [g2]
     simp [<- g3]
    ·simp [e']
   simp [Instr.mapUpdate,run_underlying hm,MapKept.run_getObj_map hh,hc,g1,hj,g3,hs,MapKept.run_setObj_map _ hh,Result.andThen] at u1
   simp [Instr.entryStore,MapKept.run_getObj_map hh,asInt,asIntOf,hidx,hmod,MapKept.run_setObj_map _ hh,Result.andThen]
   exact u1
end Go.Proofs.YtihdafafigceiaaGreat
