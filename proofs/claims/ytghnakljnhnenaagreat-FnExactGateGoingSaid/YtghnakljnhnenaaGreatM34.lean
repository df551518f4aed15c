import Derived.Test.YtghnakljnhnenaaGreatM33
set_option maxHeartbeats 4000000
namespace Go.Proofs.YtghnakljnhnenaaGreat
open Go.RowKit
theorem zW.new (w:World):zW (w.alloc (.map #[] 0)) w.heap.size (fun _ _=>none) :=
 ⟨⟨#[],0,Array.getElem?_push_size,fun x hx=>(by simp at hx),fun a b v h=>(by cases h),fun i j x y hx=>(by simp at hx)⟩,fun es c h=>by
  have e:(w.alloc (.map #[] 0)).heap[w.heap.size]?=some (.map #[] 0):=Array.getElem?_push_size;rw [e] at h
  cases h
  exact ⟨fun x hx=>(by simp at hx),by simp⟩⟩
theorem zd6.below {r B:Nat} {w0 w w':World} (h:zd6 r w w') (hb:Below B w0 w) (hr:B<=r):Below B w0 w' :=
 ⟨h.os.trans hb.os,h.tape.trans hb.tape,h.output.trans hb.output,by rw [h.size];exact hb.size,fun k hk=>(h.out k (by omega)).trans (hb.block k hk)⟩
theorem ji (o:Ob) (a0 a1:Option Addr) (c0 c1:Nat) (w:World):Calls Tryz.prog 119 #[.agg #[.string o.kd,.string o.nm,.string o.tm,.slice a0 o.vs.length c0,.bool o.en,.slice a1 o.hs.length c1,.int .i64 o.vr]] w fun e w'=>e = .returned (qj o.kd o.nm)/\Below w.heap.size w w':=by
 unfold qj;go_enter Tryz.func119,Tryz.ntmps119;go_wp2_with fail
 refine bodyPost_ret (v:=.agg #[.string o.kd,.string o.nm]) (by simp [results,Tryz.results119,go_sem]) rfl ⟨rfl,?_⟩
 first | exact zA _ _ _ | exact ((zA _ _ _).setCell (by simp) _).setCell (by simp) _ | exact ((zA _ _ _).setCell (by show _<=_+1;omega) _).setCell (by show _<=_+1;omega) _
structure za7 (f:ByteArray->ByteArray->Option Int) (os:List Ob) (k:Nat):Prop where
 has:∀ p q,(f p q).isSome=(os.take k).any (Gate.jL p q)
 at_:∀ p q v,f p q=some v->∃ i,∃ h:i < os.length,v=(i:Int)/\os[i].kd=p/\os[i].nm=q
theorem za7.put {f:ByteArray->ByteArray->Option Int} {os:List Ob} {k:Nat} (h:za7 f os k) (hlt:k < os.length):za7 (fun p q=>if p=os[k].kd/\q=os[k].nm then some (k:Int) else f p q) os (k+1):=by
 refine ⟨fun p q=>?_,fun p q v hv=>?_⟩
 ·rw [tSe hlt,List.any_append,<- h.has p q]
  simp only [List.any_cons,List.any_nil,Bool.or_false]
  by_cases e:p=os[k].kd/\q=os[k].nm
  ·rw [if_pos e]
   unfold Gate.jL
   simp [e.1,e.2]
  ·rw [if_neg e]
   have:Gate.jL p q os[k]=false:=by
    unfold Gate.jL;rw [Bool.and_eq_false_iff,decide_eq_false_iff_not,decide_eq_false_iff_not]
    by_cases e1:os[k].kd=p
    ·exact Or.inr fun e2=>e ⟨e1.symm,e2.symm⟩
    ·exact Or.inl e1
   rw [this,Bool.or_false]
 ·by_cases e:p=os[k].kd/\q=os[k].nm
  ·rw [if_pos e] at hv
   exact ⟨k,hlt,(Option.some.inj hv).symm,e.1.symm,e.2.symm⟩
  ·rw [if_neg e] at hv
   exact h.at_ p q v hv
theorem zej (a:Option Addr) (cap:Nat) (os:List Ob) (w:World) (hw:zby w a os) (hl:os.length<=1048576) :
 Calls Tryz.prog 115 #[.slice a os.length cap] w fun e w'=>(∃ f,e = .returned (.map (some w.heap.size))/\zW w' w.heap.size f/\za7 f os os.length)/\Below w.heap.size w w':=by
 have HW:Hid (zby w a os):=hw;have hmk:∀ w:World,(Instr.makeMap 139 none).run Tryz.prog w = .ok (.map (some w.heap.size)) (w.alloc (.map #[] 0)):=fun w=>by kernel_rfl
 clear hw;go_enter Tryz.func115,Tryz.ntmps115;go_wp2_with fail
 clear hmk
 go_loopw [9] (fun iv wr=>∃ k:Nat,k<=os.length/\iv = .int .i64 k/\Hid ((∃ f,zW wr w.heap.size f/\za7 f os k)/\Below w.heap.size w wr)) (fun iv _=>os.length - (intOf iv).toNat)
 case atStart=>exact ⟨0,Nat.zero_le _,rfl,⟨_,zW.new w,⟨fun p q=>by simp,fun p q v h=>by cases h⟩⟩,bAl _ _⟩
 case round =>
  obtain ⟨k,hk,rfl,HX⟩:=hrel;obtain ⟨⟨f,hf,hc⟩,hB⟩:=HX.out;have hkn:k<=1048576:=by omega
  by_cases hlt:k < os.length
  ·obtain ⟨ob,off,v0,v1,q0,q1,rfl,hob,hsm,hl0,hl1,d0,d1,d2,d3,d4,d5,d6⟩:=HW.out.load hB k hlt
   have hltI:(k:Int) < (os.length:Int):=by omega
   have hob':ob < wr.heap.size:=nLt hob hB.size;have HKn:Hid (os[k].Small):=hsm;have HPf:Hid (zW wr w.heap.size f/\za7 f os k/\Below w.heap.size w wr):=⟨hf,hc,hB⟩
   clear hf hc hB HX hsm hl0 hl1;go_wp2_with fail
   refine (ji os[k] v0 v1 q0 q1 _).mono ?_;rintro e w1 ⟨rfl,hb1⟩;have hBa:=(HPf.out.2.2.alloc HPf.out.2.2.size (.cells #[.string os[k].kd,.string os[k].nm,.string os[k].tm,.slice v0 os[k].vs.length q0,.bool os[k].en,.slice v1 os[k].hs.length q1,.int .i64 os[k].vr] 119))
   have hf1:zW w1 w.heap.size f:=(HPf.out.1.mono (bAl _ _)).mono hb1;obtain ⟨w2,hup,hf2,hp2⟩:=hf1.upd zaL Tryz.underlying139 os[k].kd os[k].nm HKn.out.kd HKn.out.nm (k:Int)
   have HC:Hid ((∃ f,zW w2 w.heap.size f/\za7 f os (k+1))/\Below w.heap.size w w2) :=
    ⟨⟨_,hf2,HPf.out.2.1.put hlt⟩,hp2.below (hBa.trans (hb1.mono hBa.size)) (Nat.le_refl _)⟩
   clear hf1 hf2 hp2 hb1 hBa;go_wp2_with fail
   exact ⟨⟨k+1,by omega,by go_num,HC.out⟩,zn hlt⟩
  ·have e:k=os.length:=by omega
   subst e;have HE:Hid (∃ f,zW wr w.heap.size f/\za7 f os os.length):=⟨f,hf,hc⟩
   have HB:Hid (Below w.heap.size w wr):=hB;clear hf hc hB HX hlt hk;go_wp2_with fail
   go_ret;obtain ⟨f,h1,h2⟩:=HE.out;exact ⟨⟨f,rfl,h1,h2⟩,HB.out⟩
theorem zg2 (a:Option Addr) (cap:Nat) (os:List Ob) (w:World) (hw:zby w a os) (hl:os.length<=1048576) :
 Calls Tryz.prog 115 #[.slice a os.length cap] w fun e w'=>(∃ f,e = .returned (.map (some w.heap.size))/\zW w' w.heap.size f/\∀ p q,(f p q).isSome=os.any (Gate.jL p q))/\Below w.heap.size w w':=by
 refine (zej a cap os w hw hl).mono ?_;rintro e w' ⟨⟨f,he,hf,hp⟩,hb⟩;exact ⟨⟨f,he,hf,fun p q=>by rw [hp.has p q,tOl (Nat.le_refl _)]⟩,hb⟩
theorem zhI (s:ByteArray):(0 < qV s/\zaD s=qV s) \/ (¬ 0 < qV s/\zaD s=0):=by
 unfold qV zaD
 by_cases h:Gate.zal s=true
 ·rw [if_pos h,if_pos h]
  have:=Gate.zcT s h
  omega
 ·rw [if_neg h,if_neg h]
  omega
theorem zkf (l:Lw) (la lb lc:Option Addr) (lca lcb lcc:Nat) (o:Ob) (oa oa':Option Addr) (ocap ocap':Nat) (res:ByteArray) (w:World) (hl:y9 w l la lb lc) (ho:qB w o oa oa') (hc:¬ (Gate.zx l.ss o=true/\res.toList.isEmpty=false)) :
 Calls Tryz.prog 137 #[.agg (l.cells la lb lc lca lcb lcc),.agg #[.string o.kd,.string o.nm,.string o.tm,.slice oa o.vs.length ocap,.bool o.en,.slice oa' o.hs.length ocap',.int .i64 o.vr],.string res] w fun e w'=>e = .returned (.int .i64 (Gate.qX l.ss o res))/\Below w.heap.size w w':=by
 have HL:Hid (y9 w l la lb lc):=hl;have HO:Hid (qB w o oa oa'):=ho;have HW:Hid (Gate.qX l.ss o res=0):=by unfold Hid Gate.qX;rw [if_neg hc]
 have HC:Hid (¬ (Gate.zx l.ss o=true/\res.toList.isEmpty=false)):=hc;clear hl ho hc;unfold Lw.cells
 by_cases hk:Gate.zx l.ss o=true
 ·have he:res.toList.isEmpty=true:=by
   cases h:res.toList.isEmpty with
   | true=>rfl
   | false=>exact absurd ⟨hk,h⟩ HC.out
  have HK:Hid (Gate.zx l.ss o=true):=hk;clear hk;go_enter Tryz.func137,Tryz.ntmps137;go_wp2_with fail
  refine (qY _ _ l.ss o _ _ _ _ _ (HL.out.ss.mono (zA _ _ _)) (HO.out.mono (zA _ _ _)) HK.out).mono ?_;rintro e w1 ⟨fa,fcap,rfl,hfl,hb⟩;have HB1:Hid (Below w.heap.size w w1):=(zA w _ _).trans (hb.mono (by simp;omega));clear hfl hb;go_wp2_with fail
  go_ret;exact ⟨zq HW.out.symm,HB1.out⟩
 ·have HK:Hid (Gate.zx l.ss o=false):=by unfold Hid;simpa using hk
  clear hk;go_enter Tryz.func137,Tryz.ntmps137;go_wp2_with fail
  refine (zcZ _ _ l.ss o _ _ _ _ _ (HL.out.ss.mono (zA _ _ _)) (HO.out.mono (zA _ _ _)) HK.out).mono ?_;rintro e w1 ⟨v,rfl,hb⟩;have HB1:Hid (Below w.heap.size w w1):=(zA w _ _).trans (hb.mono (by simp;omega));clear hb;go_wp2_with fail
  go_ret;exact ⟨zq HW.out.symm,HB1.out⟩
theorem zjn (l:Lw) (la lb lc:Option Addr) (lca lcb lcc:Nat) (o:Ob) (oa oa':Option Addr) (ocap ocap':Nat) (res:ByteArray) (w:World) (hl:y9 w l la lb lc) (ho:qB w o oa oa') (hc:Gate.zx l.ss o=true) (he:res.toList.isEmpty=false) (hlen:o.vs.length<=1048576) :
 Calls Tryz.prog 137 #[.agg (l.cells la lb lc lca lcb lcc),.agg #[.string o.kd,.string o.nm,.string o.tm,.slice oa o.vs.length ocap,.bool o.en,.slice oa' o.hs.length ocap',.int .i64 o.vr],.string res] w fun e w'=>e = .returned (.int .i64 (Gate.qX l.ss o res))/\Below w.heap.size w w':=by
 have HL:Hid (y9 w l la lb lc):=hl;have HO:Hid (qB w o oa oa'):=ho;have HW:Hid (Gate.qX l.ss o res=(if res=o.kd then 1 else 0)+Gate.zdU (Gate.shapeOf l.ss o.kd).fs o.vs res (Gate.shapeOf l.ss o.kd).fs.length):=by unfold Hid Gate.qX;rw [if_pos ⟨hc,he⟩]
 have HC:Hid (Gate.zx l.ss o=true):=hc;have HK:Hid (Gate.zF l.ss o.kd=true/\o.vs.length=(Gate.shapeOf l.ss o.kd).fs.length):=by unfold Gate.zx at hc;unfold Hid;simpa using hc
 have HN:Hid (o.vs.length<=1048576):=hlen;clear hl ho hc hlen;unfold Lw.cells;go_enter Tryz.func137,Tryz.ntmps137;go_wp2_with fail
 refine (qY _ _ l.ss o _ _ _ _ _ (HL.out.ss.mono (zA _ _ _)) (HO.out.mono (zA _ _ _)) HC.out).mono ?_;rintro e w1 ⟨fa,fcap,rfl,hfl,hb⟩;obtain ⟨hX0,hY0⟩:=qw w #[.slice la l.ss.length lca,.slice lb l.ms.length lcb,.slice lc l.ts.length lcc] #[.string o.kd,.string o.nm,.string o.tm,.slice oa o.vs.length ocap,.bool o.en,.slice oa' o.hs.length ocap',.int .i64 o.vr] 41 119;have hY1:=za hY0 (by simp) hb;have hz1:w.heap.size+1 < w1.heap.size:=by have:=hb.size;simp at this;omega
 have HB1:Hid (Below w.heap.size w w1):=(zA w _ _).trans (hb.mono (by simp;omega));have HFl:Hid (zP w1 fa (Gate.shapeOf l.ss o.kd).fs):=hfl.mono hb;clear hfl hb hX0 hY0;obtain ⟨S,HS⟩:∃ S,Hid (S=Gate.shapeOf l.ss o.kd):=⟨_,rfl⟩
 rw [<- HS.out] at HFl HK HW ⊢;obtain ⟨n0,hn0⟩:∃ n0:Int,n0=if res=o.kd then 1 else 0:=⟨_,rfl⟩
 have hb0:0<=n0/\n0<=1:=by rw [hn0];split <;> omega
 rw [<- hn0] at HW;have HN0:Hid (n0=if res=o.kd then 1 else 0):=hn0;clear hn0
 by_cases hk:res=o.kd
 all_goals (
  first
  | (have hq:(res.toList == o.kd.toList)=true:=by rw [Gate.beq_toList];simpa using hk)
  | (have hq:(res.toList == o.kd.toList)=false:=by rw [Gate.beq_toList];simpa using hk)
  have HKE:=ziJ hk;clear hk;go_wp2_with fail
  go_loopw [9,10] (fun nv iv wr=>∃ (k:Nat) (s:Int),k<=S.fs.length/\iv = .int .i64 k/\nv = .int .i64 s/\Hid (s=n0+Gate.zdU S.fs o.vs res k/\Below w1.heap.size w1 wr)) (fun _ iv _=>S.fs.length - (intOf iv).toNat)
  case atStart=>exact ⟨0,n0,Nat.zero_le _,rfl,by have:=HN0.out;first | (rw [if_pos HKE.out] at this;rw [this]) | (rw [if_neg HKE.out] at this;rw [this]),by simp [Gate.zdU],bRf _ _⟩
  case round =>
   obtain ⟨k,s,hk,rfl,rfl,HQ⟩:=hrel;have hsb:0<=s/\s<=1+k * 10000000:=by have h1:=HQ.out.1;have h2:=Gate.zcC S.fs o.vs res k;omega
   have hkn:k<=1048576:=by have:=HN.out;have:=HK.out.2;omega
   by_cases hlt:k < S.fs.length
   ·obtain ⟨b,off,rfl,hb,hr⟩:=HFl.out.rows (by intro e;rw [e] at hlt;simp at hlt)
    obtain ⟨wa,wcap,hf⟩:=hr k hlt;obtain ⟨c0,c1,c2,c3,c4,c5,c6,c7,c8,c9,c10⟩:=(hf.mono hb HQ.out.2).load;have hlv:k < o.vs.length:=by have:=HK.out.2;omega
    have hltI:(k:Int) < (S.fs.length:Int):=by omega
    have hlvI:(k:Int) < (o.vs.length:Int):=by omega
    obtain ⟨vb,voff,rfl,hvb,hvc0⟩:=HO.out.vals.cells (by intro e;rw [e] at hlv;simp at hlv);have hvc:=((HB1.out.trans (HQ.out.2.mono HB1.out.size)).cell (p:=⟨vb,voff+k,none⟩) hvb).trans (hvc0 k hlv);have hvb':vb < wr.heap.size:=nLt hvb (HB1.out.trans (HQ.out.2.mono HB1.out.size)).size;have hb':b < wr.heap.size:=nLt hb HQ.out.2.size;have hY:=za hY1 hz1 HQ.out.2;have hz:w.heap.size+1 < wr.heap.size:=nLt hz1 HQ.out.2.size;have HSt:Hid (Gate.zdU S.fs o.vs res (k+1)=Gate.zdU S.fs o.vs res k+Gate.yL S.fs[k] o.vs[k] res):=Gate.zom S.fs o.vs res k hlt hlv;have HVs:Hid (o.vs[k].size<=maxLen):=HO.out.vals.small _ (List.getElem_mem _)
    have hnr:-1<=qV o.vs[k]/\qV o.vs[k]<=10000000:=by
     have h1:=zhI o.vs[k];have h2:=Gate.zdQ o.vs[k]
     have h3:qV o.vs[k]=-1 \/ 0<=qV o.vs[k]:=by
      unfold qV;split
      ·rename_i h;exact Or.inr (Gate.zcT _ h)
      ·exact Or.inl rfl
     omega
    clear hf hr hvc0 c0 c2 c3 c4 c5 c6 c7 c8 c9;go_wp2_with fail
    refine (zd8 o.vs[k] _ HVs.out).mono ?_;rintro e w2 ⟨rfl,rfl⟩
    by_cases h1:S.fs[k].kd=1
    ·have e1:(S.fs[k].kd == 1)=true:=by simpa using h1
     by_cases h2:S.fs[k].wg=res
     ·have e2:(S.fs[k].wg.toList == res.toList)=true:=by rw [Gate.beq_toList];simpa using h2
      have HFw:Hid (Gate.yL S.fs[k] o.vs[k] res=zaD o.vs[k]):=by unfold Hid Gate.yL;rw [if_pos ⟨h1,h2⟩]
      clear h1 h2
      rcases zhI o.vs[k] with ⟨hp,hd⟩ | ⟨hp,hd⟩
      ·have HD:=ziJ hd
       have hpd:decide (0 < qV o.vs[k])=true:=by simpa using hp
       clear hd;go_wp2_with fail
       first
        | exact ⟨⟨k+1,s+qV o.vs[k],by omega,by go_num,by go_num,by rw [HSt.out,HFw.out,HQ.out.1,HD.out];omega,HQ.out.2⟩,zn hlt⟩
        | (go_quiet (fail);go_wp2_with fail;exact ⟨⟨k+1,s+qV o.vs[k],by omega,by go_num,by go_num,by rw [HSt.out,HFw.out,HQ.out.1,HD.out];omega,below_drewN HQ.out.2 _⟩,zn hlt⟩)
      ·have HD:=ziJ hd
       have hpd:decide (0 < qV o.vs[k])=false:=by simpa using hp
       clear hd;go_wp2_with fail
       first
        | exact ⟨⟨k+1,s,by omega,by go_num,rfl,by rw [HSt.out,HFw.out,HQ.out.1,HD.out];omega,HQ.out.2⟩,zn hlt⟩
        | (go_quiet (fail);go_wp2_with fail;exact ⟨⟨k+1,s,by omega,by go_num,rfl,by rw [HSt.out,HFw.out,HQ.out.1,HD.out];omega,below_drewN HQ.out.2 _⟩,zn hlt⟩)
     ·have e2:(S.fs[k].wg.toList == res.toList)=false:=by rw [Gate.beq_toList];simpa using h2
      have HFw:Hid (Gate.yL S.fs[k] o.vs[k] res=0):=by unfold Hid Gate.yL;rw [if_neg (fun h=>h2 h.2)]
      clear h1 h2;go_wp2_with fail
      first
       | exact ⟨⟨k+1,s,by omega,by go_num,rfl,by rw [HSt.out,HFw.out,HQ.out.1];omega,HQ.out.2⟩,zn hlt⟩
       | (go_quiet (fail);go_wp2_with fail;exact ⟨⟨k+1,s,by omega,by go_num,rfl,by rw [HSt.out,HFw.out,HQ.out.1];omega,below_drewN HQ.out.2 _⟩,zn hlt⟩)
    ·have e1:(S.fs[k].kd == 1)=false:=by simpa using h1
     have HFw:Hid (Gate.yL S.fs[k] o.vs[k] res=0):=by unfold Hid Gate.yL;rw [if_neg (fun h=>h1 h.1)]
     clear h1;go_wp2_with fail
     first
      | exact ⟨⟨k+1,s,by omega,by go_num,rfl,by rw [HSt.out,HFw.out,HQ.out.1];omega,HQ.out.2⟩,zn hlt⟩
      | (go_quiet (fail);go_wp2_with fail;exact ⟨⟨k+1,s,by omega,by go_num,rfl,by rw [HSt.out,HFw.out,HQ.out.1];omega,below_drewN HQ.out.2 _⟩,zn hlt⟩)
   ·have e:k=S.fs.length:=by omega
    subst e;have HE:Hid (Gate.qX l.ss o res=s):=by unfold Hid;rw [HW.out,HQ.out.1]
    clear hlt hk;go_wp2_with fail
    go_ret;exact ⟨zq HE.out.symm,HB1.out.trans (HQ.out.2.mono HB1.out.size)⟩)
theorem ziH (l:Lw) (la lb lc:Option Addr) (lca lcb lcc:Nat) (o:Ob) (oa oa':Option Addr) (ocap ocap':Nat) (res:ByteArray) (w:World) (hl:y9 w l la lb lc) (ho:qB w o oa oa') (hlen:o.vs.length<=1048576) :
 Calls Tryz.prog 219 #[.agg (l.cells la lb lc lca lcb lcc),.agg #[.string o.kd,.string o.nm,.string o.tm,.slice oa o.vs.length ocap,.bool o.en,.slice oa' o.hs.length ocap',.int .i64 o.vr],.string res] w fun e w'=>e = .returned (.int .i64 (Gate.qX l.ss o res))/\Below w.heap.size w w':=by
 by_cases hc:Gate.zx l.ss o=true/\res.toList.isEmpty=false
 ·exact zjh l la lb lc lca lcb lcc o oa oa' ocap ocap' res w hl ho hc.1 hc.2 hlen
 ·exact zj2 l la lb lc lca lcb lcc o oa oa' ocap ocap' res w hl ho hc
theorem ziV (l:Lw) (la lb lc:Option Addr) (lca lcb lcc:Nat) (o:Ob) (oa oa':Option Addr) (ocap ocap':Nat) (res:ByteArray) (w:World) (hl:y9 w l la lb lc) (ho:qB w o oa oa') (hlen:o.vs.length<=1048576) :
 Calls Tryz.prog 137 #[.agg (l.cells la lb lc lca lcb lcc),.agg #[.string o.kd,.string o.nm,.string o.tm,.slice oa o.vs.length ocap,.bool o.en,.slice oa' o.hs.length ocap',.int .i64 o.vr],.string res] w fun e w'=>e = .returned (.int .i64 (Gate.qX l.ss o res))/\Below w.heap.size w w':=by
 by_cases hc:Gate.zx l.ss o=true/\res.toList.isEmpty=false
 ·exact zjn l la lb lc lca lcb lcc o oa oa' ocap ocap' res w hl ho hc.1 hc.2 hlen
 ·exact zkf l la lb lc lca lcb lcc o oa oa' ocap ocap' res w hl ho hc
theorem zj3 (a:Option Addr) (cap:Nat) (ts:List Tm) (x y:ByteArray) (w:World) (hw:jk w a ts) :
 Calls Tryz.prog 136 #[.slice a ts.length cap,.string x,.string y] w fun e w'=>e = .returned (.bool (Gate.under ts 4 x y))/\w'=w:=by
 by_cases hxy:x=y
 ·have HF:Hid (Gate.under ts 4 x y=true):=Gate.zdR ts 4 x y hxy
  have hbe:(x.toList == y.toList)=true:=by rw [Gate.beq_toList];simpa using hxy
  clear hxy;go_enter Tryz.func136,Tryz.ntmps136;go_wp2_with fail
  go_ret;exact ⟨ze HF.out.symm,rfl⟩
 have hbe:(x.toList == y.toList)=false:=by rw [Gate.beq_toList];simpa using hxy
 have HXY:Hid (¬ x=y):=hxy;clear hxy;go_enter Tryz.func136,Tryz.ntmps136;go_wp2_with fail
 go_loop [1,7] (fun p i=>∃ (k:Nat) (z:ByteArray),k<=4/\p = .string z/\i = .int .i64 k/\¬ z=y/\Gate.under ts 4 x y=Gate.under ts (4 - k) z y) (fun _ i=>4 - (intOf i).toNat)
 case atStart=>exact ⟨0,x,Nat.zero_le _,rfl,rfl,HXY.out,rfl⟩
 case round =>
  obtain ⟨k,z,hk,rfl,rfl,hz,hu⟩:=hrel;have HZ:Hid (¬ z=y/\Gate.under ts 4 x y=Gate.under ts (4 - k) z y):=⟨hz,hu⟩
  clear hz hu hbe
  by_cases hlt:k < 4
  ·have hltI:(k:Int) < 4:=by omega
   obtain ⟨m,hm⟩:∃ m,4 - k=m+1:=⟨3 - k,by omega⟩
   by_cases h0:(Gate.over ts z).size=0
   ·have HF:Hid (Gate.under ts 4 x y=false):=by rw [HZ.out.2,hm];exact Gate.zjd ts m HZ.out.1 h0
    have h0':(Gate.over ts z).toList.isEmpty=true:=by rw [Gate.zu];simpa using h0
    clear h0 hm
    go_wp2_with (go_at_call 128;refine (zbp _ _ _ _ _ hw).mono ?_;rintro e w' ⟨rfl,rfl⟩)
    go_ret;exact ⟨ze HF.out.symm,rfl⟩
   ·have HO:Hid (Gate.under ts 4 x y=Gate.under ts m (Gate.over ts z) y):=by rw [Hid,HZ.out.2,hm];exact Gate.zmD ts m HZ.out.1 h0
    have h0':(Gate.over ts z).toList.isEmpty=false:=by rw [Gate.zu];simpa using h0
    clear h0
    by_cases hy:Gate.over ts z=y
    ·have HF:Hid (Gate.under ts 4 x y=true):=by rw [Hid,HO.out];exact Gate.zdR ts m _ _ hy
     have hy':((Gate.over ts z).toList == y.toList)=true:=by rw [Gate.beq_toList];simpa using hy
     clear hy
     go_wp2_with (go_at_call 128;refine (zbp _ _ _ _ _ hw).mono ?_;rintro e w' ⟨rfl,rfl⟩)
     go_ret;exact ⟨ze HF.out.symm,rfl⟩
    ·have hy':((Gate.over ts z).toList == y.toList)=false:=by rw [Gate.beq_toList];simpa using hy
     have HY:Hid (¬ Gate.over ts z=y):=hy;clear hy
     go_wp2_with (go_at_call 128;refine (zbp _ _ _ _ _ hw).mono ?_;rintro e w' ⟨rfl,rfl⟩)
     go_round
     case rel=>exact ⟨k+1,Gate.over ts z,by omega,rfl,by go_num,HY.out,by rw [HO.out,show 4 - (k+1)=m by omega]⟩
     case measure=>simp [intOf];omega
  ·have HF:Hid (Gate.under ts 4 x y=false):=by
    have e:4 - k=0:=by omega
    rw [Hid,HZ.out.2,e];exact Gate.zkQ ts HZ.out.1
   go_wp2_with fail
   go_ret;exact ⟨ze HF.out.symm,rfl⟩
theorem zkh (a:Option Addr) (cap:Nat) (ts:List Tm) (x y:ByteArray) (w:World) (hw:jk w a ts) :
 Calls Tryz.prog 218 #[.slice a ts.length cap,.string x,.string y] w fun e w'=>e = .returned (.bool (Gate.under ts 4 x y))/\Below w.heap.size w w':=by
 by_cases hxy:x=y
 ·have HF:Hid (Gate.under ts 4 x y=true):=Gate.zdR ts 4 x y hxy
  have hbe:(x.toList == y.toList)=true:=by rw [Gate.beq_toList];simpa using hxy
  clear hxy;go_enter Tryz.func218,Tryz.ntmps218;go_wp2_with fail
  go_ret;exact ⟨ze HF.out.symm,bRf _ _⟩
 have hbe:(x.toList == y.toList)=false:=by rw [Gate.beq_toList];simpa using hxy
 have HXY:Hid (¬ x=y):=hxy;clear hxy;go_enter Tryz.func218,Tryz.ntmps218;go_wp2_with fail
 go_loopw [1,10] (fun p i wr=>∃ (k:Nat) (z:ByteArray),k<=4/\p = .string z/\i = .int .i64 k/\¬ z=y/\Gate.under ts 4 x y=Gate.under ts (4 - k) z y/\Below w.heap.size w wr) (fun _ i _=>4 - (intOf i).toNat)
 case atStart=>exact ⟨0,x,Nat.zero_le _,rfl,rfl,HXY.out,rfl,bRf _ _⟩
 case round =>
  obtain ⟨k,z,hk,rfl,rfl,hz,hu,hB⟩:=hrel;have HZ:Hid (¬ z=y/\Gate.under ts 4 x y=Gate.under ts (4 - k) z y):=⟨hz,hu⟩
  clear hz hu hbe
  by_cases hlt:k < 4
  ·have hltI:(k:Int) < 4:=by omega
   obtain ⟨m,hm⟩:∃ m,4 - k=m+1:=⟨3 - k,by omega⟩
   by_cases h0:(Gate.over ts z).size=0
   ·have HF:Hid (Gate.under ts 4 x y=false):=by rw [HZ.out.2,hm];exact Gate.zjd ts m HZ.out.1 h0
    have h0':(Gate.over ts z).toList.isEmpty=true:=by rw [Gate.zu];simpa using h0
    clear h0 hm;go_wp2_with fail
    refine (zed _ _ _ _ _ (hw.mono hB)).mono ?_;rintro e w1 ⟨rfl,hb1⟩;have hB1:=hB.trans (hb1.mono hB.size);clear hb1;go_wp2_with fail
    go_ret;exact ⟨ze HF.out.symm,hB1⟩
   ·have HO:Hid (Gate.under ts 4 x y=Gate.under ts m (Gate.over ts z) y):=by rw [Hid,HZ.out.2,hm];exact Gate.zmD ts m HZ.out.1 h0
    have h0':(Gate.over ts z).toList.isEmpty=false:=by rw [Gate.zu];simpa using h0
    clear h0
    by_cases hy:Gate.over ts z=y
    ·have HF:Hid (Gate.under ts 4 x y=true):=by rw [Hid,HO.out];exact Gate.zdR ts m _ _ hy
     have hy':((Gate.over ts z).toList == y.toList)=true:=by rw [Gate.beq_toList];simpa using hy
     clear hy;go_wp2_with fail
     refine (zed _ _ _ _ _ (hw.mono hB)).mono ?_;rintro e w1 ⟨rfl,hb1⟩;have hB1:=hB.trans (hb1.mono hB.size);clear hb1;go_wp2_with fail
     go_ret;exact ⟨ze HF.out.symm,hB1⟩
    ·have hy':((Gate.over ts z).toList == y.toList)=false:=by rw [Gate.beq_toList];simpa using hy
     have HY:Hid (¬ Gate.over ts z=y):=hy;clear hy;go_wp2_with fail
     refine (zed _ _ _ _ _ (hw.mono hB)).mono ?_;rintro e w1 ⟨rfl,hb1⟩;have hB1:=hB.trans (hb1.mono hB.size);clear hb1;go_wp2_with fail
     exact ⟨⟨k+1,Gate.over ts z,by omega,rfl,by go_num,HY.out,by rw [HO.out,show 4 - (k+1)=m by omega],hB1⟩,by simp [intOf];omega⟩
  ·have HF:Hid (Gate.under ts 4 x y=false):=by
    have e:4 - k=0:=by omega
    rw [Hid,HZ.out.2,e];exact Gate.zkQ ts HZ.out.1
   go_wp2_with fail
   go_ret;exact ⟨ze HF.out.symm,hB⟩
namespace Gate
def zqf:Ob:=⟨ByteArray.empty,ByteArray.empty,ByteArray.empty,[],false,[],0⟩
def zbq (l:Lw) (team res:ByteArray) (o:Ob):Int:=if under l.ts 4 o.tm team=true then qX l.ss o res else 0
def zah (l:Lw) (os:List Ob) (team res:ByteArray):Nat->Int
 | 0=>0
 | k+1=>zah l os team res k+zbq l team res (os.getD k zqf)
def used (l:Lw) (os:List Ob) (team res:ByteArray):Int:=zah l os team res os.length
theorem zoz (ss:List Shp) (o:Ob) (res:ByteArray):0<=qX ss o res/\qX ss o res<=1+o.sz * 10000000:=by
 have h0:o.vs.length<=o.sz:=by unfold Ob.sz zdF qW;omega
 unfold qX
 split
 ·rename_i hc
  have hc1:=hc.1;unfold zx at hc1;simp only [Bool.and_eq_true,decide_eq_true_eq] at hc1
  have:=zcC (shapeOf ss o.kd).fs o.vs res (shapeOf ss o.kd).fs.length
  have h3:=hc1.2
  split <;> omega
 ·omega
theorem zkC (l:Lw) (team res:ByteArray) (o:Ob):0<=zbq l team res o/\zbq l team res o<=1+o.sz * 10000000:=by
 unfold zbq
 split
 ·exact zoz _ _ _
 ·omega
theorem zfs (l:Lw) (os:List Ob) (team res:ByteArray) (k:Nat) (h:k < os.length):zah l os team res (k+1)=zah l os team res k+zbq l team res os[k]:=by
 have e1:os.getD k zqf=os[k]:=by simp [List.getD,h]
 simp only [zah];rw [e1]
theorem zb3 (l:Lw) (os:List Ob) (team res:ByteArray):∀ k,k<=os.length->0<=zah l os team res k/\zah l os team res k<=k+zaZ (os.take k) * 10000000
 | 0,_=>by simp [zah,zaZ]
 | k+1,h=>by
  have h1:=zb3 l os team res k (by omega);have h2:=zkC l team res os[k];have h3:zaZ (os.take (k+1))=zaZ (os.take k)+os[k].sz:=za5 Ob.sz os k h;rw [zfs l os team res k h,h3];omega
end Gate
theorem zkZ (l:Lw) (la lb lc:Option Addr) (lca lcb lcc:Nat) (b:Bk) (a0 a1 a2 a3:Option Addr) (c0 c1 c2 c3:Nat) (team res:ByteArray) (w:World) (hl:y9 w l la lb lc) (hb:y7 w b a0 a1 a2 a3) (hz:qF b.os<=1048576) :
 Calls Tryz.prog 201 #[.agg (l.cells la lb lc lca lcb lcc),.agg (b.cells a0 a1 a2 a3 c0 c1 c2 c3),.string team,.string res] w fun e w'=>e = .returned (.int .i64 (Gate.used l b.os team res))/\Below w.heap.size w w':=by
 have HL:Hid (y9 w l la lb lc):=hl;have HK:Hid (y7 w b a0 a1 a2 a3):=hb;have HZ:Hid (qF b.os<=1048576/\b.os.length<=1048576):=⟨hz,by unfold qF at hz;omega⟩
 clear hl hb hz;unfold Lw.cells Bk.cells;go_enter Tryz.func201,Tryz.ntmps201;go_wp2_with fail
 obtain ⟨hX0,hY0⟩:=qw w #[.slice la l.ss.length lca,.slice lb l.ms.length lcb,.slice lc l.ts.length lcc] #[.int .i64 b.now,.int .i64 b.tick,.int .i64 b.given,.slice a0 b.os.length c0,.slice a1 b.gs.length c1,.slice a2 b.ls.length c2,.slice a3 b.ps.length c3] 41 48;have HB0:Hid (Below w.heap.size w ((w.alloc (.cells #[.slice la l.ss.length lca,.slice lb l.ms.length lcb,.slice lc l.ts.length lcc] 41)).alloc (.cells #[.int .i64 b.now,.int .i64 b.tick,.int .i64 b.given,.slice a0 b.os.length c0,.slice a1 b.gs.length c1,.slice a2 b.ls.length c2,.slice a3 b.ps.length c3] 48))):=zA w _ _;obtain ⟨W0,hW0⟩:∃ W0,W0=(w.alloc (.cells #[.slice la l.ss.length lca,.slice lb l.ms.length lcb,.slice lc l.ts.length lcc] 41)).alloc (.cells #[.int .i64 b.now,.int .i64 b.tick,.int .i64 b.given,.slice a0 b.os.length c0,.slice a1 b.gs.length c1,.slice a2 b.ls.length c2,.slice a3 b.ps.length c3] 48):=⟨_,rfl⟩
 have hz0:w.heap.size+1 < W0.heap.size:=by rw [hW0];simp
 rw [<- hW0] at HB0 hX0 hY0 ⊢;clear hW0
 go_loopw [9,15] (fun nv iv wr=>∃ (k:Nat) (s:Int),k<=b.os.length/\iv = .int .i64 k/\nv = .int .i64 s/\Hid (s=Gate.zah l b.os team res k/\Below W0.heap.size W0 wr)) (fun _ iv _=>b.os.length - (intOf iv).toNat)
 case atStart=>exact ⟨0,0,Nat.zero_le _,rfl,rfl,by simp [Gate.zah],bRf _ _⟩
 case round =>
  obtain ⟨k,s,hk,rfl,rfl,HQ⟩:=hrel
  have hsb:0<=s/\s<=20000000000000:=by
   have h1:=HQ.out.1;have h2:=Gate.zb3 l b.os team res k hk;have h3:=HZ.out;have h4:zaZ (b.os.take k)<=zaZ b.os:=zcQ Ob.sz b.os k;unfold qF at h3;omega
  have hkn:k<=1048576:=by have:=HZ.out.2;omega
  by_cases hlt:k < b.os.length
  ·obtain ⟨ob,off,v0,v1,q0,q1,rfl,hob,hsm,hl0,hl1,d0,d1,d2,d3,d4,d5,d6⟩:=HK.out.os.load (HB0.out.trans (HQ.out.2.mono HB0.out.size)) k hlt
   have hob':ob < wr.heap.size:=nLt hob (HB0.out.trans (HQ.out.2.mono HB0.out.size)).size;have hltI:(k:Int) < (b.os.length:Int):=by omega
   have hX:=za hX0 (nSl hz0) HQ.out.2;have hz:w.heap.size+1 < wr.heap.size:=nLt hz0 HQ.out.2.size;have hzX:w.heap.size < wr.heap.size:=nSl hz;have HSt:Hid (Gate.zah l b.os team res (k+1)=Gate.zah l b.os team res k+Gate.zbq l team res b.os[k]):=Gate.zfs l b.os team res k hlt;have HOo:Hid (qB wr b.os[k] v0 v1):=⟨hsm,hl0,hl1⟩
   have HOl:Hid (b.os[k].vs.length<=1048576):=by
    have h3:=HZ.out.1
    have:=(zlt (left:=1048576) (ms:=b.os) (by omega) (by omega)).2 k hlt
    exact this.1
   have hub:=Gate.zkC l team res b.os[k];have hwb:=Gate.zgo l.ss b.os[k] res HOl.out;clear hsm hl0 hl1 hub;go_wp2_with fail
   have hb1:Below wr.heap.size wr (wr.alloc (.cells #[.string b.os[k].kd,.string b.os[k].nm,.string b.os[k].tm,.slice v0 b.os[k].vs.length q0,.bool b.os[k].en,.slice v1 b.os[k].hs.length q1,.int .i64 b.os[k].vr] 119)):=bAl _ _;have hN:=zm wr #[.string b.os[k].kd,.string b.os[k].nm,.string b.os[k].tm,.slice v0 b.os[k].vs.length q0,.bool b.os[k].en,.slice v1 b.os[k].hs.length q1,.int .i64 b.os[k].vr] 119;obtain ⟨w1,hw1⟩:∃ w1,w1=wr.alloc (.cells #[.string b.os[k].kd,.string b.os[k].nm,.string b.os[k].tm,.slice v0 b.os[k].vs.length q0,.bool b.os[k].en,.slice v1 b.os[k].hs.length q1,.int .i64 b.os[k].vr] 119):=⟨_,rfl⟩
   have hn1:wr.heap.size < w1.heap.size:=by rw [hw1];simp
   rw [<- hw1] at hb1 hN ⊢;clear hw1 d0 d1 d2 d3 d4 d5 d6;have HB1:Hid (Below W0.heap.size W0 w1):=HQ.out.2.trans (hb1.mono HQ.out.2.size);have hX1:=za hX (nSl hz) hb1;have HO1:Hid (qB w1 b.os[k] v0 v1):=HOo.out.mono hb1;have hz1:w.heap.size+1 < w1.heap.size:=Nat.lt_trans hz hn1;clear hb1 hX;refine (zkh _ _ l.ts b.os[k].tm team _ (HL.out.ts.mono (HB0.out.trans (HB1.out.mono HB0.out.size)))).mono ?_;rintro e w2 ⟨rfl,hb2⟩;have HB2:Hid (Below W0.heap.size W0 w2):=HB1.out.trans (hb2.mono HB1.out.size);have hX2:=za hX1 (nSl hz1) hb2;have hN2:=za hN hn1 hb2;have HO2:Hid (qB w2 b.os[k] v0 v1):=HO1.out.mono hb2;have hz2:w.heap.size+1 < w2.heap.size:=nLt hz1 hb2.size;have hn2:wr.heap.size < w2.heap.size:=nLt hn1 hb2.size;clear hb2 hX1 hN
   by_cases hu:Gate.under l.ts 4 b.os[k].tm team=true
   ·have HU:Hid (Gate.zbq l team res b.os[k]=Gate.qX l.ss b.os[k] res):=by unfold Hid Gate.zbq;rw [if_pos hu]
    rw [hu];clear hu;go_wp2_with fail
    refine (ziH l _ _ _ _ _ _ b.os[k] _ _ _ _ res _ (HL.out.mono (HB0.out.trans (HB2.out.mono HB0.out.size))) HO2.out HOl.out).mono ?_;rintro e w3 ⟨rfl,hb3⟩;have HB3:Hid (Below W0.heap.size W0 w3):=HB2.out.trans (hb3.mono HB2.out.size);clear hb3;go_wp2_with fail
    exact ⟨⟨k+1,s+Gate.qX l.ss b.os[k] res,by omega,by go_num,by go_num,by rw [HSt.out,HU.out,HQ.out.1],HB3.out⟩,zn hlt⟩
   ·have hu':Gate.under l.ts 4 b.os[k].tm team=false:=by simpa using hu
    have HU:Hid (Gate.zbq l team res b.os[k]=0):=by unfold Hid Gate.zbq;rw [if_neg hu]
    rw [hu'];clear hu hu';go_wp2_with fail
    exact ⟨⟨k+1,s,by omega,by go_num,rfl,by rw [HSt.out,HU.out,HQ.out.1];omega,HB2.out⟩,zn hlt⟩
  ·have e:k=b.os.length:=by omega
   subst e;have HE:Hid (Gate.used l b.os team res=s):=by unfold Hid Gate.used;rw [HQ.out.1]
   clear hlt hk;go_wp2_with fail
   go_ret;exact ⟨zq HE.out.symm,HB0.out.trans (HQ.out.2.mono HB0.out.size)⟩
end Go.Proofs.YtghnakljnhnenaaGreat
