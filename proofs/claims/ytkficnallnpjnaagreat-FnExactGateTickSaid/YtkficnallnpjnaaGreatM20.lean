import Derived.Test.YtkficnallnpjnaaGreatM15
import Derived.Laws.IdiomStrings
import Derived.Test.YtkficnallnpjnaaGreatM17
set_option maxHeartbeats 2000000
namespace Go.Proofs.YtkficnallnpjnaaGreat
open Go.RowKit
structure Marked (lo hi:Nat)(w w':World):Prop where
 os:w'.os=w.os
 tape:w'.tape=w.tape
 output:w'.output=w.output
 size:w.heap.size<=w'.heap.size
 out:∀k,k<w.heap.size->(k<lo \/ hi<=k)->w'.heap[k]?=w.heap[k]?
 inn:∀(k:Nat) (C:Array Value) (t:TypeId),lo<=k->k<hi->w.heap[k]?=some (.cells C t)->∃C':Array Value,w'.heap[k]?=some (.cells C' t)/\C'.size=C.size/\∀(j:Nat) a n c,C'[j]?=some (Value.slice a n c)↔C[j]?=some (Value.slice a n c)
theorem Marked.refl (lo hi:Nat)(w:World):Marked lo hi w w:=⟨rfl,rfl,rfl,Nat.le_refl _,fun _ _ _=>rfl,fun _ C _ _ _ h=>⟨C,h,rfl,fun _ _ _ _=>Iff.rfl⟩⟩
theorem Marked.trans {lo hi:Nat}{a b c:World}(h:Marked lo hi a b)(k:Marked lo hi b c):Marked lo hi a c:=
 ⟨k.os.trans h.os,k.tape.trans h.tape,k.output.trans h.output,Nat.le_trans h.size k.size,
  fun i hi ho=>(k.out i (nLt hi h.size) ho).trans (h.out i hi ho),
  fun i C t h1 h2 hC=>by
   obtain⟨C1,hC1,hs1,hk1⟩:=h.inn i C t h1 h2 hC;obtain⟨C2,hC2,hs2,hk2⟩:=k.inn i C1 t h1 h2 hC1;exact⟨C2,hC2,hs2.trans hs1,fun j a n c=>(hk2 j a n c).trans (hk1 j a n c)⟩⟩
theorem Marked.of_below {lo hi:Nat}{w w':World}(h:Below w.heap.size w w'):Marked lo hi w w':=
 ⟨h.os,h.tape,h.output,h.size,fun k hk _=>h.block k hk,fun k C _ _ _ hC=>⟨C,(h.block k (gES hC).1).trans hC,rfl,fun _ _ _ _=>Iff.rfl⟩⟩
theorem Marked.wide {lo hi lo' hi':Nat}{w w':World}(h:Marked lo hi w w')(h1:lo'<=lo)(h2:hi<=hi'):Marked lo' hi' w w':=
 ⟨h.os,h.tape,h.output,h.size,fun k hk ho=>h.out k hk (by omega),fun k C t g1 g2 hC=>by
  by_cases hin:lo<=k/\k<hi
  ·exact h.inn k C t hin.1 hin.2 hC
  ·exact⟨C,(h.out k (gES hC).1 (by omega)).trans hC,rfl,fun _ _ _ _=>Iff.rfl⟩⟩
theorem Marked.put {lo hi b j:Nat}{w w1:World}{C:Array Value}{t:TypeId}(h:Marked lo hi w w1)(hlo:lo<=b)(hhi:b<hi)(hC:w.heap[b]?=some (.cells C t))(hj:∀a n c,C[j]?≠some (Value.slice a n c))(v:Value)(hv:∀a n c,v≠Value.slice a n c):Marked lo hi w (w1.setCell ⟨b,j,none⟩ v):=by
 refine⟨h.os,h.tape,h.output,by have:=h.size;simpa[World.setCell] using this,fun k hk ho=>?_,fun k C0 t0 g1 g2 hC0=>?_⟩
 ·rw[Below.heap_setCell _ _ _ _ (by show k≠b;omega)];exact h.out k hk ho
 ·obtain⟨C1,hC1,hs1,hk1⟩:=h.inn k C0 t0 g1 g2 hC0
  by_cases hkb:k=b
  ·subst hkb
   rw[hC]at hC0;simp only[Option.some.injEq,Obj.cells.injEq]at hC0;obtain⟨rfl,rfl,_⟩:=hC0;refine⟨C1.setIfInBounds j v,zi hC1 _,by simpa using hs1,fun i a n c=>?_⟩
   by_cases hij:j=i
   ·subst hij
    refine⟨fun h=>?_,fun h=>absurd h (hj a n c)⟩
    exfalso
    rw[Array.getElem?_setIfInBounds]at h;simp only[if_true]at h
    split at h
    ·exact hv a n c (Option.some.inj h)
    ·cases h
   ·rw[Array.getElem?_setIfInBounds_ne hij];exact hk1 i a n c
  ·exact⟨C1,(Below.heap_setCell _ _ _ _ (by show k≠b;exact hkb)).trans hC1,hs1,hk1⟩
theorem Marked.cell {lo hi:Nat}{w w':World}(h:Marked lo hi w w'){p:Addr}(hp:p.block<w.heap.size)(ho:p.block<lo \/ hi<=p.block):w'.cell? p=w.cell? p:=by
 unfold World.cell?;rw[h.out p.block hp ho]
theorem Marked.box {lo hi b:Nat}{w w':World}{X:Array Value}(h:Marked lo hi w w')(hX:∀o,w.cell? ⟨b,o,none⟩=X[o]?)(hb:b<w.heap.size)(ho:b<lo \/ hi<=b):∀o,w'.cell? ⟨b,o,none⟩=X[o]?:=
 fun o=>(h.cell (p:=⟨b,o,none⟩) hb ho).trans (hX o)
theorem Marked.below {lo hi B:Nat}{w w':World}(h:Marked lo hi w w')(h1:B<=lo)(h2:B<=w.heap.size):Below B w w':=
 ⟨h.os,h.tape,h.output,h.size,fun k hk=>h.out k (by omega) (Or.inl (by omega))⟩
def zcX (n:Nat):ByteArray:=⟨#[UInt8.ofNat (48+n)]⟩
def digits (n:Nat)(acc:ByteArray):ByteArray:=if n=0 then acc else digits (n / 10) (zcX (n % 10)++acc)
termination_by n
decreasing_by omega
theorem zeT (acc:ByteArray):digits 0 acc=acc:=by rw[digits];rfl
theorem zjI {n:Nat}(h:0<n)(acc:ByteArray):digits n acc=digits (n / 10) (zcX (n % 10)++acc):=by
 conv=>lhs;rw[digits]
 rw[if_neg (by omega)]
def zaz (k:Nat):ByteArray:=⟨#[109]⟩++digits k ByteArray.empty
theorem zmy (n:Nat)(h:n<9000000000000000000):wrap64 ((n:Int) / 10)=((n / 10:Nat):Int):=by
 rw[zy _ ⟨by omega,by omega⟩];omega
theorem zo8 {k:Nat}(h:k<9000000000000000000):k<10 ^ 19:=Nat.lt_trans h (by decide)
theorem zn2 (n:Nat)(hn:0<n)(h:n<9000000000000000000):(intOf (.int .i64 (wrap64 ((n:Int) / 10)))).toNat<(intOf (.int .i64 (n:Int))).toNat:=by
 rw[zmy n h]
 show(((n / 10:Nat):Int)).toNat<((n:Nat):Int).toNat
 rw[Int.toNat_natCast,Int.toNat_natCast];omega
theorem zpm (n:Nat):((UInt8.ofNat (48+n % 10)).toNat:Int)=48+(n:Int) % 10:=by
 rw[UInt8.toNat_ofNat',Nat.mod_eq_of_lt (by omega)];omega
theorem zoK (w:World)(n:Nat):(convert 183 9 (.slice (some ⟨w.heap.size,0,none⟩) 1 1)).run Tryz.prog (w.alloc (.cells #[.int .u8 (48+(n:Int) % 10)] 5))=.ok (.string (zcX (n % 10))) (w.alloc (.cells #[.int .u8 (48+(n:Int) % 10)] 5)):=by
 refine run_convert_bytes_back _ _ _ 5 ⟨w.heap.size,0,none⟩ 1 [UInt8.ofNat (48+n % 10)] Tryz.underlying183 Tryz.underlying5 Tryz.underlying9 (fun j hj=>?_);have e:j=0:=by simp at hj;omega
 subst e;rw[List.getElem_cons_zero,zpm];have e2:(⟨w.heap.size,0,none⟩:Addr).add 0=⟨w.heap.size,0,none⟩:=rfl;rw[e2,World.cell?_alloc_at (hn:=rfl)]
 rfl
set_option maxRecDepth 20000 in
theorem zcv (k:Nat)(w:World)(hk:0<k)(hk2:k<9000000000000000000) :
 Calls Tryz.prog 91 #[.int .i64 k] w fun e w'=>e=.returned (.string (zaz k))/\Below w.heap.size w w':=by
 have hk0:decide ((k:Int)<=0)=false:=by simp;omega
 go_enter Tryz.func91,Tryz.ntmps91;go_wp2_with fail
 go_loopw [0,3] (fun kv ov wr=>∃(n:Nat) (acc:ByteArray) (d:Nat),kv=.int .i64 n/\ov=.string acc/\n<=k/\n<10 ^ d/\acc.size+d<=19/\digits n acc=digits k ByteArray.empty/\Below w.heap.size w wr) (fun kv _ _=>(intOf kv).toNat)
 case atStart=>exact⟨k,ByteArray.empty,19,rfl,rfl,Nat.le_refl _,zo8 hk2,by simp,rfl,bRf _ _⟩
 case round=>
  obtain⟨n,acc,d,rfl,rfl,hnk,hnd,had,hdig,hB⟩:=hrel;have HF:Hid (n<=k/\n<10 ^ d/\acc.size+d<=19/\digits n acc=digits k ByteArray.empty/\Below w.heap.size w wr):=⟨hnk,hnd,had,hdig,hB⟩
  have HK:Hid (k<9000000000000000000):=hk2;have hacc:acc.size<=19:=by omega
  clear hnk hnd had hdig hB hk2
  by_cases hn:0<n
  ·have hn0:decide ((n:Int) > 0)=true:=by simp;omega
   have hcv:=zoK wr n;have hds:(zcX (n % 10)).size=1:=rfl;go_wp2_with fail
   go_roundw
   case rel=>
    obtain⟨hnk,hnd,had,hdig,hB⟩:=HF.out;have hk2:=HK.out;have hd0:d≠0:=by rintro rfl;simp at hnd;omega
    obtain⟨e,rfl⟩:∃e,d=e+1:=⟨d-1,by omega⟩
    exact⟨n / 10,zcX (n % 10)++acc,e,by rw[zmy n (by omega)],rfl,by omega,by rw[Nat.pow_succ]at hnd;omega,by rw[ByteArray.size_append,hds];omega,by rw[<- zjI hn];exact hdig,hB.alloc hB.size _⟩
   case measure=>
    have hnk:=HF.out.1;have hk2:=HK.out;exact zn2 n hn (by omega)
  ·have hn0:decide ((n:Int) > 0)=false:=by simp;omega
   go_wp2_with fail
   go_ret;have e0:n=0:=by omega
   obtain⟨_,_,_,hdig,hB⟩:=HF.out;subst e0;rw[zeT]at hdig;exact⟨by unfold zaz;rw[<- hdig];rfl,hB⟩
def isSet (s:ByteArray):Bool:=!s.toList.isEmpty
def zP (m:Mnd):List ByteArray:=[m.wh,m.fr].filter isSet
def turns (m:Mnd)(s:Shp)(p:Nat):Bool:=decide (m.kd=s.kd)&&decide (m.fd=(s.fs.getD p zbs).nm)
set_option maxRecDepth 20000 in
theorem zfE (m:Mnd)(w:World) :
 Calls Tryz.prog 191 #[.agg m.cells] w fun e w'=>∃v,e=.returned v/\w'.ownsRow w.heap.size 9 1 v (zP m).length ((zP m).map Value.string)/\Below w.heap.size w w':=by
 unfold Mnd.cells;obtain⟨i0,hi,hz0,hz1',hz2⟩:=info_parts Tryz.zcH;go_enter Tryz.func191,Tryz.ntmps191;go_wp2_with fail
 go_loopw [3,12] (fun nv0 iv wr=>∃(k:Nat) (nv:Value),nv=nv0/\k<=2/\iv=.int .i64 k/\wr.ownsRow (w.heap.size+2) 9 1 nv (([m.wh,m.fr].take k).filter isSet).length ((([m.wh,m.fr].take k).filter isSet).map Value.string)/\wr.heap[w.heap.size+1]?=some (.cells #[.string m.wh,.string m.fr] 9)/\Below w.heap.size w wr) (fun _ iv _=>2-(intOf iv).toNat)
 case atStart=>exact⟨0,_,rfl,by omega,rfl,World.ownsRow_nil _ _ _ _,(zT _ _ _).2,zw _ _ _⟩
 case round=>
  obtain⟨k,nv,hnv,hk,rfl,hown,hlit,hB⟩:=hrel;subst hnv
  by_cases hlt:k<2
  ·have hltI:(k:Int)<2:=by omega
   obtain⟨x,hx,HT⟩:∃x,(#[.string m.wh,.string m.fr]:Array Value)[k]?=some (.string x)/\Hid (([m.wh,m.fr].take (k+1)).filter isSet=([m.wh,m.fr].take k).filter isSet++if isSet x=true then [x] else []):=by
    rcases k with _|_|k
    ·refine⟨m.wh,rfl,?_⟩
     by_cases h:isSet m.wh=true <;> simp[Hid,h]
    ·refine⟨m.fr,rfl,?_⟩
     by_cases h:isSet m.fr=true <;> by_cases h':isSet m.wh=true <;> simp[Hid,h,h']
    ·omega
   have hcx:wr.cell? ⟨w.heap.size+1,k,none⟩=some (.string x):=by rw[cell_of_block hlit];exact hx
   have hlen:(([m.wh,m.fr].take k).filter isSet).length<=2:=Nat.le_trans (List.length_filter_le _ _) (by simp;omega);have HB:=zdp hlit hB ((gES hlit).1);have HW:=hid hown;clear hlit hB hx hown
   by_cases hs:x.toList.isEmpty=true
   ·have HE:Hid (isSet x=false):=by unfold Hid isSet;rw[hs];rfl
    go_wp2_with fail
    have HT':([m.wh,m.fr].take (k+1)).filter isSet=([m.wh,m.fr].take k).filter isSet:=by rw[HT.out,HE.out];simp
    exact⟨⟨k+1,_,rfl,by omega,by go_num,by rw[HT'];exact HW.out,HB.out.1,HB.out.2.1⟩,zq hlt⟩
   ·have hs':x.toList.isEmpty=false:=by simpa using hs
    have HE:Hid (isSet x=true):=by unfold Hid isSet;rw[hs'];rfl
    clear hs
    go_wp2_with (at_builtin;refine wpList_append_own _ rfl (.tmp 18) (.tmp 20) 100 rfl (w.heap.size+2) 9 i0 (.string ByteArray.empty) 1 16 Tryz.underlying100 hi hz0 hz1' hz2 rfl (by decide) _ _ _ rfl (HW.out.alloc _) ⟨wr.heap.size,0,none⟩ 1 1 [.string x] rfl rfl (ze0 _ _ _) (by intro u hu;simp at hu;subst hu;rfl) (by unfold maxLen;omega) (by omega) (by have:=HB.out.2.2;simp;omega) ?_;intro v' w1 hown' hgr _)
    have HT':([m.wh,m.fr].take (k+1)).filter isSet=([m.wh,m.fr].take k).filter isSet++[x]:=by rw[HT.out,HE.out];simp
    have hgb:∀g,nv.ownBlock=some g->w.heap.size+2<=g:=fun g hg=>(HW.out.lt g hg).1
    refine⟨⟨k+1,_,rfl,by omega,by go_num,?_,?_,zc8 HB.out.2.1 HB.out.2.1.size hgr (fun g hg=>by have:=hgb g hg;omega)⟩,zq hlt⟩
    ·rw[HT',List.length_append,List.map_append];exact hown'
    ·rw[zaL hgr (by have:=HB.out.2.2;simp;omega) (fun g hg=>by have:=hgb g hg;omega),Below.heap_alloc _ _ _ HB.out.2.2];exact HB.out.1
  ·have e:k=2:=by omega
   subst e;have HF:Hid (wr.ownsRow w.heap.size 9 1 nv (zP m).length ((zP m).map Value.string)/\Below w.heap.size w wr):=⟨zc1 hown (by omega),hB⟩
   clear hown hlit hB;go_wp2_with fail
   go_ret;exact⟨nv,rfl,HF.out⟩
theorem zld (m:Mnd)(s:Shp)(fa:Option Addr)(fcap p:Nat)(w:World)(hf:yc w fa s.fs)(hp:p<s.fs.length) :
 Calls Tryz.prog 196 #[.agg m.cells,.agg #[.string s.kd,.slice fa s.fs.length fcap],.int .i64 p] w fun e w'=>e=.returned (.bool (turns m s p))/\Below w.heap.size w w':=by
 unfold Mnd.cells;have hB:∀o1 o2,Below w.heap.size w ((w.alloc o1).alloc o2):=fun o1 o2=>zw w o1 o2
 have hl:=hf.len;unfold maxLen at hl;obtain⟨b,off,rfl,hb,hr⟩:=hf.rows (by intro e;rw[e]at hp;simp at hp);obtain⟨wa,wcap,hf0⟩:=hr p hp;obtain⟨c0,c1,c2,c3,c4,c5,c6,c7,c8,c9,c10⟩:=hf0.load;have hpI:(p:Int)<(s.fs.length:Int):=by omega
 have HD:Hid ((s.fs.getD p zbs).nm=s.fs[p].nm):=by unfold Hid;rw[getD_at _ _ _ hp]
 clear hf hr hf0 c1 c2 c3 c4 c5 c6 c7 c8 c9 c10
 by_cases h1:m.kd=s.kd
 ·by_cases h2:m.fd=s.fs[p].nm
  ·have HR:Hid (turns m s p=true):=by unfold Hid turns;rw[HD.out];simp[h1,h2]
   have hq:(m.kd.toList == s.kd.toList)=true:=by rw[beq_toList];simpa using h1
   have hr:(m.fd.toList == s.fs[p].nm.toList)=true:=by rw[beq_toList];simpa using h2
   clear h1 h2;go_enter Tryz.func196,Tryz.ntmps196;go_wp2_with fail
   go_quiet (fail)
   go_wp2_with fail
   go_ret;exact⟨by rw[HR.out];rfl,below_drewN (hB _ _) _⟩
  ·have HR:Hid (turns m s p=false):=by unfold Hid turns;rw[HD.out];simp[h1,h2]
   have hq:(m.kd.toList == s.kd.toList)=true:=by rw[beq_toList];simpa using h1
   have hr:(m.fd.toList == s.fs[p].nm.toList)=false:=by rw[beq_toList];simpa using h2
   clear h1 h2;go_enter Tryz.func196,Tryz.ntmps196;go_wp2_with fail
   go_quiet (fail)
   go_wp2_with fail
   go_ret;exact⟨by rw[HR.out];rfl,below_drewN (hB _ _) _⟩
 ·have HR:Hid (turns m s p=false):=by unfold Hid turns;rw[HD.out];simp[h1]
  have hq:(m.kd.toList == s.kd.toList)=false:=by rw[beq_toList];simpa using h1
  clear h1;go_enter Tryz.func196,Tryz.ntmps196;go_wp2_with fail
  go_quiet (fail)
  go_wp2_with fail
  go_ret;exact⟨by rw[HR.out];rfl,below_drewN (hB _ _) _⟩
structure Bk where
 now:Int
 tick:Int
 given:Int
 os:List Ob
 gs:List Gr
 ls:List Lg
 ps:List Pu
abbrev bC (b:Bk)(a0 a1 a2 a3:Option Addr)(c0 c1 c2 c3:Nat):Array Value:=#[.int .i64 b.now,.int .i64 b.tick,.int .i64 b.given,.slice a0 b.os.length c0,.slice a1 b.gs.length c1,.slice a2 b.ls.length c2,.slice a3 b.ps.length c3]
abbrev bZ:Array Value:=#[.int .i64 0,.int .i64 0,.int .i64 0,.slice none 0 0,.slice none 0 0,.slice none 0 0,.slice none 0 0]
def Bk.cells (b:Bk)(a0 a1 a2 a3:Option Addr)(c0 c1 c2 c3:Nat):Array Value:=#[.int .i64 b.now,.int .i64 b.tick,.int .i64 b.given,.slice a0 b.os.length c0,.slice a1 b.gs.length c1,.slice a2 b.ls.length c2,.slice a3 b.ps.length c3]
structure q8 (w:World)(b:Bk)(a0 a1 a2 a3:Option Addr):Prop where
 os:zbA w a0 b.os
 gs:zcf w a1 b.gs
 ls:zbG w a2 b.ls
 ps:zcb w a3 b.ps
theorem q8.mono {w w':World}{b:Bk}{a0 a1 a2 a3:Option Addr}(h:q8 w b a0 a1 a2 a3)(hb:Below w.heap.size w w'):q8 w' b a0 a1 a2 a3:=⟨h.os.mono hb,h.gs.mono hb,h.ls.mono hb,h.ps.mono hb⟩
def Bk.sz (b:Bk):Nat:=qL b.os+zcg b.gs+zcV b.ls+zc4 b.ps
structure Bk.Few (b:Bk):Prop where
 os:b.os.length<=1048576/\∀i (h:i<b.os.length),b.os[i].vs.length<=1048576/\b.os[i].hs.length<=1048576
 gs:b.gs.length<=1048576/\∀i (h:i<b.gs.length),b.gs[i].r.vs.length<=1048576
 ls:b.ls.length<=1048576
 ps:b.ps.length<=1048576
theorem Bk.few {b:Bk}(h:(b.sz:Int)<=1048576):b.Few:=by
 unfold Bk.sz at h;refine⟨zlY (left:=1048576) (by omega) (by omega),zq4 (left:=1048576) (by omega) (by omega),?_,?_⟩
 ·unfold zcV at h;omega
 ·unfold zc4 at h;omega
structure Bk.Small (b:Bk):Prop where
 os:zeX b.os
 lo:b.os.length<=maxLen
 gs:zgB b.gs
 lg:b.gs.length<=maxLen
 ls:∀i (h:i<b.ls.length),b.ls[i].Small
 ll:b.ls.length<=maxLen
 ps:∀i (h:i<b.ps.length),b.ps[i].Small
 lp:b.ps.length<=maxLen
theorem q8.small {w:World}{b:Bk}{a0 a1 a2 a3:Option Addr}(h:q8 w b a0 a1 a2 a3):b.Small:=⟨h.os.smalls,h.os.len,h.gs.smalls,h.gs.len,h.ls.small,h.ls.len,h.ps.small,h.ps.len⟩
structure znc (lo:Nat)(w:World)(b:Bk)(g0 g1 g2 g3:Nat):Prop where
 os:zah lo w g0 b.os b.os.length
 gs:zaa lo w g1 b.gs b.gs.length
 ls:j3 lo w g2 b.ls b.ls.length
 ps:j4 lo w g3 b.ps b.ps.length
theorem znc.at {lo:Nat}{w:World}{b:Bk}{g0 g1 g2 g3:Nat}(h:znc lo w b g0 g1 g2 g3)(hs:b.Small):q8 w b (some ⟨g0,0,none⟩) (some ⟨g1,0,none⟩) (some ⟨g2,0,none⟩) (some ⟨g3,0,none⟩):=⟨h.os.at hs.os hs.lo,h.gs.at hs.gs hs.lg,h.ls.at hs.ls hs.ll,h.ps.at hs.ps hs.lp⟩
theorem zjO (b:Bk)(a0 a1 a2 a3:Option Addr)(c0 c1 c2 c3:Nat)(left:Int)(w:World)(hl:q8 w b a0 a1 a2 a3)(h0:0<=left)(h1:left<=1048576) :
 Calls Tryz.prog 5 #[.agg (b.cells a0 a1 a2 a3 c0 c1 c2 c3),.int .i64 left] w fun e w'=>e=.returned (.int .i64 (zL b.sz left))/\Below w.heap.size w w':=by
 have HL:Hid (q8 w b a0 a1 a2 a3):=hl;clear hl;unfold Bk.cells;go_enter Tryz.func5,Tryz.ntmps5;go_wp2_with fail
 refine(zf5 _ _ b.os _ _ (HL.out.os.mono (bAl _ _)) h0 h1).mono ?_;rintro e w1⟨rfl,hb⟩;have hX1:=za (zl w (bC b a0 a1 a2 a3 c0 c1 c2 c3) 32) (by simp) hb;have hz1:w.heap.size<w1.heap.size:=by have:=hb.size;simp at this;omega
 have hB1:Below w.heap.size w w1:=(bAl _ _).trans (hb.mono (by simp));clear hb
 by_cases q1:(qL b.os:Int)<=left
 rotate_left
 ·have HF:Hid (zL b.sz left=-1):=zC (by unfold Bk.sz;omega)
  rw[zC q1];go_wp2_with fail
  go_ret;exact⟨zo HF.out.symm,hB1⟩
 rw[zM q1];go_wp2_with fail
 refine(zhl _ _ b.gs _ _ (HL.out.gs.mono hB1) (by omega) (by omega)).mono ?_;rintro e w2⟨rfl,hb⟩;have hX2:=za hX1 hz1 hb;have hz2:=nLt hz1 hb.size;have hB2:=hB1.trans (hb.mono hB1.size);clear hb hX1 hz1 hB1
 by_cases q2:(zcg b.gs:Int)<=left-qL b.os
 rotate_left
 ·have HF:Hid (zL b.sz left=-1):=zC (by unfold Bk.sz;omega)
  rw[zC q2];go_wp2_with fail
  go_ret;exact⟨zo HF.out.symm,hB2⟩
 rw[zM q2];go_wp2_with fail
 refine(zge _ _ b.ls _ _ (HL.out.ls.mono hB2) (by omega) (by omega)).mono ?_;rintro e w3⟨rfl,hb⟩;have hX3:=za hX2 hz2 hb;have hz3:=nLt hz2 hb.size;have hB3:=hB2.trans (hb.mono hB2.size);clear hb hX2 hz2 hB2
 by_cases q3:(zcV b.ls:Int)<=left-qL b.os-zcg b.gs
 rotate_left
 ·have HF:Hid (zL b.sz left=-1):=zC (by unfold Bk.sz;omega)
  rw[zC q3];go_wp2_with fail
  go_ret;exact⟨zo HF.out.symm,hB3⟩
 rw[zM q3];go_wp2_with fail
 refine(zhz _ _ b.ps _ _ (HL.out.ps.mono hB3) (by omega) (by omega)).mono ?_;rintro e w4⟨rfl,hb⟩;have hX4:=za hX3 hz3 hb;have hz4:=nLt hz3 hb.size;have hB4:=hB3.trans (hb.mono hB3.size);clear hb hX3 hz3 hB3
 by_cases q4:(zc4 b.ps:Int)<=left-qL b.os-zcg b.gs-zcV b.ls
 rotate_left
 ·have HF:Hid (zL b.sz left=-1):=zC (by unfold Bk.sz;omega)
  rw[zC q4];go_wp2_with fail
  go_ret;exact⟨zo HF.out.symm,hB4⟩
 have HF:Hid (zL b.sz left=left-qL b.os-zcg b.gs-zcV b.ls-zc4 b.ps):=by
  unfold Hid;rw[zM (by unfold Bk.sz;omega)];unfold Bk.sz;omega
 rw[zM q4];go_wp2_with fail
 go_ret;exact⟨zo HF.out.symm,hB4⟩
theorem zbE (b:Bk)(a0 a1 a2 a3:Option Addr)(c0 c1 c2 c3:Nat)(a0' a1' a2' a3':Option Addr)(c0' c1' c2' c3':Nat)(w:World)(hl:q8 w b a0 a1 a2 a3)(hl':q8 w b a0' a1' a2' a3') :
 Calls Tryz.prog 10 #[.agg (b.cells a0 a1 a2 a3 c0 c1 c2 c3),.agg (b.cells a0' a1' a2' a3' c0' c1' c2' c3')] w fun e w'=>e=.returned (.bool true)/\Below w.heap.size w w':=by
 have HL:Hid (q8 w b a0 a1 a2 a3/\q8 w b a0' a1' a2' a3'):=⟨hl,hl'⟩
 clear hl hl';have n1:(b.now != b.now)=false:=by simp
 have n2:(b.tick != b.tick)=false:=by simp
 have n3:(b.given != b.given)=false:=by simp
 unfold Bk.cells;go_enter Tryz.func10,Tryz.ntmps10;go_wp2_with fail
 refine(zf9 _ _ _ _ b.os _ (HL.out.1.os.mono (zw _ _ _)) (HL.out.2.os.mono (zw _ _ _))).mono ?_;rintro e w1⟨rfl,hb⟩;have hX1:=za (za (zl w _ _) (by simp) (bAl _ _)) (by simp;omega) hb;have hY1:=za (zl (w.alloc (.cells (bC b a0 a1 a2 a3 c0 c1 c2 c3) 40)) (bC b a0' a1' a2' a3' c0' c1' c2' c3') 40) (by simp) hb;have hz1:w.heap.size+1<w1.heap.size:=by have:=hb.size;simp at this;omega
 have hB1:=(zw w _ _).trans (hb.mono (by simp;omega));rw[World.size_alloc]at hY1;clear hb;go_wp2_with fail
 refine(zhh _ _ _ _ b.gs _ (HL.out.1.gs.mono hB1) (HL.out.2.gs.mono hB1)).mono ?_;rintro e w2⟨rfl,hb⟩;have hX2:=za hX1 (nSl hz1) hb;have hY2:=za hY1 hz1 hb;have hz2:=nLt hz1 hb.size;have hB2:=hB1.trans (hb.mono hB1.size);clear hb hX1 hY1 hz1 hB1;go_wp2_with fail
 refine(zga _ _ _ _ b.ls _ (HL.out.1.ls.mono hB2) (HL.out.2.ls.mono hB2)).mono ?_;rintro e w3⟨rfl,hb⟩;have hX3:=za hX2 (nSl hz2) hb;have hY3:=za hY2 hz2 hb;have hz3:=nLt hz2 hb.size;have hB3:=hB2.trans (hb.mono hB2.size);clear hb hX2 hY2 hz2 hB2;go_wp2_with fail
 refine(zhc _ _ _ _ b.ps _ (HL.out.1.ps.mono hB3) (HL.out.2.ps.mono hB3)).mono ?_;rintro e w4⟨rfl,hb⟩;have hX4:=za hX3 (nSl hz3) hb;have hY4:=za hY3 hz3 hb;have hz4:=nLt hz3 hb.size;have hB4:=hB3.trans (hb.mono hB3.size);clear hb hX3 hY3 hz3 hB3;go_wp2_with fail
 go_ret;exact⟨rfl,hB4⟩
def znh (a:Option Addr)(ws:List ByteArray):Prop:=(a=none/\ws=[]) \/ ∃b off,a=some ⟨b,off,none⟩
theorem zn.zro {lo:Nat}{w:World}{a:Option Addr}{ws:List ByteArray}(h:zn lo w a ws):znh a ws:=by
 rcases h with⟨h0,h1⟩|⟨g,C,h0,_⟩
 ·exact Or.inl ⟨h0,h1⟩
 ·exact Or.inr ⟨g,0,h0⟩
theorem zeS (cap:Nat)(w:World) :
 Calls Tryz.prog 125 #[.slice none 0 cap] w fun e w'=>∃v,e=.returned v/\w'.ownsRow w.heap.size 9 1 v 0 []/\Below w.heap.size w w':=by
 go_enter Tryz.func125,Tryz.ntmps125;go_wp2_with fail
 go_ret;exact⟨_,rfl,World.ownsRow_nil _ _ _ _,bRf _ _⟩
theorem zfA (a:Option Addr)(cap:Nat)(ws:List ByteArray)(w:World)(hw:zF w a ws)(hA:znh a ws)(hl:ws.length<=1048576) :
 Calls Tryz.prog 125 #[.slice a ws.length cap] w
  fun e w'=>∃v,e=.returned v/\w'.ownsRow w.heap.size 9 1 v ws.length (ws.map Value.string)/\Below w.heap.size w w':=by
 rcases hA with⟨rfl,rfl⟩|⟨b,off,rfl⟩
 ·exact zeS cap w
 ·exact zfy b off cap ws w hw hl
theorem zki (o:Ob)(va ha:Option Addr)(cap cap':Nat)(w:World)(ho:jP w o va ha)(hA:znh va o.vs)(hA':znh ha o.hs)(hl:o.vs.length<=1048576)(hl':o.hs.length<=1048576) :
 Calls Tryz.prog 79 #[.agg #[.string o.kd,.string o.nm,.string o.tm,.slice va o.vs.length cap,.bool o.en,.slice ha o.hs.length cap',.int .i64 o.vr]] w
  fun e w'=>∃a dap a' dap' m,e=.returned (.agg #[.string o.kd,.string o.nm,.string o.tm,.slice a o.vs.length dap,.bool o.en,.slice a' o.hs.length dap',.int .i64 o.vr])/\zn w.heap.size w' a o.vs/\(∀g,a=some g->g.block<m)/\w.heap.size<=m/\zn m w' a' o.hs/\Below w.heap.size w w':=by
 go_enter Tryz.func79,Tryz.ntmps79;go_wp2_with fail
 refine(zfA _ _ _ _ (ho.vals.mono (zw _ _ _)) hA hl).mono ?_;rintro e w1⟨v,rfl,hown1,hb1⟩;obtain⟨a,dap,rfl,ht1⟩:=zn.zdo hown1;have hk1:=(hb1.block w.heap.size (by simp;omega)).trans (zT _ _ _).1;have hr1:=(hb1.block (w.heap.size+1) (by simp)).trans (zT _ _ _).2;have HT:Hid (zn (w.heap.size+1+1) w1 a o.vs):=by unfold Hid;simpa using ht1
 have hz1:w.heap.size+1<w1.heap.size:=by have:=hb1.size;simp at this;omega
 have hB1:=(zw _ _ _).trans (hb1.mono (by simp;omega));have HK:=hid hk1;have HRR:=hid hr1;have hX1:∀j,w1.cell? ⟨w.heap.size,j,none⟩=((oC o va ha cap cap'):Array Value)[j]?:=fun j=>cell_of_block hk1
 have hF1:∀j,w1.frozen? ⟨w.heap.size,j,none⟩=false:=fun j=>zh hk1
 clear hb1 hown1 ht1 hk1 hr1;go_wp2_with fail
 have hB1':=hB1.setCell (p:=⟨w.heap.size,3,none⟩) (Nat.le_refl _) (.slice a o.vs.length dap);refine(zfA _ _ _ _ (ho.holds.mono hB1') hA' hl').mono ?_;rintro e w2⟨v,rfl,hown2,hb2⟩;obtain⟨a',dap',rfl,ht2⟩:=zn.zdo hown2;have hk2:=(hb2.block w.heap.size (by simp[World.setCell];omega)).trans (zi HK.out _);have hr2:=(hb2.block (w.heap.size+1) (by simp[World.setCell];omega)).trans ((Below.heap_setCell _ _ _ _ (by simp)).trans HRR.out);have HT2:=hid ((HT.out.setCell _ (by simp;omega) _).mono hb2);have HU2:Hid (zn w1.heap.size w2 a' o.hs):=by unfold Hid;simpa[World.setCell] using ht2
 have HM:Hid (∀g,a=some g->g.block<w1.heap.size):=by
  intro g hg
  rcases HT.out with⟨h0,_⟩|⟨g',C,h0,_,hh,_⟩
  ·rw[h0]at hg;cases hg
  ·rw[h0]at hg;cases hg;exact(gES hh).1
 have hz2:w.heap.size+1<w2.heap.size:=by have:=hb2.size;simp[World.setCell]at this;omega
 have hB2:=hB1'.trans (hb2.mono hB1'.size);have hX2:∀j,w2.cell? ⟨w.heap.size,j,none⟩=((oC o a ha dap cap'):Array Value)[j]?:=fun j=>cell_of_block hk2
 have hF2:∀j,w2.frozen? ⟨w.heap.size,j,none⟩=false:=fun j=>zh hk2
 have hY2:∀j,w2.cell? ⟨w.heap.size+1,j,none⟩=(oZ:Array Value)[j]?:=fun j=>cell_of_block hr2
 have hG2:∀j,w2.frozen? ⟨w.heap.size+1,j,none⟩=false:=fun j=>zh hr2
 have hzz:w.heap.size<=w1.heap.size:=by omega
 clear hb2 hown2 ht2 hX1 hF1 hB1 hB1' hk2 hr2;go_wp2_with fail
 refine bodyPost_ret (v:=(.agg #[.string o.kd,.string o.nm,.string o.tm,.slice a o.vs.length dap,.bool o.en,.slice a' o.hs.length dap',.int .i64 o.vr])) (by simp[results,Tryz.results79,go_sem,hY2]) rfl ⟨a,dap,a',dap',w1.heap.size,rfl,((((((((HT2.out.setCell _ (by simp;omega) _).setCell _ (by simp) _).setCell _ (by simp) _).setCell _ (by simp) _).setCell _ (by simp) _).setCell _ (by simp) _).setCell _ (by simp) _).setCell _ (by simp) _).low (by omega),HM.out,hzz,((((((((HU2.out.setCell _ (by simp;omega) _).setCell _ (by simp;omega) _).setCell _ (by simp;omega) _).setCell _ (by simp;omega) _).setCell _ (by simp;omega) _).setCell _ (by simp;omega) _).setCell _ (by simp;omega) _).setCell _ (by simp;omega) _),((((((((hB2.setCell (Nat.le_refl _) _).setCell (by simp) _).setCell (by simp) _).setCell (by simp) _).setCell (by simp) _).setCell (by simp) _).setCell (by simp) _).setCell (by simp) _)⟩
theorem zmA (a0:Option Addr)(cap0:Nat)(ss:List Shp)(nm:ByteArray)(ls ms:Int)(a:Option Addr)(cap:Nat)(ws:List ByteArray)(to:ByteArray)(rl:Int)(mu fx:Bool)(df wg:ByteArray)(w:World)(hnm:nm.size<=maxLen)(hdf:df.size<=maxLen)(hwg:wg.size<=maxLen)(hws:zF w a ws) :
 Calls Tryz.prog 178 #[.slice a0 ss.length cap0,.agg #[.string nm,.int .i64 1,.int .i64 ls,.int .i64 ms,.slice a ws.length cap,.string to,.int .i64 rl,.bool mu,.bool fx,.string df,.string wg]] w
  fun e w'=>e=.returned (.bool (zA nm&&yF ss ⟨nm,1,ls,ms,ws,to,rl,mu,fx,df,wg⟩))/\Below w.heap.size w w':=by
 have HO:Hid ((zA nm&&yF ss ⟨nm,1,ls,ms,ws,to,rl,mu,fx,df,wg⟩)=(zA nm&&(yL 1 ls ms ws.length to rl wg&&zW ss ⟨nm,1,ls,ms,ws,to,rl,mu,fx,df,wg⟩&&(df.toList.isEmpty||fits 1 ls ms ws df)))):=rfl
 generalize (zA nm&&yF ss ⟨nm,1,ls,ms,ws,to,rl,mu,fx,df,wg⟩)=res at HO
 by_cases hn:zA nm=true
 rotate_left
 ·have HNm:Hid (zA nm=false):=by simpa[Hid] using hn
  clear hn;go_enter Tryz.func178,Tryz.ntmps178;go_wp2_with fail
  refine(zf HNm.out (zk _ _ hnm)).mono ?_;rintro e w1⟨rfl,rfl⟩;go_wp2_with fail
  go_ret;exact⟨ze (by rw[HO.out,HNm.out];rfl),bAl _ _⟩
 have HNm:=hid hn;clear hn
 by_cases hbare:yL 1 ls ms ws.length to rl wg=true
 rotate_left
 ·have HBare:Hid (yL 1 ls ms ws.length to rl wg=false):=by simpa[Hid] using hbare
  clear hbare;go_enter Tryz.func178,Tryz.ntmps178;go_wp2_with fail
  refine(zf HNm.out (zk _ _ hnm)).mono ?_;rintro e w1⟨rfl,rfl⟩;go_wp2_with fail
  refine(zf HBare.out (zdW _ _ _ _ _ _ _ _ _ _ _ _ _)).mono ?_;rintro e w2⟨rfl,hb2⟩;have hX2:=za (zl w _ _) (by simp) hb2;have hz2:w.heap.size<w2.heap.size:=by have:=hb2.size;simp at this;omega
  have hB2:Below w.heap.size w w2:=(bAl _ _).trans (hb2.mono (by simp));clear hb2;go_wp2_with fail
  go_ret;exact⟨ze (by rw[HO.out,HNm.out,HBare.out];rfl),hB2⟩
 have HBare:=hid hbare;clear hbare
 by_cases hd:df.toList.isEmpty=true
 ·have HD:=hid hd
  have HR:Hid (res=zW ss ⟨nm,1,ls,ms,ws,to,rl,mu,fx,df,wg⟩):=by unfold Hid;rw[HO.out,HNm.out,HBare.out,hd];simp
  clear HO;go_enter Tryz.func178,Tryz.ntmps178;go_wp2_with fail
  refine(zf HNm.out (zk _ _ hnm)).mono ?_;rintro e w1⟨rfl,rfl⟩;go_wp2_with fail
  refine(zf HBare.out (zdW _ _ _ _ _ _ _ _ _ _ _ _ _)).mono ?_;rintro e w2⟨rfl,hb2⟩;have hX2:=za (zl w _ _) (by simp) hb2;have hz2:w.heap.size<w2.heap.size:=by have:=hb2.size;simp at this;omega
  have hB2:Below w.heap.size w w2:=(bAl _ _).trans (hb2.mono (by simp));clear hb2
  go_wp2_with (go_at_call 109;refine(zk _ _ hwg).mono ?_;rintro e w5⟨rfl,rfl⟩)
  all_goals
   go_ret;refine⟨ze ?_,hB2⟩;rw[HR.out]
   simp_all [zW,jl]
   try omega
 have hd':df.toList.isEmpty=false:=by simpa using hd
 have HD:=hid hd';clear hd
 by_cases hfit:fits 1 ls ms ws df=true
 rotate_left
 ·have HFit:Hid (fits 1 ls ms ws df=false):=by simpa[Hid] using hfit
  clear hfit;go_enter Tryz.func178,Tryz.ntmps178;go_wp2_with fail
  refine(zf HNm.out (zk _ _ hnm)).mono ?_;rintro e w1⟨rfl,rfl⟩;go_wp2_with fail
  refine(zf HBare.out (zdW _ _ _ _ _ _ _ _ _ _ _ _ _)).mono ?_;rintro e w2⟨rfl,hb2⟩;have hX2:=za (zl w _ _) (by simp) hb2;have hz2:w.heap.size<w2.heap.size:=by have:=hb2.size;simp at this;omega
  have hB2:Below w.heap.size w w2:=(bAl _ _).trans (hb2.mono (by simp));clear hb2;go_wp2_with fail
  refine(zf HFit.out (yU _ _ _ _ _ _ _ _ _ _ _ _ _ _ _ hdf (hws.mono hB2))).mono ?_;rintro e w3⟨rfl,hb3⟩;have hX3:=za hX2 hz2 hb3;have hz3:w.heap.size<w3.heap.size:=by have:=hb3.size;omega
  have hB3:Below w.heap.size w w3:=hB2.trans (hb3.mono (by omega));clear hb3 hX2 hz2 hB2;go_wp2_with fail
  go_ret;exact⟨ze (by rw[HO.out,HNm.out,HBare.out,HD.out,HFit.out];simp),hB3⟩
 ·have HFit:=hid hfit
  have HR:Hid (res=zW ss ⟨nm,1,ls,ms,ws,to,rl,mu,fx,df,wg⟩):=by unfold Hid;rw[HO.out,HNm.out,HBare.out,HD.out,hfit];simp
  clear hfit HO;go_enter Tryz.func178,Tryz.ntmps178;go_wp2_with fail
  refine(zf HNm.out (zk _ _ hnm)).mono ?_;rintro e w1⟨rfl,rfl⟩;go_wp2_with fail
  refine(zf HBare.out (zdW _ _ _ _ _ _ _ _ _ _ _ _ _)).mono ?_;rintro e w2⟨rfl,hb2⟩;have hX2:=za (zl w _ _) (by simp) hb2;have hz2:w.heap.size<w2.heap.size:=by have:=hb2.size;simp at this;omega
  have hB2:Below w.heap.size w w2:=(bAl _ _).trans (hb2.mono (by simp));clear hb2;go_wp2_with fail
  refine(zf HFit.out (yU _ _ _ _ _ _ _ _ _ _ _ _ _ _ _ hdf (hws.mono hB2))).mono ?_;rintro e w3⟨rfl,hb3⟩;have hX3:=za hX2 hz2 hb3;have hz3:w.heap.size<w3.heap.size:=by have:=hb3.size;omega
  have hB3:Below w.heap.size w w3:=hB2.trans (hb3.mono (by omega));clear hb3 hX2 hz2 hB2
  go_wp2_with (go_at_call 109;refine(zk _ _ hwg).mono ?_;rintro e w5⟨rfl,rfl⟩)
  all_goals
   go_ret;refine⟨ze ?_,hB3⟩;rw[HR.out]
   simp_all [zW,jl]
   try omega
end Go.Proofs.YtkficnallnpjnaaGreat
