import Derived.Test.YtjnpjkigofldlaaGreatM10
import Derived.Test.YtjnpjkigofldlaaGreatM11
set_option maxHeartbeats 1000000
namespace Go.Proofs.YtjnpjkigofldlaaGreat
open Go.RowKit
theorem ze5 (a:OA)(cap:Nat)(ws:List BA)(w:World)(hw:zD w a ws) :
 Calls Tryz.prog 160 #[.l a ws.length cap] w fun e w'=>e=.returned (.bool (asc ws))/\∃n,w'=w.drewN n:=by
 have hl:=hw.len;unfold maxLen at hl;go_in
 go_wp2
 go_loopw [3] (fun i wr=>∃k:Nat,k<=ws.length/\i=.i k/\up (zed ws) k=true/\∃n,wr=w.drewN n) (fun i _=>ws.length-(intOf i).toNat)
 case atStart=>exact⟨0,Nat.zero_le _,rfl,rfl,0,rfl⟩
 case round=>
  obtain⟨k,hk,rfl,hup,hwr⟩:=hrel;have HW:Hid (∃n,wr=w.drewN n):=hwr
  by_cases hlt:k<ws.length
  ·obtain⟨b,off,rfl,hb,hc0⟩:=hw.cells (by rintro rfl;simp at hlt)
   have hc:∀i (h:i<ws.length),wr.cell? (aD b (off+i))=some (.s ws[i]):=by obtain⟨n,rfl⟩:=hwr;exact hc0
   have hsm:=hw.small _ (List.getElem_mem hlt);clear hw hc0 hwr;have hck:=hc k hlt;have hltI:(k:Int)<(ws.length:Int):=by omega
   by_cases hn:zC ws[k]=true
   ·have hn':=hn
    by_cases hk0:k=0
    ·have HF:Hid (up (zed ws) (k+1)=true):=by subst hk0;unfold Hid;rw[zab,zjd hlt hn];rfl
     have hg:decide (0<k)=false:=by simp;omega
     clear hn hc hup hk0
     go_wp2
     go_quiet ((go_at_call 122;exact Calls.quiet_of_same (zw hn' (yg _ _ hsm))))
     go_wp2
     obtain⟨n,rfl⟩:=HW.o;exact⟨⟨k+1,by omega,by go_num,HF.o,n+nq,by simp⟩,by simp[intOf];omega⟩
    ·obtain⟨m,rfl⟩:∃m,k=m+1:=⟨k-1,by omega⟩
     have hcm:=hc m (by omega);have HU:Hid (up (zed ws) (m+1+1)=less ws[m] ws[m+1]):=by unfold Hid;rw[zab,hup,zeK hlt hn];rfl
     have HN:Hid (less ws[m] ws[m+1]=false->asc ws=false):=fun h=>zbL hlt (by rw[zeK hlt hn];exact h)
     clear hn hc hup hk0
     by_cases hls:less ws[m] ws[m+1]=true
     ·have hls':Op.bytesLess ws[m].toList ws[m+1].toList=true:=hls
      have HLS:Hid (less ws[m] ws[m+1]=true):=hls;clear hls
      go_wp2
      go_quiet ((go_at_call 122;exact Calls.quiet_of_same (zw hn' (yg _ _ hsm))))
      go_wp2
      obtain⟨n,rfl⟩:=HW.o;exact⟨⟨m+1+1,by omega,by go_num,by rw[HU.o,HLS.o],n+nq,by simp⟩,by simp[intOf];omega⟩
     ·have hls':Op.bytesLess ws[m].toList ws[m+1].toList=false:=by simpa[less] using hls
      have HLS:Hid (less ws[m] ws[m+1]=false):=hls';clear hls
      go_wp2
      go_quiet ((go_at_call 122;exact Calls.quiet_of_same (zw hn' (yg _ _ hsm))))
      go_wp2
      go_ret;refine⟨ze (HN.o HLS.o).symm,?_⟩;obtain⟨n,rfl⟩:=HW.o;exact⟨n+nq,by simp⟩
   ·have hn':zC ws[k]=false:=by simpa using hn
    have HF:Hid (asc ws=false):=zbL hlt (zk6 hlt hn');clear hn hc hup
    go_wp2
    go_quiet ((go_at_call 122;exact Calls.quiet_of_same (zw hn' (yg _ _ hsm))))
    go_wp2
    go_ret;refine⟨ze HF.o.symm,?_⟩;obtain⟨n,rfl⟩:=HW.o;exact⟨n+nq,by simp⟩
  ·have HF:Hid (asc ws=true):=by
    have e:k=ws.length:=by omega
    subst e;exact hup
   clear hw hup hwr
   go_wp2
   go_ret;exact⟨ze HF.o.symm,HW.o⟩
theorem zgx (a:OA)(cap:Nat)(vs:List Int)(left:Int)(w:World)(hl:vs.length<=maxLen)(h0:0<=left)(h1:left<=1048576) :
 Calls Tryz.prog 155 #[.l a vs.length cap,.i left] w fun e w'=>e=.returned (.i (zJ vs.length left))/\w'=w:=by
 unfold maxLen at hl
 by_cases hf:(vs.length:Int)<=left
 ·have HF:=hid (zN hf)
  go_in;go_wp2
  go_ret;exact⟨zm HF.o.symm,rfl⟩
 ·have HF:=hid (zy hf)
  go_in;go_wp2
  go_ret;exact⟨zm HF.o.symm,rfl⟩
theorem zfe (r:Rl)(a:OA)(cap:Nat)(left:Int)(w:World)(hm:r.Small)(hl:r.vs.length<=maxLen)(h0:0<=left)(h1:left<=1048576) :
 Calls Tryz.prog 112 #[.agg (r.cells a cap),.i left] w fun e w'=>e=.returned (.i (zJ r.sz left))/\Bw w w':=by
 have k1:=hm.kd;have k2:=hm.tm;have k3:=hm.px;have k4:=hl;unfold maxLen at k1 k2 k3 k4;unfold Rl.cells;have hB:∀ob,Bw w (w.alloc ob):=fun ob=>bAl _ _
 by_cases hv:(r.vs.length:Int)<=left
 rotate_left
 ·have HF:Hid (zJ r.sz left=-1):=zy (by unfold Rl.sz;omega)
  go_in;go_wp2_with fail
  refine(zgx _ _ _ _ _ hl h0 h1).mono ?_;rintro e w1⟨rfl,rfl⟩;rw[zy (by omega)];go_wp2
  go_ret;exact⟨zm HF.o.symm,hB _⟩
 by_cases hf:(r.sz:Int)<=left
 ·have HF:Hid (zJ r.sz left=left-r.vs.length-r.kd.size-r.tm.size-r.px.size):=by
   unfold Hid;rw[zN hf];unfold Rl.sz;omega
  unfold Rl.sz at hf;go_in;go_wp2_with fail
  refine(zgx _ _ _ _ _ hl h0 h1).mono ?_;rintro e w1⟨rfl,rfl⟩;rw[zN hv];go_wp2
  go_ret;exact⟨zm HF.o.symm,hB _⟩
 ·have HF:Hid (zJ r.sz left=-1):=zy hf
  have HN:Hid (¬((r.vs.length+r.kd.size+r.tm.size+r.px.size:Nat):Int)<=left):=hf;clear hf;go_in;go_wp2_with fail
  refine(zgx _ _ _ _ _ hl h0 h1).mono ?_;rintro e w1⟨rfl,rfl⟩;rw[zN hv];go_wp2
  all_goals go_ret
  all_goals first|exact⟨zm HF.o.symm,hB _⟩|(exfalso;have:=HN.o;simp at *;omega)
theorem zrn (a:OA)(cap:Nat)(vs:List Int)(w:World)(hw:yZ w a vs)(hl:vs.length<=1048576) :
 Calls Tryz.prog 169 #[.l a vs.length cap] w fun e w'=>e=.returned (.l (some (aD w.heap.size 0)) vs.length vs.length)/\w'=w.alloc (.cells (zb3 vs) 3):=by
 have hmk:∀w:World,(Instr.makeSlice 71 (.i vs.length) (.i vs.length)).run Tryz.prog w=.ok (.l (some (aD w.heap.size 0)) vs.length vs.length) (w.alloc (.cells (intCells vs 0) 3)):=by
  intro w;have h:=run_make_row' (P:=Tryz.prog) 71 3 (.i 0) 8 Tryz.underlying71 (by kernel_rfl) rfl .i64 .i64 vs.length (by omega) (by omega) w;rw[zml]at h;exact h
 go_in;go_wp2_with fail
 clear hmk
 go_loopw [4] (fun i wr=>∃k:Nat,k<=vs.length/\i=.i k/\wr=w.alloc (.cells (intCells vs k) 3)) (fun i _=>vs.length-(intOf i).toNat)
 case atStart=>exact⟨0,Nat.zero_le _,rfl,rfl⟩
 case round=>
  obtain⟨k,hk,rfl,rfl⟩:=hrel
  by_cases hlt:k<vs.length
  ·obtain⟨b,off,rfl,hb,hck⟩:=hw.load (bRf _ _) k hlt
   clear hw;have hold:=zo0 vs k hlt;have HS:=hid (zok vs k hlt);have hltI:(k:Int)<(vs.length:Int):=by omega
   go_wp2
   go_roundw
   case rel=>exact⟨k+1,by omega,by go_num,by rw[HS.o]⟩
   case measure=>simp[intOf];omega
  ·have HA:Hid (intCells vs k=zb3 vs):=znD vs k (by omega)
   clear hw
   go_wp2
   go_ret;exact⟨rfl,by rw[HA.o]⟩
theorem zra (a a':OA)(cap cap':Nat)(vs:List Int)(w:World)(hw:yZ w a vs)(hw':yZ w a' vs) :
 Calls Tryz.prog 200 #[.l a vs.length cap,.l a' vs.length cap'] w fun e w'=>e=.returned (.bool true)/\Bw w w':=by
 have hl:=hw.len;unfold maxLen at hl;have hnn:((vs.length:Int) != vs.length)=false:=by simp
 go_in;go_wp2
 go_loopw [5] (fun i wr=>∃k:Nat,k<=vs.length/\i=.i k/\Bw w wr) (fun i _=>vs.length-(intOf i).toNat)
 case atStart=>exact⟨0,Nat.zero_le _,rfl,bRf _ _⟩
 case round=>
  obtain⟨k,hk,rfl,hB⟩:=hrel
  by_cases hlt:k<vs.length
  ·obtain⟨b,off,rfl,hb,c0⟩:=hw.load hB k hlt
   obtain⟨b',off',rfl,hb',d0⟩:=hw'.load hB k hlt;have hltI:(k:Int)<(vs.length:Int):=by omega
   have hne:(vs[k] != vs[k])=false:=by simp
   clear hw hw';go_wp2_with fail
   first
    | exact⟨⟨k+1,by omega,by go_num,hB⟩,by simp[intOf];omega⟩
    | (go_quiet (fail);go_wp2;exact⟨⟨k+1,by omega,by go_num,below_drewN hB _⟩,by simp[intOf];omega⟩)
  ·clear hw hw'
   go_wp2
   go_ret;exact⟨rfl,hB⟩
theorem zuk (w:World)(o1 o2 o3 o4:Obj):((((w.alloc o1).alloc o2).alloc o3).alloc o4).heap[w.heap.size+1+1+1]?=some o4:=by
 have h:=MapKept.heap_alloc (((w.alloc o1).alloc o2).alloc o3) o4
 simpa using h.1
theorem ztR (w:World)(o1 o2 o3 o4:Obj):Bw w ((((w.alloc o1).alloc o2).alloc o3).alloc o4):=
 (((bAl _ _).alloc (by simp) _).alloc (by simp;omega) _).alloc (by simp;omega) _
theorem zkk (r:Rl)(a:OA)(cap:Nat)(w:World)(hw:yZ w a r.vs)(hl:r.vs.length<=1048576) :
 Calls Tryz.prog 134 #[.agg (r.cells a cap)] w
  fun e w'=>∃bk,e=.returned (.agg (r.cells (some (aD bk 0)) r.vs.length))/\w.heap.size<=bk/\bk<w'.heap.size/\w'.heap[bk]?=some (.cells (zb3 r.vs) 3)/\Bw w w':=by
 unfold Rl.cells;go_in
 go_wp2_with (go_at_call 169;refine(zrn _ _ _ _ (by exact hw.mono (((bAl _ _).alloc (by simp) _).alloc (by simp;omega) _)) hl).mono ?_;rintro e w'⟨rfl,rfl⟩)
 refine bodyPost_ret (v:=.agg #[.l (some (aD (w.heap.size+1+1+1) 0)) r.vs.length r.vs.length,.s r.kd,.s r.tm,.s r.px]) (by simp[results,Tryz.results134,go_sem]) rfl ⟨w.heap.size+1+1+1,rfl,by omega,by simp,zuk _ _ _ _ _,ztR _ _ _ _ _⟩
theorem zks (r:Rl)(a a':OA)(cap cap':Nat)(w:World)(hw:yZ w a r.vs)(hw':yZ w a' r.vs) :
 Calls Tryz.prog 152 #[.agg (r.cells a cap),.agg (r.cells a' cap')] w fun e w'=>e=.returned (.bool true)/\Bw w w':=by
 unfold Rl.cells;go_in;go_wp2_with fail
 refine(zra _ _ _ _ _ _ (hw.mono (zo _ _ _)) (hw'.mono (zo _ _ _))).mono ?_;rintro e w1⟨rfl,hb1⟩;have hX1:=za (za (zI w _ _) (by simp) (bAl _ _)) (by simp;omega) hb1;have hY1:=za (ztt w _ _ _) (by simp) hb1;have hz:w.heap.size+1<w1.heap.size:=by have:=hb1.size;simp at this;omega
 have hB1:=(zo w _ _).trans (hb1.mono (by simp;omega));clear hb1;go_wp2
 go_ret;exact⟨rfl,hB1⟩
theorem zbI (a0:OA)(cap0:Nat)(ss:List Shp)(o:Ob)(a a':OA)(cap cap':Nat)(w:World)(hw:yU w a0 ss)(_ho:qY w o a a')(hc:zq ss o=true) :
 Calls Tryz.prog 120 #[.l a0 ss.length cap0,.agg (oC o a a' cap cap')] w fun e w'=>∃fa fcap,e=.returned (.tuple #[.l fa (shapeOf ss o.kd).fs.length fcap,.bool true])/\yw w fa (shapeOf ss o.kd).fs/\Bw w w':=by
 unfold zq at hc;simp only[Bool.and_eq_true,decide_eq_true_eq]at hc;have HK:=hid hc.1;have HL:=hid hc.2;clear hc;have hl:=hw.len;unfold maxLen at hl;go_in;go_wp2_with fail
 refine(zbx _ _ _ _ _ (hw.mono (bAl _ _)) HK.o).mono ?_;rintro e w1⟨ix,hix,rfl,hsh,rfl⟩;have HSh:=hid hsh;clear hsh;obtain⟨b,off,rfl,hb,hr⟩:=hw.rows (by rintro rfl;simp at hix);obtain⟨fa,fcap,hs⟩:=hr ix hix;have hcl:=hs.list;have hfl:=hs.zdE;have hixI:(ix:Int)<(ss.length:Int):=by omega
 have hix0:decide ((ix:Int)<0)=false:=by simp
 have hneq:((ss[ix].fs.length:Int) != (o.vs.length:Int))=false:=by have h1:=HL.o;have h2:=HSh.o;rw[h2]at h1;simp[h1]
 have hbw:=hb;clear hr hs;go_wp2_with fail
 go_quiet (fail)
 go_wp2
 go_ret2
 rw[HSh.o];exact⟨fa,fcap,rfl,hfl,below_drewN (bAl _ _) _⟩
theorem zdz (a0:OA)(cap0:Nat)(ss:List Shp)(o:Ob)(a a':OA)(cap cap':Nat)(w:World)(hw:yU w a0 ss)(_ho:qY w o a a')(hc:zq ss o=false) :
 Calls Tryz.prog 120 #[.l a0 ss.length cap0,.agg (oC o a a' cap cap')] w fun e w'=>∃v,e=.returned (.tuple #[v,.bool false])/\Bw w w':=by
 have hl:=hw.len;unfold maxLen at hl
 by_cases hk:zF ss o.kd=true
 ·have HK:=hid hk
  have HL:Hid (¬o.vs.length=(shapeOf ss o.kd).fs.length):=by unfold zq at hc;rw[hk]at hc;simpa[Hid] using hc
  clear hc hk;go_in;go_wp2_with fail
  refine(zbx _ _ _ _ _ (hw.mono (bAl _ _)) HK.o).mono ?_;rintro e w1⟨ix,hix,rfl,hsh,rfl⟩;have HSh:=hid hsh;clear hsh;obtain⟨b,off,rfl,hb,hr⟩:=hw.rows (by rintro rfl;simp at hix);obtain⟨fa,fcap,hs⟩:=hr ix hix;have hcl:=hs.list;have hixI:(ix:Int)<(ss.length:Int):=by omega
  have hix0:decide ((ix:Int)<0)=false:=by simp
  have hneq:((ss[ix].fs.length:Int) != (o.vs.length:Int))=true:=by have h1:=HL.o;have h2:=HSh.o;rw[h2]at h1;rw[bne_iff_ne];omega
  have hbw:=hb;clear hr hs;go_wp2_with fail
  go_quiet (fail)
  go_wp2
  go_ret2
  exact⟨_,rfl,below_drewN (zo _ _ _) _⟩
 ·have HK:Hid (zF ss o.kd=false):=by simpa[Hid] using hk
  clear hc hk;go_in;go_wp2_with fail
  refine(zgS _ _ _ _ _ (hw.mono (bAl _ _)) HK.o).mono ?_;rintro e w1⟨rfl,rfl⟩;go_wp2_with fail
  go_quiet (fail)
  go_wp2
  go_ret2
  exact⟨_,rfl,below_drewN (zo _ _ _) _⟩
end Go.Proofs.YtjnpjkigofldlaaGreat
