import Derived.Test.YtedangodjiolaaaGreatM31
set_option maxHeartbeats 8000000
namespace Go.Proofs.YtedangodjiolaaaGreat
open Go.RowKit
section
variable {P:Program} {ops:Array Oper} {Q:Exit->Act->World->Prop}
theorem gL {oi:Oper}{rest:List Oper}{v:Value}{a a':Act}{w:World}(h:wpList P ops Q rest a' w)(hw:Region.wanted oi (yielded ops a.tmps)=true:=by rfl)
 (hy:(execOp a.eval oi).run P w=.ok (.value v) w:=by(go_simp;try with_reducible rfl)) (ha:a.put oi.dst v=a':=by((try simp only[Act.put,sA,s0,sS]);rfl)):wpList P ops Q (oi :: rest) a w:=
 wpList_step fun K hK=>by
  rw[if_pos hw];unfold Oper.wp;rw[hy];exact hK _ _ (ha ▸ h)
theorem kL {oi:Oper}{rest:List Oper}{a a':Act}{w:World}(h:wpList P ops Q rest a' w)(hw:Region.wanted oi (yielded ops a.tmps)=false:=by rfl)(ha:a.put oi.dst undef=a':=by((try simp only[Act.put,sA,s0,sS]);rfl)):wpList P ops Q (oi :: rest) a w:=
 wpList_step fun K hK=>by
  rw[if_neg (by rw[hw];decide)];exact hK _ _ (ha ▸ h)
theorem mL {oi:Oper}{rest:List Oper}{a a':Act}{w:World}{ty:TypeId}{x:Operand}{b o:Nat}{X:AV}{d:TypeDesc}(hR:w.rangeAt b o X.toList)(hu:P.underlying ty=some d)(hd:d.isRow=true)(hn:(P.info? ty).map (·.size)=some X.toList.length)(h:wpList P ops Q rest a' w)
 (ho:oi.op=.load ty x:=by rfl) (hx:a.eval x=.pointer (some (aD b o)):=by rfl) (hw:Region.wanted oi (yielded ops a.tmps)=true:=by rfl) (ha:a.put oi.dst (.agg X)=a':=by((try simp only[Act.put,sA,s0,sS]);rfl)):wpList P ops Q (oi :: rest) a w:=
 wpList_step fun K hK=>by
  rw[if_pos hw];have e:X.toList.toArray=X:=by simp
  refine wp_load_mid ty x ho b o hx X.toList d hR hu hd hn ?_;rw[e];exact hK _ _ (ha ▸ h)
theorem dL {oi:Oper}{rest:List Oper}{a:Act}{w:World}(h:∀K:Act->World->Prop,Shut (∀a w,wpList P ops Q rest a w->K a w)->Oper.wp P oi a w K Q)(hw:Region.wanted oi (yielded ops a.tmps)=true:=by rfl):wpList P ops Q (oi :: rest) a w:=
 wpList_step fun K hK=>by rw[if_pos hw];exact h K hK
end
def SlI (ss:List Sl)(i:Nat)(w:World)(cs:AV):Prop:=∃h:i<ss.length,∃a0 a1 a2 a3 c0 c1 c2 c3,zc3 w ss[i] a0 a1 a2 a3/\cs=ss[i].cells a0 a1 a2 a3 c0 c1 c2 c3
theorem zrf {ss:List Sl}{t bo:Nat}{w:World}(hl:ss.length<=maxLen)(h:Rws t 18 bo ss.length ss.length (SlI ss) w):zcz bo w (fun w=>zbJ w (some (aD bo 0)) ss):=by
 intro w' ha;obtain⟨hb,hr⟩:=h.zro w' ha;refine⟨hl,fun _=>⟨bo,0,rfl,hb,fun i hi=>?_⟩⟩;obtain⟨cs,_,⟨_,a0,a1,a2,a3,c0,c1,c2,c3,hs,rfl⟩,hc⟩:=hr i hi;exact⟨a0,a1,a2,a3,c0,c1,c2,c3,hs,hc⟩
def zqm:AV:=#[.s ByteArray.empty,.s ByteArray.empty,.i 0,.s ByteArray.empty,.s ByteArray.empty,.s ByteArray.empty,.l none 0 0,.l none 0 0,.i 0,.s ByteArray.empty,.s ByteArray.empty,.l none 0 0,.s ByteArray.empty,.s ByteArray.empty,.s ByteArray.empty,.i 0,.i 0,.l none 0 0]
theorem zih (a:OA)(cap:Nat)(ms:List Sl)(w:World)(hw:zbJ w a ms)(hl:ms.length<=1048576)(hls:∀i (h:i<ms.length),ms[i].Few) :
 Calls Tryz.prog 96 #[.l a ms.length cap] w fun e w'=>e=.returned (.l (some (aD w.heap.size 0)) ms.length ms.length)/\zcz w.heap.size w' (fun w1=>zbJ w1 (some (aD w.heap.size 0)) ms)/\Bw w w':=by
 have hmk:∀w:World,(Instr.makeSlice 65 (.i ms.length) (.i ms.length)).run Tryz.prog w=.ok (.l (some (aD w.heap.size 0)) ms.length ms.length) (w.alloc (.cells (madeCells zqm (ms.length*18)) 110)):=
  fun w=>qE (P:=Tryz.prog) 65 110 (.agg zqm) 18 288 Tryz.underlying65 (by kernel_rfl) ms.length (by omega) (by omega) w
 have HML:Hid (ms.length<=maxLen):=hw.len;go_enter Tryz.func96,Tryz.ntmps96;go_wp2_with fail
 clear hmk
 go_loopw [4] (fun i wr=>∃k:Nat,k<=ms.length/\i=.i k/\Hid (Rws 110 18 w.heap.size ms.length k (SlI ms) wr)/\Bw w wr) (fun i _=>ms.length-(intOf i).toNat)
 case atStart=>exact⟨0,Nat.zero_le _,rfl,⟨_,(MapKept.heap_alloc w _).1,size_madeCells _ _,fun i _ h=>absurd h (by omega)⟩,bAl _ _⟩
 case round=>
  obtain⟨k,hk,rfl,HOW,hB⟩:=hrel
  by_cases hlt:k<ms.length
  ·obtain⟨b,off,a0,a1,a2,a3,c0,c1,c2,c3,rfl,hb,hsl,hr⟩:=hw.range hB k hlt
   have HLS:=zcM (hls k hlt) hsl hr;have hltI:(k:Int)<(ms.length:Int):=by omega
   clear hw hsl hr
   go_upto_region 5 with fail
   refine wp_region_list ?_;refine tL ?_;refine tL ?_;refine tL ?_;refine tL ?_;refine tL ?_;refine wpList_load_mid rfl 202 (.tmp 18) rfl b (off+k*18) rfl _ _ HLS.o.2.2 Tryz.underlying202 rfl (by kernel_rfl) ?_;refine cL fun K hK=>?_
   go_simp
   refine(zjg ms[k] a0 a1 a2 a3 c0 c1 c2 c3 _ HLS.o.2.1 HLS.o.1).mono ?_;rintro e w1⟨b0,b1,b2,b3,rfl,hf1,hb1⟩;have hB1:=hB.trans (hb1.mono hB.size);have HP:=hid (HOW.o.later hb1);have HI:Hid (zcz (w.heap.size+1) w1 (fun w=>SlI ms k w (ms[k].cells b0 b1 b2 b3 ms[k].x.vs.length ms[k].x.hs.length ms[k].x.r.vs.length ms[k].ws.length))):=fun w2 h2=>⟨hlt,b0,b1,b2,b3,_,_,_,_,hf1 w2 (h2.mono HOW.o.lt),rfl⟩
   clear hf1 hb1
   (try go_wp2_with fail)
   refine hK.out _ _ ?_;clear hK K
   (try simp only[Act.put,sA,s0,sS])
   refine tL ?_;refine wpList_store_mid rfl 110 (.tmp 21) (.tmp 20) rfl w.heap.size (k*18) (ms[k].cells b0 b1 b2 b3 ms[k].x.vs.length ms[k].x.hs.length ms[k].x.r.vs.length ms[k].ws.length) rfl rfl (HP.o.room hlt) (by kernel_rfl) (by simp[Sl.cells,Value.oneCell']) ?_;refine wpList_nil ?_;have HPP:=ji (HP.o.put hlt _ rfl HI.o) (jQ (Nat.le_refl _) (ms[k].cells b0 b1 b2 b3 ms[k].x.vs.length ms[k].x.hs.length ms[k].x.r.vs.length ms[k].ws.length).toList (k*18) _ hB1)
   revert HPP
   generalize w1.setCells w.heap.size (k*18) (ms[k].cells b0 b1 b2 b3 ms[k].x.vs.length ms[k].x.hs.length ms[k].x.r.vs.length ms[k].ws.length).toList=w2
   intro HPP
   (try simp only[Act.put])
   go_wp2_with fail
   exact⟨⟨k+1,by omega,by go_num,HPP.o.1,HPP.o.2⟩,by simp[intOf];omega⟩
  ·have HF:Hid (zcz w.heap.size wr (fun w1=>zbJ w1 (some (aD w.heap.size 0)) ms)):=by
    have e:k=ms.length:=by omega
    subst e;exact zrf HML.o HOW.o
   clear hw HOW;go_wp2_with fail
   go_ret;exact⟨rfl,HF.o,hB⟩
end Go.Proofs.YtedangodjiolaaaGreat
