import Derived.Test.YtcgpjfcocmcodaaGreatM39
set_option maxHeartbeats 8000000
namespace Go.Proofs.YtcgpjfcocmcodaaGreat
def qM (fs:List Fld)(vs:List BA)(v:BA):BA:=match fs.findIdx? (fun f=>decide (f.nm=v)) with|some j=>vs.getD j ByteArray.empty|none=>ByteArray.empty
def gives (s:Shp)(vs:List BA)(p:Nat)(m:Mnd):Option BA:=
 if turns m s p=true/\¬(isSet m.wh=true/\qM s.fs vs m.wh≠m.wi) then
  if isSet m.fr=true then (if isSet (qM s.fs vs m.fr)=true then some (qM s.fs vs m.fr) else none) else some m.pt
 else none
def decided (s:Shp)(ms:List Mnd)(p:Nat)(vs:List BA):BA:=(ms.findSome? (gives s vs p)).getD (vs.getD p ByteArray.empty)
theorem zdQ {fs:List Fld}{vs:List BA}{v:BA}{j:Nat}(h:zS fs v=(j:Int)):qM fs vs v=vs.getD j ByteArray.empty:=by
 unfold zS at h;unfold qM
 cases hf:fs.findIdx? (fun f=>decide (f.nm=v)) with
 | none=>rw[hf]at h;simp at h
 | some k=>
  rw[hf]at h
  have:k=j:=by simp only at h;omega
  rw[this]
theorem zgf {fs:List Fld}{vs:List BA}{v:BA}(h:zS fs v=-1):qM fs vs v=ByteArray.empty:=by
 unfold zS at h;unfold qM
 cases hf:fs.findIdx? (fun f=>decide (f.nm=v)) with
 | none=>rfl
 | some k=>rw[hf]at h;simp only at h;omega
theorem zfm {α β:Type}{f g:α->Option β}:∀ {l:List α},(∀x∈l,f x=g x)->l.findSome? f=l.findSome? g
 | [],_=>rfl
 | a :: l,h=>by
  have h1:=h a (by simp);have h2:=zfm (f:=f) (g:=g) (l:=l) (fun x hx=>h x (by simp[hx]));rw[List.findSome?_cons,List.findSome?_cons,h1,h2]
theorem zlH {us vs:List BA}{q:Nat}(e:us[q]?=vs[q]?):us.getD q ByteArray.empty=vs.getD q ByteArray.empty:=by
 rw[List.getD_eq_getElem?_getD,List.getD_eq_getElem?_getD,e]
theorem znW (s:Shp)(ms:List Mnd)(p:Nat)(us vs:List BA)(hr:∀q∈zm s ms p,us[q]?=vs[q]?):ms.findSome? (gives s us p)=ms.findSome? (gives s vs p):=by
 apply zfm
 intro m hmm;unfold gives
 by_cases ht:turns m s p=true
 ·have hread:∀v∈zP m,qM s.fs us v=qM s.fs vs v:=by
   intro v hv'
   rcases jB s.fs v with⟨h1,_⟩|⟨k,_,h1,_⟩
   ·rw[zgf h1,zgf h1]
   ·rw[zdQ h1,zdQ h1]
    apply zlH
    apply hr
    unfold zm;rw[List.mem_map];refine⟨(k:Int),?_,Int.toNat_natCast _⟩;unfold yA;rw[List.mem_flatMap];refine⟨m,hmm,?_⟩;rw[if_pos ht,List.mem_map];exact⟨v,hv',h1⟩
  have hw:isSet m.wh=true->qM s.fs us m.wh=qM s.fs vs m.wh:=fun hs=>hread _ (by unfold zP;rw[List.mem_filter];exact⟨by simp,hs⟩)
  have hf:isSet m.fr=true->qM s.fs us m.fr=qM s.fs vs m.fr:=fun hs=>hread _ (by unfold zP;rw[List.mem_filter];exact⟨by simp,hs⟩)
  have c1:(isSet m.wh=true/\qM s.fs us m.wh≠m.wi)↔(isSet m.wh=true/\qM s.fs vs m.wh≠m.wi):=by
   constructor
   ·rintro⟨a,b⟩;exact⟨a,by rw[<- hw a];exact b⟩
   ·rintro⟨a,b⟩;exact⟨a,by rw[hw a];exact b⟩
  have c2:(if isSet m.fr=true then (if isSet (qM s.fs us m.fr)=true then some (qM s.fs us m.fr) else none) else some m.pt)=(if isSet m.fr=true then (if isSet (qM s.fs vs m.fr)=true then some (qM s.fs vs m.fr) else none) else some m.pt):=by
   by_cases hsf:isSet m.fr=true
   ·rw[hf hsf]
   ·rw[if_neg hsf,if_neg hsf]
  rw[c2]
  by_cases hc:turns m s p=true/\¬(isSet m.wh=true/\qM s.fs us m.wh≠m.wi)
  ·have hc':turns m s p=true/\¬(isSet m.wh=true/\qM s.fs vs m.wh≠m.wi):=⟨hc.1,fun h'=>hc.2 (c1.2 h')⟩
   rw[if_pos hc,if_pos hc']
  ·have hc':¬(turns m s p=true/\¬(isSet m.wh=true/\qM s.fs vs m.wh≠m.wi)):=fun h'=>hc ⟨h'.1,fun h''=>h'.2 (c1.1 h'')⟩
   rw[if_neg hc,if_neg hc']
 ·simp[ht]
theorem zkO (s:Shp)(ms:List Mnd):zrw (zm s ms) s.fs.length (decided s ms):=by
 intro p _ us vs _ _ hr hown;unfold decided;rw[znW s ms p us vs hr,zlH hown]
end Go.Proofs.YtcgpjfcocmcodaaGreat
namespace Go.Proofs.YtcgpjfcocmcodaaGreat
open Go.RowKit
def zcv (l:Lw):Bool:=yB l.ss l.ms&&zbN l.ts
theorem zlc (l:Lw)(a b c:OA)(ca cb cc:Nat)(w:World)(hl:jA w l a b c)(hf:l.Few) :
 Calls Tryz.prog 86 #[.agg (l.cells a b c ca cb cc)] w fun e w'=>e=.returned (.bool (zcv l))/\Bw w w':=by
 have HL:Hid (jA w l a b c):=hl;have HF:Hid l.Few:=hf;clear hl hf;unfold Lw.cells
 by_cases h1:yB l.ss l.ms=true
 ·have HQ:Hid (zcv l=zbN l.ts):=by unfold Hid zcv;rw[h1];rfl
  have HM:Hid (yB l.ss l.ms=true):=h1;clear h1;go_enter Tryz.func86,Tryz.ntmps86;go_wp2_with fail
  refine(zf HM.o (zeE _ _ _ _ l.ss l.ms _ (HL.o.ss.mono (bAl _ _)) (HL.o.ms.mono (bAl _ _)) HF.o.ms)).mono ?_;rintro e w1⟨rfl,hb⟩;have hX1:=za (zl w #[.l a l.ss.length ca,.l b l.ms.length cb,.l c l.ts.length cc] 47) (by simp) hb;have hz1:w.heap.size<w1.heap.size:=by have:=hb.size;simp at this;omega
  have hB1:Bw w w1:=(bAl _ _).trans (hb.mono (by simp));clear hb;go_wp2_with fail
  refine(ziy _ _ l.ts _ (HL.o.ts.mono hB1)).mono ?_;rintro e w2⟨rfl,hb⟩;have hB2:=hB1.trans (hb.mono hB1.size);clear hb hX1 hz1 hB1;go_wp2_with fail
  go_ret;exact⟨ze HQ.o.symm,hB2⟩
 ·have h1':yB l.ss l.ms=false:=by simpa using h1
  have HQ:Hid (zcv l=false):=by unfold Hid zcv;rw[h1'];rfl
  have HM:Hid (yB l.ss l.ms=false):=h1';clear h1 h1';go_enter Tryz.func86,Tryz.ntmps86;go_wp2_with fail
  refine(zf HM.o (zeE _ _ _ _ l.ss l.ms _ (HL.o.ss.mono (bAl _ _)) (HL.o.ms.mono (bAl _ _)) HF.o.ms)).mono ?_;rintro e w1⟨rfl,hb⟩;have hB1:Bw w w1:=(bAl _ _).trans (hb.mono (by simp));clear hb;go_wp2_with fail
  go_ret;exact⟨ze HQ.o.symm,hB1⟩
theorem zkW (l:Lw)(a b c:OA)(ca cb cc:Nat)(w:World)(hl:jA w l a b c) :
 Calls Tryz.prog 69 #[.agg (l.cells a b c ca cb cc)] w fun e w'=>e=.returned (.bool (zcv l))/\Bw w w':=by
 have HL:Hid (jA w l a b c):=hl;clear hl;unfold Lw.cells
 by_cases h1:yB l.ss l.ms=true
 ·have HQ:Hid (zcv l=zaR l.ts):=by unfold Hid zcv;rw[h1,zme];rfl
  have HM:Hid (jr l.ss l.ms=true):=by unfold Hid;rw[<- zgS];exact h1
  clear h1;go_enter Tryz.func69,Tryz.ntmps69;go_wp2_with fail
  refine(zf HM.o (zeF _ _ _ _ l.ss l.ms _ (HL.o.ss.mono (bAl _ _)) (HL.o.ms.mono (bAl _ _)))).mono ?_;rintro e w1⟨rfl,hb⟩;have hX1:=za (zl w #[.l a l.ss.length ca,.l b l.ms.length cb,.l c l.ts.length cc] 47) (by simp) hb;have hz1:w.heap.size<w1.heap.size:=by have:=hb.size;simp at this;omega
  have hB1:Bw w w1:=(bAl _ _).trans (hb.mono (by simp));clear hb;go_wp2_with fail
  refine(ziM _ _ l.ts _ (HL.o.ts.mono hB1)).mono ?_;rintro e w2⟨rfl,hb⟩;have hB2:=hB1.trans (hb.mono hB1.size);clear hb hX1 hz1 hB1;go_wp2_with fail
  go_ret;exact⟨ze HQ.o.symm,hB2⟩
 ·have h1':yB l.ss l.ms=false:=by simpa using h1
  have HQ:Hid (zcv l=false):=by unfold Hid zcv;rw[h1'];rfl
  have HM:Hid (jr l.ss l.ms=false):=by unfold Hid;rw[<- zgS];exact h1'
  clear h1 h1';go_enter Tryz.func69,Tryz.ntmps69;go_wp2_with fail
  refine(zf HM.o (zeF _ _ _ _ l.ss l.ms _ (HL.o.ss.mono (bAl _ _)) (HL.o.ms.mono (bAl _ _)))).mono ?_;rintro e w1⟨rfl,hb⟩;have hB1:Bw w w1:=(bAl _ _).trans (hb.mono (by simp));clear hb;go_wp2_with fail
  go_ret;exact⟨ze HQ.o.symm,hB1⟩
set_option maxRecDepth 20000 in
theorem zoK (b:Bk)(a0 a1 a2 a3:OA)(c0 c1 c2 c3:Nat)(w:World)(hl:ji w b a0 a1 a2 a3)(ho:zcp w a0 b.os)(hf:b.Few) :
 Calls Tryz.prog 23 #[.agg #[.i b.now,.i b.tick,.i b.given,.l a0 b.os.length c0,.l a1 b.gs.length c1,.l a2 b.ls.length c2,.l a3 b.ps.length c3]] w fun e w'=>∃own d0 d1 d2 d3 e0 e1 e2 e3,e=.returned (.agg #[.i b.now,.i b.tick,.i b.given,.l d0 b.os.length e0,.l d1 b.gs.length e1,.l d2 b.ls.length e2,.l d3 b.ps.length e3])/\BkL (w.heap.size+1+1+1) w'.heap.size w' own b d0 d1 d2 d3/\(zdb (w.heap.size+1+1+1) w' own (.l d2 b.ls.length e2) b.ls/\zeW (w.heap.size+1+1+1) w' own (.l d3 b.ps.length e3) b.ps)/\Bw w w':=by
 obtain⟨i0,hi0,hzi0,hsi0,hbi0⟩:=info_parts Tryz.zqK;obtain⟨i1,hi1,hzi1,hsi1,hbi1⟩:=info_parts Tryz.zq5;obtain⟨i2,hi2,hzi2,hsi2,hbi2⟩:=info_parts Tryz.zhq;obtain⟨i3,hi3,hzi3,hsi3,hbi3⟩:=info_parts Tryz.zqN;have HI0:=zbX hi0 hzi0 hsi0 hbi0;have HI1:=zbX hi1 hzi1 hsi1 hbi1;have HI2:=zbX hi2 hzi2 hsi2 hbi2;have HI3:=zbX hi3 hzi3 hsi3 hbi3;have HL:=hid hl;have HO:=hid ho;have HF:=hid hf;have hno:=hf.os.1;clear hl hf ho hi0 hzi0 hsi0 hbi0 hi1 hzi1 hsi1 hbi1 hi2 hzi2 hsi2 hbi2 hi3 hzi3 hsi3 hbi3;have k0:=zob w (.cells (bC b a0 a1 a2 a3 c0 c1 c2 c3) 40) (.cells bZ 40) (.cells #[.i b.now,.i b.tick,.i b.given,.l none 0 0,.l none 0 0,.l none 0 0,.l none 0 0] 40);have hB0:=below3' w (.cells (bC b a0 a1 a2 a3 c0 c1 c2 c3) 40) (.cells bZ 40) (.cells #[.i b.now,.i b.tick,.i b.given,.l none 0 0,.l none 0 0,.l none 0 0,.l none 0 0] 40);obtain⟨W0,hW0⟩:=xN (((w.alloc (.cells (bC b a0 a1 a2 a3 c0 c1 c2 c3) 40)).alloc (.cells bZ 40)).alloc (.cells #[.i b.now,.i b.tick,.i b.given,.l none 0 0,.l none 0 0,.l none 0 0,.l none 0 0] 40));have hz0:W0.heap.size=w.heap.size+1+1+1:=by rw[hW0];simp
 go_enter Tryz.func23,Tryz.ntmps23;go_wp2_with fail
 rw[<- hW0]at k0 hB0 ⊢;clear hW0;have HB0:=hid hB0;have HK0:=ql k0.1 k0.2.1;have HX0:=hid k0.2.2;clear hB0 k0
 go_loopw [4] (fun iv wr=>∃(k:Nat) (v:Value) (own:Nat->Lb),k<=b.os.length/\iv=.i k/\Hid (wr.heap[w.heap.size+1+1]?=some (.cells #[.i b.now,.i b.tick,.i b.given,v,.l none 0 0,.l none 0 0,.l none 0 0] 40)/\zhB (w.heap.size+1+1+1) wr own v (b.os.take k)/\(∀q,q<(w.heap.size+1+1+1)->own q=(9,0,0))/\Below (w.heap.size+1+1) W0 wr)) (fun iv _=>b.os.length-(intOf iv).toNat)
 case atStart=>exact⟨0,_,fun _=>(9,0,0),Nat.zero_le _,rfl,HX0.o,⟨[],by simp,World.ownsRow_nil _ _ _ _,fun k hk=>by simp[Value.ownBlock]at hk,fun i hi=>absurd hi (by simp)⟩,fun _ _=>rfl,bRf _ _⟩
 case round=>
  obtain⟨k,v,own,hk,rfl,HQ⟩:=hrel;have hBr:Bw w wr:=HB0.o.trans (HQ.o.2.2.2.mono (by omega));have hzr:w.heap.size+1+1<wr.heap.size:=(gES HQ.o.1).1;have kP:=(HQ.o.2.2.2.block w.heap.size (by omega)).trans HK0.o.1;have cP:=fun j=>cell_of_block (o:=j) kP
  by_cases hlt:k<b.os.length
  ·obtain⟨ob,off,g0,g1,vc0,vc1,rfl,hob,hsm,hi0,hi1,d0,d1,d2,d3,d4,d5,d6⟩:=HO.o.load hBr k hlt
   have hltI:(k:Int)<(b.os.length:Int):=by omega
   have cX:=fun j=>cell_of_block (o:=j) HQ.o.1
   have fX:=fun j=>zh (o:=j) HQ.o.1
   have hS0:(fun w':World=>(∀j,w'.cell? (aD w.heap.size j)=((bC b (some (aD ob off)) a1 a2 a3 c0 c1 c2 c3):AV)[j]?)/\w'.cell? (aD ob (off+k*7))=some (.s b.os[k].kd)/\w'.cell? (aD ob (off+k*7+1))=some (.s b.os[k].nm)/\w'.cell? (aD ob (off+k*7+2))=some (.s b.os[k].tm)/\w'.cell? (aD ob (off+k*7+3))=some (.l (some (aD g0 0)) b.os[k].vs.length vc0)/\w'.cell? (aD ob (off+k*7+4))=some (.bool b.os[k].en)/\w'.cell? (aD ob (off+k*7+5))=some (.l (some (aD g1 0)) b.os[k].hs.length vc1)/\w'.cell? (aD ob (off+k*7+6))=some (.i b.os[k].vr)) wr.drew:=⟨cP,d0,d1,d2,d3,d4,d5,d6⟩
   have HSS:Hid (∀W,Below (w.heap.size+1) wr W->(fun w':World=>(∀j,w'.cell? (aD w.heap.size j)=((bC b (some (aD ob off)) a1 a2 a3 c0 c1 c2 c3):AV)[j]?)/\w'.cell? (aD ob (off+k*7))=some (.s b.os[k].kd)/\w'.cell? (aD ob (off+k*7+1))=some (.s b.os[k].nm)/\w'.cell? (aD ob (off+k*7+2))=some (.s b.os[k].tm)/\w'.cell? (aD ob (off+k*7+3))=some (.l (some (aD g0 0)) b.os[k].vs.length vc0)/\w'.cell? (aD ob (off+k*7+4))=some (.bool b.os[k].en)/\w'.cell? (aD ob (off+k*7+5))=some (.l (some (aD g1 0)) b.os[k].hs.length vc1)/\w'.cell? (aD ob (off+k*7+6))=some (.i b.os[k].vr)) W):=fun W hW=>⟨fun j=>(hW.cell (p:=(aD w.heap.size j)) (by show w.heap.size<_;omega)).trans (cP j),by
    have hob2:ob<w.heap.size+1:=by omega
    exact⟨(hW.cell (p:=(aD ob _)) hob2).trans d0,(hW.cell (p:=(aD ob _)) hob2).trans d1,(hW.cell (p:=(aD ob _)) hob2).trans d2,(hW.cell (p:=(aD ob _)) hob2).trans d3,(hW.cell (p:=(aD ob _)) hob2).trans d4,(hW.cell (p:=(aD ob _)) hob2).trans d5,(hW.cell (p:=(aD ob _)) hob2).trans d6⟩⟩
   have HII:=zbQ hsm hi0 hi1;have hob2:ob<wr.heap.size:=nLt hob hBr.size;clear hsm hi0 hi1;go_wp2_with fail
   clear cP d0 d1 d2 d3 d4 d5 d6;have cXd:wr.drew.cell? (aD (w.heap.size+1+1) 3)=some v:=cX 3;have hBd:Below (w.heap.size+1+1) W0 wr.drew:=HQ.o.2.2.2.drew;have hBdd:Bw wr wr.drew:=(bRf _ _).drew;refine zcT (fun A A' w'=>∃u21 u22 u23 u24 u25 u26 u27 u28 u29 u30 u31 v' own',A'=(((((((((((A.put (some 21) u21).put (some 22) u22).put (some 23) u23).put (some 24) u24).put (some 25) u25).put (some 26) u26).put (some 27) u27).put (some 28) u28).put (some 29) u29).put (some 30) u30).put (some 31) u31)/\w'.heap[w.heap.size+1+1]?=some (.cells #[.i b.now,.i b.tick,.i b.given,v',.l none 0 0,.l none 0 0,.l none 0 0] 40)/\zhB (w.heap.size+1+1+1) w' own' v' (b.os.take (k+1))/\(∀q,q<(w.heap.size+1+1+1)->own' q=(9,0,0))/\Below (w.heap.size+1+1) W0 w') ?_ ?_
   ·refine wp_region_held_drew (S:=fun w'=>(∀j,w'.cell? (aD w.heap.size j)=((bC b (some (aD ob off)) a1 a2 a3 c0 c1 c2 c3):AV)[j]?)/\w'.cell? (aD ob (off+k*7))=some (.s b.os[k].kd)/\w'.cell? (aD ob (off+k*7+1))=some (.s b.os[k].nm)/\w'.cell? (aD ob (off+k*7+2))=some (.s b.os[k].tm)/\w'.cell? (aD ob (off+k*7+3))=some (.l (some (aD g0 0)) b.os[k].vs.length vc0)/\w'.cell? (aD ob (off+k*7+4))=some (.bool b.os[k].en)/\w'.cell? (aD ob (off+k*7+5))=some (.l (some (aD g1 0)) b.os[k].hs.length vc1)/\w'.cell? (aD ob (off+k*7+6))=some (.i b.os[k].vr)) (by kernel_rfl) hS0 (fun H_=>?_)
    refine tG 0 ?_ (hQ:=fun _ _ _ h=>by cases h.1);refine tG 2 ?_ (hQ:=fun _ _ _ h=>by cases h.1);refine tG 3 ?_ (hQ:=fun _ _ _ h=>by cases h.1);refine tG 4 ?_ (hQ:=fun _ _ _ h=>by cases h.1);refine tG 5 ?_ (hQ:=fun _ _ _ h=>by cases h.1);refine tG 6 ?_ (hQ:=fun _ _ _ h=>by cases h.1);refine zoU (i:=1) (j:=7) rfl rfl (fun K hK=>?_) (fun K hK=>?_)
    focus
     go_simp
     refine hK.out _ _ hS0 (fun H_=>?_);clear hK K
     (try simp only[Act.put,sA,s0,sS])
     refine cH 7 rfl fun K hK=>?_
     go_simp
     refine(zeu b.os[k] g0 0 g1 0 vc0 vc1 wr.drew ⟨HII.o.1,HII.o.2.1.mono hBdd,HII.o.2.2.mono hBdd⟩ (HF.o.os.2 k hlt).1 (HF.o.os.2 k hlt).2).mono ?_;rintro e w1⟨f0,h0,f1,h1,m,rfl,ht0,hm,hsm1,ht1,hb1d⟩;have hb1:Bw wr w1:=hBdd.trans hb1d;have hS1:=HSS.o w1 (hb1.mono (by omega));have hS2:=HSS.o _ ((hb1.alloc hb1.size (.cells #[.s b.os[k].kd,.s b.os[k].nm,.s b.os[k].tm,.l f0 b.os[k].vs.length h0,.bool b.os[k].en,.l f1 b.os[k].hs.length h1,.i b.os[k].vr] 121)).mono (by omega));have cX1:w1.cell? (aD (w.heap.size+1+1) 3)=some v:=(hb1.cell (p:=(aD (w.heap.size+1+1) 3)) hzr).trans cXd;have cX2:(w1.alloc (.cells #[.s b.os[k].kd,.s b.os[k].nm,.s b.os[k].tm,.l f0 b.os[k].vs.length h0,.bool b.os[k].en,.l f1 b.os[k].hs.length h1,.i b.os[k].vr] 121)).cell? (aD (w.heap.size+1+1) 3)=some v:=((hb1.alloc hb1.size _).cell (p:=(aD (w.heap.size+1+1) 3)) hzr).trans cXd
     (try go_wp2_with fail)
     refine hK.out _ _ hS1 (fun H_=>?_);clear hK K
     (try simp only[Act.put,sA,s0,sS])
     refine cH 8 rfl fun K hK=>?_
     go_simp
     refine hK.out _ _ hS2 (fun H_=>?_);clear hK K
     (try simp only[Act.put,sA,s0,sS])
    rotate_left
    focus
     go_simp
     refine(zeu b.os[k] g0 0 g1 0 vc0 vc1 wr.drew ⟨HII.o.1,HII.o.2.1.mono hBdd,HII.o.2.2.mono hBdd⟩ (HF.o.os.2 k hlt).1 (HF.o.os.2 k hlt).2).mono ?_;rintro e w1⟨f0,h0,f1,h1,m,rfl,ht0,hm,hsm1,ht1,hb1d⟩;have hb1:Bw wr w1:=hBdd.trans hb1d;have hS1:=HSS.o w1 (hb1.mono (by omega));have hS2:=HSS.o _ ((hb1.alloc hb1.size (.cells #[.s b.os[k].kd,.s b.os[k].nm,.s b.os[k].tm,.l f0 b.os[k].vs.length h0,.bool b.os[k].en,.l f1 b.os[k].hs.length h1,.i b.os[k].vr] 121)).mono (by omega));have cX1:w1.cell? (aD (w.heap.size+1+1) 3)=some v:=(hb1.cell (p:=(aD (w.heap.size+1+1) 3)) hzr).trans cXd;have cX2:(w1.alloc (.cells #[.s b.os[k].kd,.s b.os[k].nm,.s b.os[k].tm,.l f0 b.os[k].vs.length h0,.bool b.os[k].en,.l f1 b.os[k].hs.length h1,.i b.os[k].vr] 121)).cell? (aD (w.heap.size+1+1) 3)=some v:=((hb1.alloc hb1.size _).cell (p:=(aD (w.heap.size+1+1) 3)) hzr).trans cXd
     (try go_wp2_with fail)
     refine hK.out _ _ hS1 (fun H_=>?_);clear hK K
     (try simp only[Act.put,sA,s0,sS])
     refine zoU (i:=1) (j:=8) rfl rfl (fun K hK=>?_) (fun K hK=>?_)
     focus
      go_simp
      refine hK.out _ _ hS1 (fun H_=>?_);clear hK K
      (try simp only[Act.put,sA,s0,sS])
      refine cH 8 rfl fun K hK=>?_
      go_simp
      refine hK.out _ _ hS2 (fun H_=>?_);clear hK K
      (try simp only[Act.put,sA,s0,sS])
     rotate_left
     focus
      go_simp
      refine hK.out _ _ hS2 (fun H_=>?_);clear hK K
      (try simp only[Act.put,sA,s0,sS])
      refine cH 1 rfl fun K hK=>?_
      go_simp
      refine hK.out _ _ hS2 (fun H_=>?_);clear hK K
      (try simp only[Act.put,sA,s0,sS])
    all_goals
     refine cH 9 rfl fun K hK=>?_
     obtain⟨ps,hps,hown,hlab,hent⟩:=HQ.o.2.1;have hown1:w1.ownsRow (w.heap.size+1+1+1) 121 7 v ps.length (ps.flatMap ObP.row):=yC hown hb1;have hpl:ps.length=(b.os.take k).length:=by rw[<- hps,List.length_map]
     rw[List.length_take]at hpl;have HPL:Hid (ps.length<=1048576):=by show _<=_;omega
     clear hpl;have hz1:=hb1.size;refine zhk _ (.tmp 22) (.tmp 29) 35 rfl (w.heap.size+1+1+1) 121 i0 (.agg #[.s ByteArray.empty,.s ByteArray.empty,.s ByteArray.empty,.l none 0 0,.bool false,.l none 0 0,.i 0]) 7 112 Tryz.underlying35 HI0.o.1 HI0.o.2.1 HI0.o.2.2.1 HI0.o.2.2.2 rfl (by decide) _ _ _ rfl (hown1.alloc _) (aD w1.heap.size 0) 1 1 [.s b.os[k].kd,.s b.os[k].nm,.s b.os[k].tm,.l f0 b.os[k].vs.length h0,.bool b.os[k].en,.l f1 b.os[k].hs.length h1,.i b.os[k].vr] rfl rfl (zeV _ _ _) (by intro u hu;simp at hu;rcases hu with rfl|rfl|rfl|rfl|rfl|rfl|rfl <;> rfl) (by have:=HPL.o;unfold maxLen;omega) (by have:=HPL.o;omega) (by simp;omega) ?_;intro v' w4 hown' hgr hat;obtain⟨va,vc,rfl⟩:=jm hown';obtain⟨own',ho1,ho2⟩:=zhB.snoc hps hown hlab hent (by omega) hb1 ht0 hm hsm1 ht1 hgr hown' hat;have hvb:∀z,v.ownBlock=some z->(w.heap.size+1+1+1)<=z:=fun z hz=>(hown.lt z hz).1
     have kX4:w4.heap[w.heap.size+1+1]?=some (.cells #[.i b.now,.i b.tick,.i b.given,v,.l none 0 0,.l none 0 0,.l none 0 0] 40):=(hgr.block _ (by simp;omega) (fun e=>by have h9:=hlab _ e.symm;rw[HQ.o.2.2.1 _ (by omega)]at h9;simp at h9)).trans (((hb1.alloc hb1.size _).block _ hzr).trans HQ.o.1);have hB4:Below (w.heap.size+1+1) wr w4:=(((hb1.alloc hb1.size _).mono (by omega))).grown hgr (by simp;omega) (fun z hz=>by have:=hvb z hz;omega);have hS4:=HSS.o w4 (hB4.mono (by omega));have cX4:=fun j=>cell_of_block (o:=j) kX4
     have fX4:=fun j=>zh (o:=j) kX4
     have hz4:w.heap.size+1+1<w4.heap.size:=(gES kX4).1;have hS5:=HSS.o (w4.setCell (aD (w.heap.size+1+1) 3) (.l va (ps.length+1) vc)) ((hB4.setCell (Nat.le_refl _) (.l va (ps.length+1) vc)).mono (by omega));refine hK.out _ _ hS4 (fun H_=>?_);clear hK K
     (try simp only[Act.put,sA,s0,sS])
     refine tG 10 ?_ (hQ:=fun _ _ _ h=>by cases h.1);refine cH 11 rfl fun K hK=>?_
     go_simp
     refine hK.out _ _ hS5 (fun H_=>?_);clear hK K
     (try simp only[Act.put,sA,s0,sS])
     refine wpAnyH_done (by kernel_rfl) ?_ _;refine⟨rfl,_,_,_,_,_,_,_,_,_,_,_,_,own',rfl,zi kX4 _,?_,fun z hz=>(ho1 z (by omega)).trans (HQ.o.2.2.1 z hz),HQ.o.2.2.2.trans (hB4.setCell (Nat.le_refl _) (.l va (ps.length+1) vc))⟩;rw[tSe hlt];exact ho2.left ((Left.refl (fun z=>z=w.heap.size+1+1) w4).set rfl 3 (.l va (ps.length+1) vc)) (fun z h1 h2=>by subst h2;rw[ho1 _ (by omega),HQ.o.2.2.1 _ (by omega)]at h1;simp at h1)
   ·rintro A' w'⟨u21,u22,u23,u24,u25,u26,u27,u28,u29,u30,u31,v',own',rfl,hx',hr',hw',hB'⟩
    have HQ':=zbX hx' hr' hw' hB';clear hx' hr' hw' hB' HQ HSS HII hS0 cX fX cXd hBd hBdd
    (try simp only[Act.put,sA,s0,sS])
    go_wp2_with fail
    exact⟨⟨k+1,v',own',by omega,by go_num,HQ'.out⟩,zq hlt⟩
  ·have e:k=b.os.length:=by omega
   subst e;obtain⟨hx,hr,hw,hB⟩:=HQ.o;rw[tOl (Nat.le_refl _)]at hr;obtain⟨d0,e0,rfl,hn⟩:=hr.lie;have HE:=zbX hx hn hw hB;clear HQ hx hr hn hw hB hlt hk;go_wp2_with fail
   go_loopw [5] (fun iv wr=>∃(k:Nat) (v:Value) (own:Nat->Lb),k<=b.gs.length/\iv=.i k/\Hid (wr.heap[w.heap.size+1+1]?=some (.cells #[.i b.now,.i b.tick,.i b.given,.l d0 b.os.length e0,v,.l none 0 0,.l none 0 0] 40)/\zbv (w.heap.size+1+1+1) wr own d0 b.os.length (zaW b.os)/\zhx (w.heap.size+1+1+1) wr own v (b.gs.take k)/\(∀q,q<(w.heap.size+1+1+1)->own q=(9,0,0))/\Below (w.heap.size+1+1) W0 wr)) (fun iv _=>b.gs.length-(intOf iv).toNat)
   case atStart=>exact⟨0,_,own,Nat.zero_le _,rfl,HE.o.1,HE.o.2.1,⟨[],by simp,World.ownsRow_nil _ _ _ _,fun k hk=>by simp[Value.ownBlock]at hk,fun i hi=>absurd hi (by simp)⟩,HE.o.2.2.1,HE.o.2.2.2⟩
   case round=>
    clear HE;obtain⟨k,v,own,hk,rfl,HQ⟩:=hrel;have hBr:Bw w wr:=HB0.o.trans (HQ.o.2.2.2.2.mono (by omega));have hzr:w.heap.size+1+1<wr.heap.size:=(gES HQ.o.1).1;have kP:=(HQ.o.2.2.2.2.block w.heap.size (by omega)).trans HK0.o.1;have cP:=fun j=>cell_of_block (o:=j) kP
    have hng:=HF.o.gs.1
    by_cases hlt:k<b.gs.length
    ·obtain⟨ob,off,va,vc,rfl,hob,hsm,hi0,d0',d1,d2,d3,d4,d5,d6⟩:=HL.o.gs.load hBr k hlt
     have hltI:(k:Int)<(b.gs.length:Int):=by omega
     have hob2:ob<wr.heap.size:=nLt hob hBr.size;have HI:=hid hi0;have HBa:=hid ((bRf wr.heap.size wr).alloc (Nat.le_refl _) (.cells #[.i b.gs[k].no,.s b.gs[k].to,.s b.gs[k].gb,.l va b.gs[k].r.vs.length vc,.s b.gs[k].r.kd,.s b.gs[k].r.tm,.s b.gs[k].r.px] 125));clear hi0 hsm;go_wp2_with fail
     clear d0' d1 d2 d3 d4 d5 d6 cP;refine(zod b.gs[k].r va vc _ (HI.o.mono HBa.o) (HF.o.gs.2 k hlt)).mono ?_;rintro e w1⟨f0,h0,rfl,ht0,hb1⟩;have kG:=(hb1.block wr.heap.size (by simp)).trans (alloc_at wr (.cells #[.i b.gs[k].no,.s b.gs[k].to,.s b.gs[k].gb,.l va b.gs[k].r.vs.length vc,.s b.gs[k].r.kd,.s b.gs[k].r.tm,.s b.gs[k].r.px] 125));have hz1:wr.heap.size<w1.heap.size:=(gES kG).1;have hB1:Bw wr w1:=HBa.o.trans (hb1.mono (by simp));have hBW:Bw wr ((((w1.setCell (aD wr.heap.size 3) (.l f0 b.gs[k].r.vs.length h0)).setCell (aD wr.heap.size 4) (.s b.gs[k].r.kd)).setCell (aD wr.heap.size 5) (.s b.gs[k].r.tm)).setCell (aD wr.heap.size 6) (.s b.gs[k].r.px)):=(((hB1.setCell (Nat.le_refl _) _).setCell (Nat.le_refl _) _).setCell (Nat.le_refl _) _).setCell (Nat.le_refl _) _
     have htW:yx (wr.heap.size+1) ((((w1.setCell (aD wr.heap.size 3) (.l f0 b.gs[k].r.vs.length h0)).setCell (aD wr.heap.size 4) (.s b.gs[k].r.kd)).setCell (aD wr.heap.size 5) (.s b.gs[k].r.tm)).setCell (aD wr.heap.size 6) (.s b.gs[k].r.px)) f0 b.gs[k].r.vs:=by
      have ht1:yx (wr.heap.size+1) w1 f0 b.gs[k].r.vs:=by simpa using ht0
      exact(((ht1.setCell _ (Nat.lt_succ_self _) _).setCell _ (Nat.lt_succ_self _) _).setCell _ (Nat.lt_succ_self _) _).setCell _ (Nat.lt_succ_self _) _
     have kGW:=zi (o:=6) (zi (o:=5) (zi (o:=4) (zi (o:=3) kG (.l f0 b.gs[k].r.vs.length h0)) (.s b.gs[k].r.kd)) (.s b.gs[k].r.tm)) (.s b.gs[k].r.px);have cG:=fun j=>cell_of_block (o:=j) kG
     have fG:=fun j=>zh (o:=j) kG
     have cX1:∀j,w1.cell? (aD (w.heap.size+1+1) j)=(#[.i b.now,.i b.tick,.i b.given,.l d0 b.os.length e0,v,.l none 0 0,.l none 0 0]:AV)[j]?:=fun j=>(hB1.cell (p:=(aD (w.heap.size+1+1) j)) hzr).trans (cell_of_block HQ.o.1)
     have hxg:wr.heap.size≠w.heap.size+1+1:=by omega
     have HBW:=zbQ hBW htW kGW;have hzw:((((w1.setCell (aD wr.heap.size 3) (.l f0 b.gs[k].r.vs.length h0)).setCell (aD wr.heap.size 4) (.s b.gs[k].r.kd)).setCell (aD wr.heap.size 5) (.s b.gs[k].r.tm)).setCell (aD wr.heap.size 6) (.s b.gs[k].r.px)).heap.size=w1.heap.size:=by simp[World.setCell]
     have kXW:((((w1.setCell (aD wr.heap.size 3) (.l f0 b.gs[k].r.vs.length h0)).setCell (aD wr.heap.size 4) (.s b.gs[k].r.kd)).setCell (aD wr.heap.size 5) (.s b.gs[k].r.tm)).setCell (aD wr.heap.size 6) (.s b.gs[k].r.px)).heap[w.heap.size+1+1]?=some (.cells #[.i b.now,.i b.tick,.i b.given,.l d0 b.os.length e0,v,.l none 0 0,.l none 0 0] 40):=(hBW.block _ hzr).trans HQ.o.1;have HXW:=hid kXW;clear ht0 hb1 hB1 hBW htW kG kGW kXW HBa HI;obtain⟨W1,hW1⟩:=xN ((((w1.setCell (aD wr.heap.size 3) (.l f0 b.gs[k].r.vs.length h0)).setCell (aD wr.heap.size 4) (.s b.gs[k].r.kd)).setCell (aD wr.heap.size 5) (.s b.gs[k].r.tm)).setCell (aD wr.heap.size 6) (.s b.gs[k].r.px));rw[<- hW1]at HBW hzw HXW
     go_wp2_with (at_builtin;refine zbB ?_)
     rw[<- hW1];clear hW1 cG fG cX1
     show wpList _ _ _ _ _ _
     obtain⟨ps,hps,hown,hlab,hent⟩:=HQ.o.2.2.1;have HPS:=zbX hps hown hlab hent;have hpl:ps.length=(b.gs.take k).length:=by rw[<- hps,List.length_map]
     rw[List.length_take]at hpl;have HPL:Hid (ps.length<=1048576):=by show _<=_;omega
     have hownW:=yC hown HBW.o.1;clear hpl hps hown hlab hent;refine wpList_append_own_at _ rfl (.tmp 49) (.tmp 51) 36 rfl (w.heap.size+1+1+1) 125 i1 (.agg #[.i 0,.s ByteArray.empty,.s ByteArray.empty,.l none 0 0,.s ByteArray.empty,.s ByteArray.empty,.s ByteArray.empty]) 7 112 Tryz.underlying36 HI1.o.1 HI1.o.2.1 HI1.o.2.2.1 HI1.o.2.2.2 rfl (by decide) _ _ _ rfl (hownW.alloc _) (aD w1.heap.size 0) 1 1 [.i b.gs[k].no,.s b.gs[k].to,.s b.gs[k].gb,.l f0 b.gs[k].r.vs.length h0,.s b.gs[k].r.kd,.s b.gs[k].r.tm,.s b.gs[k].r.px] rfl rfl (by rw[<- hzw];exact zeV _ _ _) (by intro u hu;simp at hu;rcases hu with rfl|rfl|rfl|rfl|rfl|rfl|rfl <;> rfl) (by have:=HPL.o;unfold maxLen;omega) (by have:=HPL.o;omega) (by simp;omega) ?_;intro v' w4 hown' hgr _ hat;obtain⟨va',vc',rfl⟩:=jm hown';obtain⟨own',ho1,ho2⟩:=zhx.snoc HPS.o.1 HPS.o.2.1 HPS.o.2.2.1 HPS.o.2.2.2 (by omega) HBW.o.1 (HBW.o.2.1.low (by omega)) hgr hown' hat;have hvb:∀z,v.ownBlock=some z->(w.heap.size+1+1+1)<=z/\z<wr.heap.size:=fun z hz=>HPS.o.2.1.lt z hz
     have hL4:Left (fun z=>v.ownBlock=some z) wr w4:=(Left.of_below _ (HBW.o.1.alloc HBW.o.1.size _)).grown hgr (fun _ h=>h);have hwo:∀z,z<(w.heap.size+1+1+1)->own' z=(9,0,0):=fun z hz=>(ho1 z (by omega)).trans (HQ.o.2.2.2.1 z hz)
     have hob4:zbv (w.heap.size+1+1+1) w4 own' d0 b.os.length (zaW b.os):=(HQ.o.2.1.own (fun z hz _=>ho1 z hz)).left hL4 (fun z h1 h2=>by rw[ho1 z (hvb z h2).2,HPS.o.2.2.1 z h2]at h1;simp at h1);have kX4:w4.heap[w.heap.size+1+1]?=some (.cells #[.i b.now,.i b.tick,.i b.given,.l d0 b.os.length e0,v,.l none 0 0,.l none 0 0] 40):=(hL4.out _ hzr (fun h2=>by have:=(hvb _ h2).1;omega)).trans HQ.o.1;have hB4:Below (w.heap.size+1+1) wr w4:=hL4.below (fun z hz h2=>by have:=(hvb z h2).1;omega) (by omega);have hsx:=(Left.refl (fun z=>z=w.heap.size+1+1) w4).set (b:=w.heap.size+1+1) rfl 4 (.l va' (ps.length+1) vc')
     have HE4:Hid ((w4.setCell (aD (w.heap.size+1+1) 4) (.l va' (ps.length+1) vc')).heap[w.heap.size+1+1]?=some (.cells #[.i b.now,.i b.tick,.i b.given,.l d0 b.os.length e0,.l va' (ps.length+1) vc',.l none 0 0,.l none 0 0] 40)/\zbv (w.heap.size+1+1+1) (w4.setCell (aD (w.heap.size+1+1) 4) (.l va' (ps.length+1) vc')) own' d0 b.os.length (zaW b.os)/\zhx (w.heap.size+1+1+1) (w4.setCell (aD (w.heap.size+1+1) 4) (.l va' (ps.length+1) vc')) own' (.l va' (ps.length+1) vc') (b.gs.take (k+1))/\(∀q,q<(w.heap.size+1+1+1)->own' q=(9,0,0))/\Below (w.heap.size+1+1) W0 (w4.setCell (aD (w.heap.size+1+1) 4) (.l va' (ps.length+1) vc'))):=by
      refine⟨zi kX4 _,hob4.left hsx (fun z h1 h2=>by subst h2;rw[hwo _ (by omega)]at h1;simp at h1),?_,hwo,HQ.o.2.2.2.2.trans (hB4.setCell (Nat.le_refl _) _)⟩;rw[tSe hlt];exact ho2.left hsx (fun z h1 h2=>by subst h2;rw[hwo _ (by omega)]at h1;simp at h1)
     have cX4:=fun j=>cell_of_block (o:=j) kX4
     have fX4:=fun j=>zh (o:=j) kX4
     have hz4:w.heap.size+1+1<w4.heap.size:=(gES kX4).1;clear ho1 ho2 hL4 hwo hob4 kX4 hB4 hsx hown' hgr hat hownW HPS HBW HXW hzw HQ;go_wp2_with fail
     exact⟨⟨k+1,_,own',by omega,by go_num,HE4.o⟩,zq hlt⟩
    ·have e:k=b.gs.length:=by omega
     subst e;obtain⟨hx,hno1,hr,hw,hB⟩:=HQ.o;rw[tOl (Nat.le_refl _)]at hr;obtain⟨d1,e1,rfl,hn⟩:=hr.lie;have HN2:=zbX hno1 hn hw hB;have HW2:=hid hw;have kR:=(hB.block (w.heap.size+1) (by omega)).trans HK0.o.2;have HX2:=ql hx kR;have cX:=fun j=>cell_of_block (o:=j) hx
     have HBr:=hid hBr;clear HQ hr hn hno1 hw hB hlt hk kP kR hx hBr hng
     go_wp2_with (at_builtin;refine zbB ?_)
     clear cX cP
     show wpList _ _ _ _ _ _
     refine zes rfl (.tmp 55) (.tmp 57) 37 rfl 69 i2 (.agg #[.s ByteArray.empty,.s ByteArray.empty,.i 0,.i 0]) 4 48 Tryz.underlying37 HI2.o.1 HI2.o.2.1 HI2.o.2.2.1 HI2.o.2.2.2 rfl (by decide) rfl a2 b.ls.length c2 (b.ls.flatMap Lg.row) rfl (zcf _ 4 (fun _=>rfl) _) (fun h=>(HL.o.ls.mono HBr.o).from h) zcC (by have:=HF.o.ls;unfold maxLen;omega) (by have:=HF.o.ls;omega) ?_;intro v2 w3 hown hb3;obtain⟨d2,e2,rfl⟩:=jm hown;obtain⟨own3,he3⟩:∃own3:Nat->Lb,own3=fun k=>if k<wr.heap.size then own k else (2,0,0):=⟨_,rfl⟩
     have hw3:∀k,k<wr.heap.size->own3 k=own k:=fun k hk=>by rw[he3];exact if_pos hk
     have hR3:zdb wr.heap.size w3 own3 (.l d2 b.ls.length e2) b.ls:=⟨hown,fun k hk=>by rw[he3];exact if_neg (by have:=(hown.lt k hk).1;omega)⟩
     obtain⟨d2',e2',h9,hn3⟩:=hR3.lie
     cases h9
     have HRL:=hid (hR3.low (lo':=(w.heap.size+1+1+1)) (by omega));have HW3:Hid (∀k,k<(w.heap.size+1+1+1)->own3 k=(9,0,0)):=fun k hk=>(hw3 k (by omega)).trans (HW2.o k hk)
     have hz3:=hb3.size;have HN3:Hid (zbv (w.heap.size+1+1+1) w3 own3 d0 b.os.length (zaW b.os)/\zck (w.heap.size+1+1+1) w3 own3 d1 b.gs.length (zcl b.gs)/\zco (w.heap.size+1+1+1) w3 own3 d2 b.ls.length (zet b.ls)):=⟨(HN2.o.1.own (fun k hk _=>hw3 k hk)).mono hb3,(HN2.o.2.1.own (fun k hk _=>hw3 k hk)).mono hb3,hn3.low (by omega)⟩
     have kX:=(hb3.block _ hzr).trans HX2.o.1;have kR:=(hb3.block (w.heap.size+1) (by omega)).trans HX2.o.2;have kP:=(hb3.block w.heap.size (by omega)).trans ((HN2.o.2.2.2.block w.heap.size (by omega)).trans HK0.o.1);have HB3:=hid (HBr.o.trans (hb3.mono HBr.o.size));clear hR3 hn3 hw3 he3 hown hb3 HN2 HW2 HX2;have cX:=fun j=>cell_of_block (o:=j) kX
     have fX:=fun j=>zh (o:=j) kX
     have hzz3:w.heap.size+1+1<w3.heap.size:=by omega
     have kX1:=zi (o:=5) kX (.l d2 b.ls.length e2);have kR1:=(zD (w:=w3) (o:=5) (v:=.l d2 b.ls.length e2) (show w.heap.size+1≠w.heap.size+1+1 by omega)).trans kR;have kP1:=(zD (w:=w3) (o:=5) (v:=.l d2 b.ls.length e2) (show w.heap.size≠w.heap.size+1+1 by omega)).trans kP;have HB3':=hid (HB3.o.setCell (p:=(aD (w.heap.size+1+1) 5)) (by show w.heap.size<=w.heap.size+1+1;omega) (.l d2 b.ls.length e2));have HK3:=ql kX1 kR1;have hLs:=(Left.refl (fun k=>k=w.heap.size+1+1) w3).set (b:=w.heap.size+1+1) rfl 5 (.l d2 b.ls.length e2);have HN3':=zbQ (HN3.o.1.left hLs (fun k h1 h2=>by subst h2;rw[HW3.o _ (by omega)]at h1;simp at h1)) (HN3.o.2.1.left hLs (fun k h1 h2=>by subst h2;rw[HW3.o _ (by omega)]at h1;simp at h1)) (HN3.o.2.2.left hLs (fun k h1 h2=>by subst h2;rw[HW3.o _ (by omega)]at h1;simp at h1));have HRL':=hid (HRL.o.left hLs (fun k h1 h2=>by subst h2;rw[HW3.o _ (by omega)]at h1;simp at h1));have hsz3:(w3.setCell (aD (w.heap.size+1+1) 5) (.l d2 b.ls.length e2)).heap.size=w3.heap.size:=World.size_setCell _ _ _;have cXX:=fun j=>cell_of_block (o:=j) kX1
     have cPP:=fun j=>cell_of_block (o:=j) kP1
     clear kX kR kX1 kR1 hLs kP kP1
     go_wp2_with (at_builtin;refine zbB ?_)
     generalize w3.setCell (aD (w.heap.size+1+1) 5) (.l d2 b.ls.length e2)=W3 at *
     clear cX fX HB3 HN3 cXX cPP
     show wpList _ _ _ _ _ _
     refine zes rfl (.tmp 61) (.tmp 63) 38 rfl 142 i3 (.agg #[.s ByteArray.empty,.s ByteArray.empty,.s ByteArray.empty,.i 0,.i 0]) 5 64 Tryz.underlying38 HI3.o.1 HI3.o.2.1 HI3.o.2.2.1 HI3.o.2.2.2 rfl (by decide) rfl a3 b.ps.length c3 (b.ps.flatMap Pu.row) rfl (zcf _ 5 (fun _=>rfl) _) (fun h=>(HL.o.ps.mono HB3'.out).from h) zpp (by have:=HF.o.ps;unfold maxLen;omega) (by have:=HF.o.ps;omega) ?_;intro v3 w4 hown hb4;obtain⟨d3,e3,rfl⟩:=jm hown;obtain⟨own4,he4⟩:∃own4:Nat->Lb,own4=fun k=>if k<W3.heap.size then own3 k else if k<w4.heap.size then (3,0,0) else (9,0,0):=⟨_,rfl⟩
     have hw4:∀k,k<W3.heap.size->own4 k=own3 k:=fun k hk=>by rw[he4];exact if_pos hk
     have hR4:zeW W3.heap.size w4 own4 (.l d3 b.ps.length e3) b.ps:=⟨hown,fun k hk=>by have h8:=hown.lt k hk;rw[he4];show(if _ then _ else _)=_;rw[if_neg (by omega),if_pos h8.2]⟩
     obtain⟨d3',e3',h9,hn4⟩:=hR4.lie
     cases h9
     have hz4:=hb4.size
     have HW4:Hid (∀k,(k<(w.heap.size+1+1+1) \/ w4.heap.size<=k)->own4 k=(9,0,0)):=by
      rintro k (hk|hk)
      ·exact(hw4 k (by omega)).trans (HW3.o k hk)
      ·rw[he4];show(if _ then _ else _)=_;rw[if_neg (by omega),if_neg (by omega)]
     have HRR:Hid (zdb (w.heap.size+1+1+1) w4 own4 (.l d2 b.ls.length e2) b.ls/\zeW (w.heap.size+1+1+1) w4 own4 (.l d3 b.ps.length e3) b.ps):=⟨(HRL'.out.own (fun k hk _=>hw4 k hk)).left (Left.of_below (fun _=>False) hb4) (fun _ _ h=>h),hR4.low (by omega)⟩
     have HN4:Hid (BkL (w.heap.size+1+1+1) w4.heap.size w4 own4 b d0 d1 d2 d3):=⟨(HN3'.out.1.own (fun k hk _=>hw4 k hk)).mono hb4,(HN3'.out.2.1.own (fun k hk _=>hw4 k hk)).mono hb4,(HN3'.out.2.2.own (fun k hk _=>hw4 k hk)).mono hb4,hn4.low (by omega),fun k hk=>by rw[HW4.o k hk],by omega,Nat.le_refl _⟩
     have kX:=(hb4.block (w.heap.size+1+1) (by omega)).trans HK3.o.1;have kR:=(hb4.block (w.heap.size+1) (by omega)).trans HK3.o.2;have HB4:=hid (HB3'.out.trans (hb4.mono HB3'.out.size));clear hR4 hn4 hw4 he4 hown hb4 HN3' HK3 HB3' HW3;have cX:=fun j=>cell_of_block (o:=j) kX
     have fX:=fun j=>zh (o:=j) kX
     have cR:=fun j=>cell_of_block (o:=j) kR
     have fR:=fun j=>zh (o:=j) kR
     have hzz4:w.heap.size+1+1<w4.heap.size:=by omega
     have hzz5:w.heap.size+1<w4.heap.size:=by omega
     clear kX kR;go_wp2_with fail
     refine bodyPost_ret (v:=.agg #[.i b.now,.i b.tick,.i b.given,.l d0 b.os.length e0,.l d1 b.gs.length e1,.l d2 b.ls.length e2,.l d3 b.ps.length e3]) (by simp[results,Tryz.results23,go_sem,cR]) rfl ⟨own4,d0,d1,d2,d3,e0,e1,e2,e3,rfl,?_⟩
     ·have hL0:=Left.refl (fun k=>k=w.heap.size+1+1 \/ k=w.heap.size+1) w4
      have hL:=(((((((hL0.set (b:=w.heap.size+1+1) (Or.inl rfl) 6 (.l d3 b.ps.length e3)).set (b:=w.heap.size+1) (Or.inr rfl) 0 (.i b.now)).set (b:=w.heap.size+1) (Or.inr rfl) 1 (.i b.tick)).set (b:=w.heap.size+1) (Or.inr rfl) 2 (.i b.given)).set (b:=w.heap.size+1) (Or.inr rfl) 3 (.l d0 b.os.length e0)).set (b:=w.heap.size+1) (Or.inr rfl) 4 (.l d1 b.gs.length e1)).set (b:=w.heap.size+1) (Or.inr rfl) 5 (.l d2 b.ls.length e2)).set (b:=w.heap.size+1) (Or.inr rfl) 6 (.l d3 b.ps.length e3);have h8:=BkF.left HN4.o hL (fun k hk h2=>by rw[HW4.o k (Or.inl (by omega))]at hk;simp at hk);simp only[World.size_setCell];refine⟨h8,⟨HRR.o.1.left hL (fun k hk h2=>by rw[HW4.o k (Or.inl (by omega))]at hk;simp at hk),HRR.o.2.left hL (fun k hk h2=>by rw[HW4.o k (Or.inl (by omega))]at hk;simp at hk)⟩,?_⟩;have h0:w.heap.size<=w.heap.size+1+1:=by omega
      have h1:w.heap.size<=w.heap.size+1:=Nat.le_succ _
      iterate 7 refine Below.setCell ?_ h1 _
      refine Below.setCell ?_ h0 _;exact HB4.o
end Go.Proofs.YtcgpjfcocmcodaaGreat
