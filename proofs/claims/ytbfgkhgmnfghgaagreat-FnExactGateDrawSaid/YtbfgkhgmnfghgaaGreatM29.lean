import Derived.Test.YtbfgkhgmnfghgaaGreatM28
set_option maxHeartbeats 4000000
namespace Go.Proofs.YtbfgkhgmnfghgaaGreat
open Go.RowKit
theorem zgC (l:Lw)(la lb lc:OA)(lca lcb lcc:Nat)(b:Bk)(a0 a1 a2 a3:OA)(c0 c1 c2 c3:Nat)(team res:BA)(w:World)(hl:jA w l la lb lc)(hb:jk w b a0 a1 a2 a3)(hz:qO b.os<=1048576) :
 Calls Tryz.prog 116 #[.agg (l.cells la lb lc lca lcb lcc),.agg (b.cells a0 a1 a2 a3 c0 c1 c2 c3),.s team,.s res] w fun e w'=>e=.returned (.i (used l b.os team res))/\Bw w w':=by
 have HL:Hid (jA w l la lb lc):=hl;have HK:Hid (jk w b a0 a1 a2 a3):=hb;have HZ:Hid (qO b.os<=1048576/\b.os.length<=1048576):=⟨hz,by unfold qO at hz;omega⟩
 clear hl hb hz;unfold Lw.cells Bk.cells;go_enter Tryz.func116,Tryz.ntmps116;go_wp2_with fail
 obtain⟨hX0,hY0⟩:=q8 w #[.l la l.ss.length lca,.l lb l.ms.length lcb,.l lc l.ts.length lcc] (bC b a0 a1 a2 a3 c0 c1 c2 c3) 47 40;have HB0:Hid (Bw w ((w.alloc (.cells #[.l la l.ss.length lca,.l lb l.ms.length lcb,.l lc l.ts.length lcc] 47)).alloc (.cells (bC b a0 a1 a2 a3 c0 c1 c2 c3) 40))):=zw w _ _;obtain⟨W0,hW0⟩:=nm ((w.alloc (.cells #[.l la l.ss.length lca,.l lb l.ms.length lcb,.l lc l.ts.length lcc] 47)).alloc (.cells (bC b a0 a1 a2 a3 c0 c1 c2 c3) 40));have hz0:w.heap.size+1<W0.heap.size:=by rw[hW0];simp
 rw[<- hW0]at HB0 hX0 hY0 ⊢;clear hW0
 go_loopw [9,10] (fun nv iv wr=>∃(k:Nat) (s:Int),k<=b.os.length/\iv=.i k/\nv=.i s/\Hid (s=zaH l b.os team res k/\Bw W0 wr)) (fun _ iv _=>b.os.length-(intOf iv).toNat)
 case atStart=>exact⟨0,0,Nat.zero_le _,rfl,rfl,by simp[zaH],bRf _ _⟩
 case round=>
  obtain⟨k,s,hk,rfl,rfl,HQ⟩:=hrel
  have hsb:0<=s/\s<=20000000000000:=by
   have h1:=HQ.o.1;have h2:=zb8 l b.os team res k hk;have h3:=HZ.o;have h4:za9 (b.os.take k)<=za9 b.os:=zdk Ob.sz b.os k;unfold qO at h3;omega
  have hX:=za hX0 (nSl hz0) HQ.o.2;have hY:=za hY0 hz0 HQ.o.2;have hz:=nLt hz0 HQ.o.2.size;have hzX:=nSl hz;have hkn:k<=1048576:=by have:=HZ.o.2;omega
  by_cases hlt:k<b.os.length
  ·obtain⟨ob,off,v0,v1,q0,q1,rfl,hob,hsm,hl0,hl1,d0,d1,d2,d3,d4,d5,d6⟩:=HK.o.os.load (HB0.o.trans (HQ.o.2.mono HB0.o.size)) k hlt
   have hob':=nLt hob (HB0.o.trans (HQ.o.2.mono HB0.o.size)).size;have hltI:(k:Int)<(b.os.length:Int):=by omega
   have HSt:Hid (zaH l b.os team res (k+1)=zaH l b.os team res k+zbO l team res b.os[k]):=zf8 l b.os team res k hlt;have HOo:Hid (jT wr b.os[k] v0 v1):=⟨hsm,hl0,hl1⟩
   have HOl:Hid (b.os[k].vs.length<=1048576):=by
    have h3:=HZ.o.1
    have:=(zmL (left:=1048576) (ms:=b.os) (by omega) (by omega)).2 k hlt
    exact this.1
   have hwb:=zgM l.ss b.os[k] res HOl.o;have HBr:Hid (Bw w wr):=HB0.o.trans (HQ.o.2.mono HB0.o.size);clear hsm hl0 hl1;go_wp2_with fail
   have HS:Hid ((∀j,wr.cell? (aD w.heap.size j)=(#[.l la l.ss.length lca,.l lb l.ms.length lcb,.l lc l.ts.length lcc]:AV)[j]?)/\(∀j,wr.cell? (aD (w.heap.size+1) j)=((bC b (some (aD ob off)) a1 a2 a3 c0 c1 c2 c3):AV)[j]?)/\wr.cell? (aD ob (off+k*7))=some (.s b.os[k].kd)/\wr.cell? (aD ob (off+k*7+1))=some (.s b.os[k].nm)/\wr.cell? (aD ob (off+k*7+2))=some (.s b.os[k].tm)/\wr.cell? (aD ob (off+k*7+3))=some (.l v0 b.os[k].vs.length q0)/\wr.cell? (aD ob (off+k*7+4))=some (.bool b.os[k].en)/\wr.cell? (aD ob (off+k*7+5))=some (.l v1 b.os[k].hs.length q1)/\wr.cell? (aD ob (off+k*7+6))=some (.i b.os[k].vr)):=⟨hX,hY,d0,d1,d2,d3,d4,d5,d6⟩
   have hS:(∀j,wr.drew.cell? (aD w.heap.size j)=(#[.l la l.ss.length lca,.l lb l.ms.length lcb,.l lc l.ts.length lcc]:AV)[j]?)/\(∀j,wr.drew.cell? (aD (w.heap.size+1) j)=((bC b (some (aD ob off)) a1 a2 a3 c0 c1 c2 c3):AV)[j]?)/\wr.drew.cell? (aD ob (off+k*7))=some (.s b.os[k].kd)/\wr.drew.cell? (aD ob (off+k*7+1))=some (.s b.os[k].nm)/\wr.drew.cell? (aD ob (off+k*7+2))=some (.s b.os[k].tm)/\wr.drew.cell? (aD ob (off+k*7+3))=some (.l v0 b.os[k].vs.length q0)/\wr.drew.cell? (aD ob (off+k*7+4))=some (.bool b.os[k].en)/\wr.drew.cell? (aD ob (off+k*7+5))=some (.l v1 b.os[k].hs.length q1)/\wr.drew.cell? (aD ob (off+k*7+6))=some (.i b.os[k].vr):=HS.o;clear hX hY d0 d1 d2 d3 d4 d5 d6
   go_region_held3 (fun w'=>(∀j,w'.cell? (aD w.heap.size j)=(#[.l la l.ss.length lca,.l lb l.ms.length lcb,.l lc l.ts.length lcc]:AV)[j]?)/\(∀j,w'.cell? (aD (w.heap.size+1) j)=(#[.i b.now,.i b.tick,.i b.given,.l (some (aD ob off)) b.os.length c0,.l a1 b.gs.length c1,.l a2 b.ls.length c2,.l a3 b.ps.length c3]:AV)[j]?)/\w'.cell? (aD ob (off+k*7))=some (.s b.os[k].kd)/\w'.cell? (aD ob (off+k*7+1))=some (.s b.os[k].nm)/\w'.cell? (aD ob (off+k*7+2))=some (.s b.os[k].tm)/\w'.cell? (aD ob (off+k*7+3))=some (.l v0 b.os[k].vs.length q0)/\w'.cell? (aD ob (off+k*7+4))=some (.bool b.os[k].en)/\w'.cell? (aD ob (off+k*7+5))=some (.l v1 b.os[k].hs.length q1)/\w'.cell? (aD ob (off+k*7+6))=some (.i b.os[k].vr)) (exact hS) (first|(go_at_call 152;refine(zk4 _ _ l.ts b.os[k].tm team _ (by exact HL.o.ts.mono HBr.o.drew)).mono ?_;rintro e w1⟨rfl,rfl⟩))
   obtain⟨w2,hw2⟩:=nm (wr.drew);have hB2:Bw W0 w2:=by rw[hw2];exact HQ.o.2.drew
   have HBr2:Hid (Bw w w2):=by unfold Hid;rw[hw2];exact HBr.o.drew
   have HO2:Hid (jT w2 b.os[k] v0 v1):=by unfold Hid;rw[hw2];exact HOo.o.mono (bRf _ _).drew
   have hS2:(∀j,w2.cell? (aD w.heap.size j)=(#[.l la l.ss.length lca,.l lb l.ms.length lcb,.l lc l.ts.length lcc]:AV)[j]?)/\(∀j,w2.cell? (aD (w.heap.size+1) j)=((bC b (some (aD ob off)) a1 a2 a3 c0 c1 c2 c3):AV)[j]?)/\w2.cell? (aD ob (off+k*7))=some (.s b.os[k].kd)/\w2.cell? (aD ob (off+k*7+1))=some (.s b.os[k].nm)/\w2.cell? (aD ob (off+k*7+2))=some (.s b.os[k].tm)/\w2.cell? (aD ob (off+k*7+3))=some (.l v0 b.os[k].vs.length q0)/\w2.cell? (aD ob (off+k*7+4))=some (.bool b.os[k].en)/\w2.cell? (aD ob (off+k*7+5))=some (.l v1 b.os[k].hs.length q1)/\w2.cell? (aD ob (off+k*7+6))=some (.i b.os[k].vr):=by rw[hw2];exact hS
   have hz2:w.heap.size+1<w2.heap.size:=by rw[hw2];exact hz
   have hzX2:=nSl hz2;have hob2:ob<w2.heap.size:=by rw[hw2];exact hob'
   have HB2:Hid (Bw W0 w2):=hB2;rw[<- hw2];clear hw2 hS HS hB2 hz hzX hob'
   by_cases hu:under l.ts 4 b.os[k].tm team=true
   ·have HU:Hid (zbO l team res b.os[k]=qY l.ss b.os[k] res):=by unfold Hid zbO;rw[if_pos hu]
    rw[hu];clear hu;have hS:(∀j,w2.drew.cell? (aD w.heap.size j)=(#[.l la l.ss.length lca,.l lb l.ms.length lcb,.l lc l.ts.length lcc]:AV)[j]?)/\(∀j,w2.drew.cell? (aD (w.heap.size+1) j)=((bC b (some (aD ob off)) a1 a2 a3 c0 c1 c2 c3):AV)[j]?)/\w2.drew.cell? (aD ob (off+k*7))=some (.s b.os[k].kd)/\w2.drew.cell? (aD ob (off+k*7+1))=some (.s b.os[k].nm)/\w2.drew.cell? (aD ob (off+k*7+2))=some (.s b.os[k].tm)/\w2.drew.cell? (aD ob (off+k*7+3))=some (.l v0 b.os[k].vs.length q0)/\w2.drew.cell? (aD ob (off+k*7+4))=some (.bool b.os[k].en)/\w2.drew.cell? (aD ob (off+k*7+5))=some (.l v1 b.os[k].hs.length q1)/\w2.drew.cell? (aD ob (off+k*7+6))=some (.i b.os[k].vr):=hS2;clear hS2;go_wp2_with fail
    go_region_held3 (fun w'=>(∀j,w'.cell? (aD w.heap.size j)=(#[.l la l.ss.length lca,.l lb l.ms.length lcb,.l lc l.ts.length lcc]:AV)[j]?)/\(∀j,w'.cell? (aD (w.heap.size+1) j)=(#[.i b.now,.i b.tick,.i b.given,.l (some (aD ob off)) b.os.length c0,.l a1 b.gs.length c1,.l a2 b.ls.length c2,.l a3 b.ps.length c3]:AV)[j]?)/\w'.cell? (aD ob (off+k*7))=some (.s b.os[k].kd)/\w'.cell? (aD ob (off+k*7+1))=some (.s b.os[k].nm)/\w'.cell? (aD ob (off+k*7+2))=some (.s b.os[k].tm)/\w'.cell? (aD ob (off+k*7+3))=some (.l v0 b.os[k].vs.length q0)/\w'.cell? (aD ob (off+k*7+4))=some (.bool b.os[k].en)/\w'.cell? (aD ob (off+k*7+5))=some (.l v1 b.os[k].hs.length q1)/\w'.cell? (aD ob (off+k*7+6))=some (.i b.os[k].vr)) (exact hS) (first|(go_at_call 153;refine(zks l _ _ _ _ _ _ b.os[k] _ _ _ _ res _ (by exact HL.o.mono HBr2.o.drew) (by exact HO2.o.mono (bRf _ _).drew) HOl.o).mono ?_;rintro e w3⟨rfl,hb3⟩;have hS:=(⟨za hS.1 hzX2 hb3,za hS.2.1 hz2 hb3,(hb3.cell (p:=(aD ob _)) hob2).trans hS.2.2.1,(hb3.cell (p:=(aD ob _)) hob2).trans hS.2.2.2.1,(hb3.cell (p:=(aD ob _)) hob2).trans hS.2.2.2.2.1,(hb3.cell (p:=(aD ob _)) hob2).trans hS.2.2.2.2.2.1,(hb3.cell (p:=(aD ob _)) hob2).trans hS.2.2.2.2.2.2.1,(hb3.cell (p:=(aD ob _)) hob2).trans hS.2.2.2.2.2.2.2.1,(hb3.cell (p:=(aD ob _)) hob2).trans hS.2.2.2.2.2.2.2.2⟩:_/\_/\_/\_/\_/\_/\_/\_/\_);have hB3:=HB2.o.drew.trans (hb3.mono HB2.o.drew.size);clear hb3))
    go_wp2_with fail
    refine⟨⟨k+1,s+qY l.ss b.os[k] res,by omega,by go_num,?_,by rw[HSt.o,HU.o,HQ.o.1],hB3⟩,zn hlt⟩
    have hw:IntKind.i64.wrap (s+qY l.ss b.os[k] res)=s+qY l.ss b.os[k] res:=by
     rw[IntKind.wrap_i64];omega
    rw[hw]
   ·have hu':under l.ts 4 b.os[k].tm team=false:=by simpa using hu
    have HU:Hid (zbO l team res b.os[k]=0):=by unfold Hid zbO;rw[if_neg hu]
    rw[hu'];clear hu hu';go_wp2_with fail
    exact⟨⟨k+1,s,by omega,by go_num,rfl,by rw[HSt.o,HU.o,HQ.o.1];omega,HB2.o⟩,zn hlt⟩
  ·have e:k=b.os.length:=by omega
   subst e;have HE:Hid (used l b.os team res=s):=by unfold Hid used;rw[HQ.o.1]
   clear hlt hk;go_wp2_with fail
   go_ret;exact⟨zq HE.o.symm,HB0.o.trans (HQ.o.2.mono HB0.o.size)⟩
theorem zqo (k:Nat):zeV (List.range (k+1))=zeV (List.range k)++[.i (k:Int)]:=by simp[zeV,List.range_succ]
set_option maxRecDepth 20000 in
theorem ziB (s:Shp)(ms:List Mnd)(ma fa:OA)(mcap fcap:Nat)(w:World)(hm:qN w ma ms)(hf:yc w fa s.fs)(hl:ms.length<=1048576)(hn:s.fs.length<=6)
 (hrd:∀q,q<s.fs.length->∀x∈yA s ms q,0<=x/\x<s.fs.length) :
 Calls Tryz.prog 160 #[.agg #[.s s.kd,.l fa s.fs.length fcap],.l ma ms.length mcap] w
  fun e w'=>∃v,e=.returned (.tuple #[v,.bool (zI (zm s ms) s.fs.length).1])/\Bw w w'/\((zI (zm s ms) s.fs.length).1=true->w'.ownsRow w.heap.size 3 1 v (zI (zm s ms) s.fs.length).2.row.length (zeV (zI (zm s ms) s.fs.length).2.row)):=by
 obtain⟨i0,hi0,hz0,hz1',hz2⟩:=info_parts Tryz.zhi;have HH:=zrY hm hf hl hn hrd;clear hm hf hl hrd;go_enter Tryz.func160,Tryz.ntmps160;go_wp2_with fail
 go_loopw [6,11] (fun v0 iv wr=>∃(k:Nat) (v:Value),v=v0/\k<=s.fs.length/\iv=.i k/\wr.ownsRow (w.heap.size+2) 3 1 v k (zeV (List.range k))/\wr.heap[w.heap.size]?=some (.cells #[.s s.kd,.l fa s.fs.length fcap] 133)/\wr.heap[w.heap.size+1]?=some (.cells #[.l ma ms.length mcap] 44)/\Bw w wr) (fun _ iv _=>s.fs.length-(intOf iv).toNat)
 case atStart=>exact⟨0,_,rfl,Nat.zero_le _,rfl,World.ownsRow_nil _ _ _ _,(zS _ _ _).1,(zS _ _ _).2,zw _ _ _⟩
 case round=>
  obtain⟨k,v,hv,hk,rfl,hown,hs,hmm,hB⟩:=hrel;subst hv;have HX:=zbT hown hs hmm hB;have hzz:=(gES hmm).1;clear hown hs hmm hB
  by_cases hlt:k<s.fs.length
  ·have hltI:(k:Int)<(s.fs.length:Int):=by omega
   have hgb:∀g,v.ownBlock=some g->w.heap.size+2<=g:=fun g hg=>(HX.o.1.lt g hg).1
   have HGB:=hid hgb;clear hgb
   go_wp2_with (at_builtin;refine zh4 ?_)
   show wpList _ _ _ _ _ _
   refine wpList_append_own _ rfl (.tmp 14) (.tmp 16) 112 rfl (w.heap.size+2) 3 i0 (.i 0) 1 8 Tryz.underlying112 hi0 hz0 hz1' hz2 rfl (by decide) v _ _ rfl (HX.o.1.alloc _) (aD wr.heap.size 0) 1 1 [.i (k:Int)] rfl rfl (zfr _ _ _) (by intro u hu;simp at hu;subst hu;rfl) (by unfold maxLen;omega) (by omega) (by simp;omega) ?_;intro v' w1 hown' hgr _;obtain⟨va,vcap,rfl⟩:=qF hown';go_wp2_with fail
   refine⟨⟨k+1,_,rfl,by omega,by go_num,by rw[zqo];exact hown',?_,?_,zdA HX.o.2.2.2 HX.o.2.2.2.size hgr (fun g hg=>by have:=HGB.o g hg;omega)⟩,zn hlt⟩
   ·exact(zaQ hgr (by simp;omega) (fun g hg=>by have:=HGB.o g hg;omega)).trans ((Below.heap_alloc _ _ _ (by omega)).trans HX.o.2.1)
   ·exact(zaQ hgr (by simp;omega) (fun g hg=>by have:=HGB.o g hg;omega)).trans ((Below.heap_alloc _ _ _ hzz).trans HX.o.2.2.1)
  ·have e:k=s.fs.length:=by omega
   subst e;obtain⟨va,vcap,rfl⟩:=qF HX.o.1
   have HPL:Hid (zn4 wr va s.fs.length):=by
    intro hpos;obtain⟨_,⟨h0,h1⟩|⟨g,cap,cur,h0,h1⟩⟩:=id HX.o.1
    ·omega
    ·cases h0
     refine⟨g,rfl,(HX.o.1.lt g rfl).2,fun q hq=>?_⟩;rw[HX.o.1.cellAt q (by omega)]
     simp[zeV,hq]
   go_wp2_with fail
   refine(zpV s ms w ma fa va mcap fcap vcap (w.heap.size+1) w.heap.size wr HH.o.1 HH.o.2.1 HH.o.2.2.1 HH.o.2.2.2.1 HH.o.2.2.2.2 HX.o.2.2.2 hzz (by omega) (by rw[cell_of_block HX.o.2.2.1];rfl) (fun j=>cell_of_block HX.o.2.1) HPL.o).mono ?_;rintro e w2⟨v2,rfl,hb2,hyes⟩;have HY:Hid (Bw w w2/\((zI (zm s ms) s.fs.length).1=true->w2.ownsRow w.heap.size 3 1 v2 (zI (zm s ms) s.fs.length).2.row.length (zeV (zI (zm s ms) s.fs.length).2.row))):=⟨hb2,fun h=>zdr (hyes h) (by omega)⟩
   clear hb2 hyes;go_wp2_with fail
   go_ret2
   exact⟨v2,rfl,HY.o⟩
theorem zi9 (a:OA)(cap:Nat)(w:World) :
 Calls Tryz.prog 130 #[.l a 0 cap] w fun e w'=>∃v,e=.returned v/\w'.ownsRow w.heap.size 9 1 v 0 []/\Bw w w':=by
 cases a with
 | none=>exact ze4 cap w
 | some g=>
  go_enter Tryz.func130,Tryz.ntmps130;go_wp2_with fail
  go_ret;exact⟨_,rfl,World.ownsRow_nil _ _ _ _,bRf _ _⟩
theorem zfV (a:OA)(cap:Nat)(ws:List BA)(w:World)(hw:zG w a ws)(hl:ws.length<=1048576) :
 Calls Tryz.prog 130 #[.l a ws.length cap] w
  fun e w'=>∃v,e=.returned v/\w'.ownsRow w.heap.size 9 1 v ws.length (ws.map Value.string)/\Bw w w':=by
 by_cases h:ws=[]
 ·subst h
  exact zi9 a cap w
 ·obtain⟨b,off,rfl,_⟩:=hw.cells h
  exact zfZ b off cap ws w hw hl
theorem zfe (o:Ob)(va ha:OA)(cap cap':Nat)(w:World)(ho:jT w o va ha)(hl:o.vs.length<=1048576)(hl':o.hs.length<=1048576) :
 Calls Tryz.prog 82 #[.agg #[.s o.kd,.s o.nm,.s o.tm,.l va o.vs.length cap,.bool o.en,.l ha o.hs.length cap',.i o.vr]] w
  fun e w'=>∃a dap a' dap' m,e=.returned (.agg #[.s o.kd,.s o.nm,.s o.tm,.l a o.vs.length dap,.bool o.en,.l a' o.hs.length dap',.i o.vr])/\zo w.heap.size w' a o.vs/\(∀g,a=some g->g.block<m)/\w.heap.size<=m/\zo m w' a' o.hs/\Bw w w':=by
 go_enter Tryz.func82,Tryz.ntmps82;go_wp2_with fail
 refine(zfV _ _ _ _ (ho.vals.mono (zw _ _ _)) hl).mono ?_;rintro e w1⟨v,rfl,hown1,hb1⟩;obtain⟨a,dap,rfl,ht1⟩:=zo.zdK hown1;have hk1:=(hb1.block w.heap.size (by simp;omega)).trans (zS _ _ _).1;have hr1:=(hb1.block (w.heap.size+1) (by simp)).trans (zS _ _ _).2;have HT:Hid (zo (w.heap.size+1+1) w1 a o.vs):=by unfold Hid;simpa using ht1
 have hz1:w.heap.size+1<w1.heap.size:=by have:=hb1.size;simp at this;omega
 have hB1:=(zw _ _ _).trans (hb1.mono (by simp;omega));have HK:=hid hk1;have HRR:=hid hr1;have hX1:∀j,w1.cell? (aD w.heap.size j)=((oC o va ha cap cap'):AV)[j]?:=fun j=>cell_of_block hk1
 have hF1:∀j,w1.frozen? (aD w.heap.size j)=false:=fun j=>zf hk1
 clear hb1 hown1 ht1 hk1 hr1;go_wp2_with fail
 have hB1':=hB1.setCell (p:=(aD w.heap.size 3)) (Nat.le_refl _) (.l a o.vs.length dap);refine(zfV _ _ _ _ (ho.holds.mono hB1') hl').mono ?_;rintro e w2⟨v,rfl,hown2,hb2⟩;obtain⟨a',dap',rfl,ht2⟩:=zo.zdK hown2;have hk2:=(hb2.block w.heap.size (by simp[World.setCell];omega)).trans (zi HK.o _);have hr2:=(hb2.block (w.heap.size+1) (by simp[World.setCell];omega)).trans ((Below.heap_setCell _ _ _ _ (by simp)).trans HRR.o);have HT2:=hid ((HT.o.setCell _ (by simp;omega) _).mono hb2);have HU2:Hid (zo w1.heap.size w2 a' o.hs):=by unfold Hid;simpa[World.setCell] using ht2
 have HM:Hid (∀g,a=some g->g.block<w1.heap.size):=by
  intro g hg
  rcases HT.o with⟨h0,_⟩|⟨g',C,h0,_,hh,_⟩
  ·rw[h0]at hg;cases hg
  ·rw[h0]at hg;cases hg;exact(gES hh).1
 have hz2:w.heap.size+1<w2.heap.size:=by have:=hb2.size;simp[World.setCell]at this;omega
 have hB2:=hB1'.trans (hb2.mono hB1'.size);have hX2:∀j,w2.cell? (aD w.heap.size j)=((oC o a ha dap cap'):AV)[j]?:=fun j=>cell_of_block hk2
 have hF2:∀j,w2.frozen? (aD w.heap.size j)=false:=fun j=>zf hk2
 have hY2:∀j,w2.cell? (aD (w.heap.size+1) j)=(oZ:AV)[j]?:=fun j=>cell_of_block hr2
 have hG2:∀j,w2.frozen? (aD (w.heap.size+1) j)=false:=fun j=>zf hr2
 have hzz:w.heap.size<=w1.heap.size:=by omega
 clear hb2 hown2 ht2 hX1 hF1 hB1 hB1' hk2 hr2;go_wp2_with fail
 refine bodyPost_ret (v:=(.agg #[.s o.kd,.s o.nm,.s o.tm,.l a o.vs.length dap,.bool o.en,.l a' o.hs.length dap',.i o.vr])) (by simp[results,Tryz.results82,go_sem,hY2]) rfl ⟨a,dap,a',dap',w1.heap.size,rfl,((((((((HT2.o.setCell _ (by simp;omega) _).setCell _ (by simp) _).setCell _ (by simp) _).setCell _ (by simp) _).setCell _ (by simp) _).setCell _ (by simp) _).setCell _ (by simp) _).setCell _ (by simp) _).low (by omega),HM.o,hzz,((((((((HU2.o.setCell _ (by simp;omega) _).setCell _ (by simp;omega) _).setCell _ (by simp;omega) _).setCell _ (by simp;omega) _).setCell _ (by simp;omega) _).setCell _ (by simp;omega) _).setCell _ (by simp;omega) _).setCell _ (by simp;omega) _),((((((((hB2.setCell (Nat.le_refl _) _).setCell (by simp) _).setCell (by simp) _).setCell (by simp) _).setCell (by simp) _).setCell (by simp) _).setCell (by simp) _).setCell (by simp) _)⟩
theorem zpo (o:Ob)(kd:BA)(fs:List Fld)(fa:OA)(va ha:OA)(fcap cap cap':Nat)(w:World)(hf:yc w fa fs)(ho:jT w o va ha)(hl:o.vs.length<=1048576)(hl':o.hs.length<=1048576)(hc:o.vs.length=fs.length) :
 Calls Tryz.prog 231 #[.agg #[.s kd,.l fa fs.length fcap],.agg #[.s o.kd,.s o.nm,.s o.tm,.l va o.vs.length cap,.bool o.en,.l ha o.hs.length cap',.i o.vr]] w
  fun e w'=>∃a dap a' dap' m,e=.returned (.agg #[.s o.kd,.s o.nm,.s o.tm,.l a o.vs.length dap,.bool o.en,.l a' o.hs.length dap',.i o.vr])/\zo w.heap.size w' a (zah fs o.vs)/\(∀g,a=some g->g.block<m)/\w.heap.size<=m/\zo m w' a' o.hs/\Bw w w':=by
 have HC:=hid hc;clear hc;go_enter Tryz.func231,Tryz.ntmps231;go_wp2_with fail
 refine(zfe o va ha cap cap' _ (ho.mono (jD _ _ _ _)) hl hl').mono ?_;rintro e w1⟨a,dap,a',dap',m,rfl,ht,hm,hsm,ht',hb1⟩;have hX1:∀j,w1.cell? (aD w.heap.size j)=(#[.s kd,.l fa fs.length fcap]:AV)[j]?:=fun j=>cell_of_block ((hb1.block w.heap.size (by simp;omega)).trans (zcr _ _ _ _))
 have HR1:=hid ((hb1.block (w.heap.size+1+1) (by simp)).trans (zco _ _ _ _));have hB1:=(jD _ _ _ _).trans (hb1.mono (by simp;omega));have hz1:w.heap.size+1+1<w1.heap.size:=by have:=hb1.size;simp at this;omega
 have HT:Hid (zo (w.heap.size+1+1+1) w1 a o.vs/\(∀g,a=some g->g.block<m)/\w.heap.size+1+1+1<=m/\zo m w1 a' o.hs):=by
  simp only[World.size_alloc]at ht hsm;exact⟨ht,hm,hsm,ht'⟩
 have hz0:w.heap.size<w1.heap.size:=by omega
 clear ht hm hsm ht' hb1 ho;have hlen:=hf.len;unfold maxLen at hlen;go_wp2_with fail
 clear hX1
 go_loopw [13] (fun i wr=>∃k:Nat,k<=fs.length/\i=.i k/\zo (w.heap.size+1+1+1) wr a (ji fs o.vs k)/\zo m wr a' o.hs/\wr.heap[w.heap.size+1+1]?=some (.cells #[.s ByteArray.empty,.s ByteArray.empty,.s ByteArray.empty,.l none 0 0,.bool false,.l none 0 0,.i 0] 123)/\wr.heap[w1.heap.size]?=some (.cells #[.s o.kd,.s o.nm,.s o.tm,.l a o.vs.length dap,.bool o.en,.l a' o.hs.length dap',.i o.vr] 123)/\Bw w wr) (fun i _=>fs.length-(intOf i).toNat)
 case atStart=>
  have hba:=(bRf w1.heap.size w1).alloc (Nat.le_refl _) (.cells (oC o a a' dap dap') 123);exact⟨0,Nat.zero_le _,rfl,by rw[zif];exact HT.o.1.mono hba,HT.o.2.2.2.mono hba,(hba.block _ hz1).trans HR1.o,alloc_at _ _,hB1.alloc hB1.size _⟩
 case round=>
  obtain⟨k,hk,rfl,ht,ht',hR,hO,hB⟩:=hrel;have hOc:∀j,wr.cell? (aD w1.heap.size j)=((oC o a a' dap dap'):AV)[j]?:=fun j=>cell_of_block hO
  have hOz:=(gES hO).1
  by_cases hlt:k<fs.length
  ·have hltv:k<o.vs.length:=by rw[HC.o];exact hlt
   obtain⟨fb,foff,rfl,hfb,hr⟩:=hf.rows (by rintro rfl;simp at hlt);obtain⟨wa,wcap,hf0⟩:=hr k hlt;have hf1:=hf0.mono hfb hB;obtain⟨c0,c1,c2,c3,c4,c5,c6,c7,c8,c9,c10⟩:=hf1.load;have hltI:(k:Int)<(fs.length:Int):=by omega
   have hltV:(k:Int)<(o.vs.length:Int):=by omega
   have hfbw:=nLt hfb hB.size
   obtain⟨g,C,hga,hgl,hgh,hgc⟩:∃g C,a=some (aD g 0)/\w.heap.size+1+1+1<=g/\wr.heap[g]?=some (.cells C 9)/\∀i (h:i<(ji fs o.vs k).length),C[i]?=some (.s (ji fs o.vs k)[i]):=by
    rcases ht with⟨_,h0⟩|h0
    ·have:=zay HC.o k;rw[h0]at this;simp at this;omega
    ·exact h0
   have hgm:g<m:=HT.o.2.1 _ hga;have hgw1:g<w1.heap.size:=by have:=HT.o.1.lt _ hga;exact this
   have hgw:g<wr.heap.size:=by omega
   subst hga
   have hcell:wr.cell? (aD g k)=some (.s o.vs[k]):=by
    have h1:=zfx HC.o k hlt;have hkl:k<(ji fs o.vs k).length:=by rw[zay HC.o];exact hltv
    rw[List.getElem?_eq_getElem hkl,List.getElem?_eq_getElem hltv]at h1;rw[cell_of_block hgh,hgc k hkl,Option.some.inj h1]
   have hgf:wr.frozen? (aD g k)=false:=zf hgh;have HX:=zrY ht ht' hR hO hB;clear ht ht' hR hO hB hf hr hf0 hf1 hgh hgc
   by_cases hv:o.vs[k].toList.isEmpty=true
   ·have HV:Hid (zas fs[k] o.vs[k]=fs[k].df):=by unfold Hid zas;rw[if_pos hv]
    go_wp2_with fail
    obtain⟨ht,ht',hR,hO,hB⟩:=HX.o;have hba:=(bRf (wr.setCell (aD g k) (.s fs[k].df)).heap.size (wr.setCell (aD g k) (.s fs[k].df))).alloc (Nat.le_refl _) (.cells #[.s fs[k].nm,.i fs[k].kd,.i fs[k].ls,.i fs[k].ms,.l wa fs[k].ws.length wcap,.s fs[k].to,.i fs[k].rl,.bool fs[k].mu,.bool fs[k].fx,.s fs[k].df,.s fs[k].wg] 175);have hs0:(wr.setCell (aD g k) (.s fs[k].df)).heap.size=wr.heap.size:=by simp[World.setCell]
    exact⟨⟨k+1,by omega,by go_num,by rw[zdw HC.o k hlt,HV.o];exact(ht.set k _).mono hba,(ht'.setCell _ hgm _).mono hba,(hba.block _ (by rw[hs0];omega)).trans ((Below.heap_setCell _ _ _ _ (by show w.heap.size+1+1≠g;omega)).trans hR),(hba.block _ (by rw[hs0];exact hOz)).trans ((Below.heap_setCell _ _ _ _ (by show w1.heap.size≠g;omega)).trans hO),(hB.setCell (p:=(aD g k)) (by show w.heap.size<=g;omega) _).alloc (by rw[hs0];exact hB.size) _⟩,zn hlt⟩
   ·have HV:Hid (zas fs[k] o.vs[k]=o.vs[k]):=by unfold Hid zas;rw[if_neg hv]
    go_wp2_with fail
    obtain⟨ht,ht',hR,hO,hB⟩:=HX.o;have hba:=(bRf wr.heap.size wr).alloc (Nat.le_refl _) (.cells #[.s fs[k].nm,.i fs[k].kd,.i fs[k].ls,.i fs[k].ms,.l wa fs[k].ws.length wcap,.s fs[k].to,.i fs[k].rl,.bool fs[k].mu,.bool fs[k].fx,.s fs[k].df,.s fs[k].wg] 175)
    have hsame:(ji fs o.vs k).set k o.vs[k]=ji fs o.vs k:=by
     have h1:=zfx HC.o k hlt;have hkl:k<(ji fs o.vs k).length:=by rw[zay HC.o];exact hltv
     rw[List.getElem?_eq_getElem hkl,List.getElem?_eq_getElem hltv]at h1;rw[<- Option.some.inj h1,List.set_getElem_self]
    exact⟨⟨k+1,by omega,by go_num,by rw[zdw HC.o k hlt,HV.o,hsame];exact ht.mono hba,ht'.mono hba,(hba.block _ (by omega)).trans hR,(hba.block _ hOz).trans hO,hB.alloc hB.size _⟩,zn hlt⟩
  ·have e:k=fs.length:=by omega
   subst e;rw[zkF HC.o]at ht;have hRc:∀j,wr.cell? (aD (w.heap.size+1+1) j)=(oZ:AV)[j]?:=fun j=>cell_of_block hR
   have hRf:∀j,wr.frozen? (aD (w.heap.size+1+1) j)=false:=fun j=>zf hR
   have HX:=za6 ht ht' hB;have HM:=yU HT.o.2.2.1 HT.o.2.1;clear ht ht' hB hR hO hf;go_wp2_with fail
   refine bodyPost_ret (v:=(.agg #[.s o.kd,.s o.nm,.s o.tm,.l a o.vs.length dap,.bool o.en,.l a' o.hs.length dap',.i o.vr])) (by simp[results,Tryz.results231,go_sem,hRc]) rfl ?_;obtain⟨ht,ht',hB⟩:=HX.o;exact⟨a,dap,a',dap',m,rfl,(jK ht _ (by omega) _ _ _ _ _ _ _).low (by omega),HM.o.2,by have:=HM.o.1;omega,jK ht' _ (by have:=HM.o.1;omega) _ _ _ _ _ _ _,jo hB _ (by omega) _ _ _ _ _ _ _⟩
theorem zmp {c p:Int}(h:c≠0):zl0 c p=.iface 285 (.agg #[.i c,.i p]):=by simp[zl0,h]
theorem zeJ (a0:OA)(cap0:Nat)(ss:List Shp)(o:Ob)(a a':OA)(cap cap':Nat)(w:World)(hw:yX w a0 ss)(ho:jT w o a a')(hcnt:o.vs.length=(shapeOf ss o.kd).fs.length) :
 Calls Tryz.prog 229 #[.l a0 ss.length cap0,.agg #[.s o.kd,.s o.nm,.s o.tm,.l a o.vs.length cap,.bool o.en,.l a' o.hs.length cap',.i o.vr]] w
  fun e w'=>e=.returned (zl0 (jI (shapeOf ss o.kd).fs o.vs).1 (jI (shapeOf ss o.kd).fs o.vs).2)/\Bw w w':=by
 have HC:=hid hcnt;clear hcnt;go_enter Tryz.func229,Tryz.ntmps229;go_wp2_with fail
 refine(zdc _).mono ?_;rintro e w0⟨rfl,hw0⟩
 have hX0:∀j,w0.cell? (aD w.heap.size j)=((oC o a a' cap cap'):AV)[j]?:=fun j=>by
  rw[hw0,World.cell?_alloc_lt _ _ (aD w.heap.size j) (by simp)];exact zl w _ _ j
 have hm0:w0.heap[w.heap.size+1]?=some (.map yQ 4):=by
  rw[hw0];have:=alloc_at (w.alloc (.cells #[.s o.kd,.s o.nm,.s o.tm,.l a o.vs.length cap,.bool o.en,.l a' o.hs.length cap',.i o.vr] 123)) (.map yQ 4);simpa using this
 have hB00:Bw w w0:=by rw[hw0];exact zw _ _ _
 have hz0:w.heap.size+1<w0.heap.size:=by rw[hw0];simp
 clear hw0;simp only[World.size_alloc];have hzz:w.heap.size<w0.heap.size:=by omega
 go_wp2_with fail
 refine(qL _ _ _ _ _ (hw.mono hB00)).mono ?_;rintro e w1⟨fa,fcap,rfl,hfl0,hb1⟩;have hX1:=za hX0 hzz hb1;have hm1:=(hb1.block _ hz0).trans hm0;have hz1:w.heap.size+1<w1.heap.size:=by have:=hb1.size;omega
 have hB01:=hB00.trans (hb1.mono (by omega));have hfl1:=hfl0.mono hb1;clear hX0 hm0 hb1 hfl0 hz0 hzz
 generalize hfs:(shapeOf ss o.kd).fs=fs at *
 have hlen:=hfl1.len;unfold maxLen at hlen;go_wp2_with fail
 go_loopw [22] (fun i wr=>∃k:Nat,k<=fs.length/\i=.i k/\up (zbh fs o.vs) k=true/\Bw w1 wr) (fun i _=>fs.length-(intOf i).toNat)
 case atStart=>exact⟨0,Nat.zero_le _,rfl,rfl,bAl _ _⟩
 case round=>
  obtain⟨k,hk,rfl,hup,hBr⟩:=hrel;have hszr:=hBr.size;have hB:Bw w wr:=hB01.trans (hBr.mono (by omega))
  by_cases hlt:k<fs.length
  ·have hXr:=za hX1 (by omega) hBr
   have hmr:=(hBr.block _ hz1).trans hm1;obtain⟨b,off,rfl,hb,hr⟩:=hfl1.rows (by rintro rfl;simp at hlt);obtain⟨wa,wcap,hf0⟩:=hr k hlt;have hf:=hf0.mono hb hBr;obtain⟨c0,c1,c2,c3,c4,c5,c6,c7,c8,c9,c10⟩:=hf.load;have hst:=hf.strs;have hltv:k<o.vs.length:=by rw[HC.o];exact hlt
   obtain⟨vb,voff,rfl,hvb,hvc⟩:=ho.vals.cells (by intro h;rw[h]at hltv;simp at hltv);have hcv:=(hB.cell (p:=(aD vb (voff+k))) hvb).trans (hvc k hltv);have hvs:=ho.vals.small _ (List.getElem_mem hltv);have hltI:(k:Int)<(fs.length:Int):=by omega
   have hltV:(k:Int)<(o.vs.length:Int):=by omega
   have hbr:b<wr.heap.size:=by omega
   have hvbr:vb<wr.heap.size:=by omega
   have hwr1:w.heap.size<wr.heap.size:=by omega
   have HFX:=hid (zjK hlt hltv)
   have HS:Hid (zaE fs[k] o.vs[k]=0->up (zbh fs o.vs) (k+1)=true):=fun h=>by
    rw[q9,hup];unfold zbh;rw[HFX.o,h];rfl
   have HN:Hid (∀n:Int,n≠0->zaE fs[k] o.vs[k]=n->zl0 (jI fs o.vs).1 (jI fs o.vs).2=.iface 285 (.agg #[.i n,.i k])):=fun n hn0 h=>by
    rw[zlM hlt hup (by unfold zbh;rw[HFX.o,h];simp[hn0]),HFX.o,h];exact zmp hn0
   clear hX1 hm1 hr hf0 hf hup
   by_cases he:o.vs[k].size=0
   ·have hne:o.vs[k].toList.isEmpty=true:=by rw[zy];simp[he]
    have HE:=hid he;clear he
    by_cases hmu:fs[k].mu=true
    ·have HM:=hid hmu
     go_wp2_with fail
     go_ret;have hv:=HN.o 2 (by decide) (by unfold zaE;rw[if_pos HE.o,if_pos HM.o]);exact⟨by rw[hfs,hv];rfl,hB.alloc (by omega) _⟩
    ·have hmu':fs[k].mu=false:=by simpa using hmu
     have HM:=hid hmu';clear hmu;go_wp2_with fail
     go_quiet (fail)
     go_wp2_with fail
     exact⟨⟨k+1,by omega,by go_num,HS.o (by unfold zaE;rw[if_pos HE.o,HM.o];rfl),below_drewN (hBr.alloc (by omega) _) _⟩,by simp[intOf];omega⟩
   ·have hne:o.vs[k].toList.isEmpty=false:=by rw[zy];simp[he]
    have HE:Hid (¬o.vs[k].size=0):=he;clear he
    by_cases hfit:fits fs[k].kd fs[k].ls fs[k].ms fs[k].ws o.vs[k]=true
    all_goals
     first
      | (have HFT:Hid (fits fs[k].kd fs[k].ls fs[k].ms fs[k].ws o.vs[k]=true):=hfit)
      | (have HFT:Hid (fits fs[k].kd fs[k].ls fs[k].ms fs[k].ws o.vs[k]=false):=by simpa[Hid] using hfit)
     clear hfit;go_wp2_with fail
     have hbx:Bw wr ((wr.alloc (.cells #[.s fs[k].nm,.i fs[k].kd,.i fs[k].ls,.i fs[k].ms,.l wa fs[k].ws.length wcap,.s fs[k].to,.i fs[k].rl,.bool fs[k].mu,.bool fs[k].fx,.s fs[k].df,.s fs[k].wg] 175)).drew):=(bAl _ _).drew;have hmx:=(hbx.block _ (by omega)).trans hmr;have hstx:=hst.mono hbx
     go_region_with (go_at_call 202;refine(zh HFT.o (zfW _ _ _ _ _ _ _ _ _ _ _ _ _ _ _ _ (by exact hmx) hvs (by exact hstx))).mono ?_;rintro e w3⟨rfl,hb3⟩)
     all_goals go_wp2_with fail
    all_goals have hB3:Bw wr w3:=hbx.trans (hb3.mono (by simp))
    all_goals first
     | (have hft:fits fs[k].kd fs[k].ls fs[k].ms fs[k].ws o.vs[k]=true:=HFT.o
        exact⟨⟨k+1,by omega,by go_num,HS.o (by unfold zaE;rw[if_neg HE.o];unfold zfU;rw[hft];rfl),hBr.trans (hB3.mono hszr)⟩,by simp[intOf];omega⟩)
     | (have hft:fits fs[k].kd fs[k].ls fs[k].ms fs[k].ws o.vs[k]=false:=HFT.o
        go_ret;have hv:=HN.o 3 (by decide) (by unfold zaE;rw[if_neg HE.o];unfold zfU;rw[hft];rfl);exact⟨by rw[hfs,hv];rfl,hB.trans (hB3.mono (by omega))⟩)
  ·have HF:Hid (jI fs o.vs=(0,0)):=by
    have e:k=fs.length:=by omega
    subst e;exact zir hup
   clear hup;go_wp2_with fail
   go_ret;exact⟨by rw[hfs,HF.o];rfl,hB⟩
def zaN (b:Bk):Bool:=within b.now 0 1000000&&(within b.tick 0 1000000&&within b.given 0 b.now)
def yw (given:Int)(g:Gr):Bool:=within g.no 1 given&&(zx g.to&&((g.gb.toList.isEmpty||zx g.gb)&&zQ g.r))
noncomputable def yK (b:Bk):Bool:=decide (b.gs.length<=24)&&(zbU zcE b.gs&&b.gs.all (yw b.given))
def yJ (ts:List Tm)(g:Lg):Bool:=yC ts g.tm&&(zx g.rs&&jm g.fr g.mo 0 1000000)
noncomputable def yR (ts:List Tm)(b:Bk):Bool:=decide (b.ls.length<=10)&&(zbU qG b.ls&&b.ls.all (yJ ts))
theorem zlj (b:Bk)(a0 a1 a2 a3:OA)(c0 c1 c2 c3:Nat)(w:World) :
 Calls Tryz.prog 124 #[.agg (b.cells a0 a1 a2 a3 c0 c1 c2 c3)] w fun e w'=>e=.returned (.bool (zaN b))/\Bw w w':=by
 have HB:Hid (∀ob,Bw w (w.alloc ob)):=fun ob=>bAl _ _
 unfold Bk.cells
 by_cases h1:within b.now 0 1000000=true
 rotate_left
 ·have h1':within b.now 0 1000000=false:=by simpa using h1
  have HF:Hid (zaN b=false):=by unfold Hid zaN;rw[h1'];rfl
  have H1:Hid (∀W,Calls Tryz.prog 87 #[.i b.now,.i 0,.i 1000000] W fun e w'=>e=.returned (.bool false)/\w'=W):=fun W=>zh h1' (qV _ _ _ W)
  clear h1 h1';go_enter Tryz.func124,Tryz.ntmps124
  go_wp2_with (go_at_call 87;refine(H1.o _).mono ?_;rintro e w2⟨rfl,rfl⟩)
  go_ret;exact⟨ze HF.o.symm,HB.o _⟩
 by_cases h2:within b.tick 0 1000000=true
 rotate_left
 ·have h2':within b.tick 0 1000000=false:=by simpa using h2
  have HF:Hid (zaN b=false):=by unfold Hid zaN;rw[h1,h2'];rfl
  have H1:Hid (∀W,Calls Tryz.prog 87 #[.i b.now,.i 0,.i 1000000] W fun e w'=>e=.returned (.bool true)/\w'=W):=fun W=>zh h1 (qV _ _ _ W)
  have H2:Hid (∀W,Calls Tryz.prog 87 #[.i b.tick,.i 0,.i 1000000] W fun e w'=>e=.returned (.bool false)/\w'=W):=fun W=>zh h2' (qV _ _ _ W)
  clear h1 h2 h2';go_enter Tryz.func124,Tryz.ntmps124;go_wp2_with fail
  refine(H1.o _).mono ?_;rintro e w2⟨rfl,rfl⟩;go_wp2_with fail
  refine(H2.o _).mono ?_;rintro e w2⟨rfl,rfl⟩;go_wp2_with fail
  go_ret;exact⟨ze HF.o.symm,HB.o _⟩
 ·have HF:Hid (zaN b=within b.given 0 b.now):=by unfold Hid zaN;rw[h1,h2];rfl
  have H1:Hid (∀W,Calls Tryz.prog 87 #[.i b.now,.i 0,.i 1000000] W fun e w'=>e=.returned (.bool true)/\w'=W):=fun W=>zh h1 (qV _ _ _ W)
  have H2:Hid (∀W,Calls Tryz.prog 87 #[.i b.tick,.i 0,.i 1000000] W fun e w'=>e=.returned (.bool true)/\w'=W):=fun W=>zh h2 (qV _ _ _ W)
  clear h1 h2;go_enter Tryz.func124,Tryz.ntmps124;go_wp2_with fail
  refine(H1.o _).mono ?_;rintro e w2⟨rfl,rfl⟩;go_wp2_with fail
  refine(H2.o _).mono ?_;rintro e w2⟨rfl,rfl⟩;go_wp2_with fail
  refine(qV _ _ _ _).mono ?_;rintro e w2⟨rfl,rfl⟩;go_wp2_with fail
  go_ret;exact⟨ze HF.o.symm,HB.o _⟩
theorem zkU (b:Bk)(a0 a1 a2 a3:OA)(c0 c1 c2 c3:Nat)(w:World)(hb:jk w b a0 a1 a2 a3) :
 Calls Tryz.prog 126 #[.agg (b.cells a0 a1 a2 a3 c0 c1 c2 c3)] w fun e w'=>e=.returned (.bool (yK b))/\Bw w w':=by
 have HK:=hid hb;clear hb;unfold Bk.cells
 by_cases hln:b.gs.length<=24
 rotate_left
 ·have HF:Hid (yK b=false):=by unfold Hid yK;rw[decide_eq_false hln];rfl
  have hg:(24:Int)<(b.gs.length:Int):=by omega
  go_enter Tryz.func126,Tryz.ntmps126;go_wp2_with fail
  go_ret;exact⟨ze HF.o.symm,bAl _ _⟩
 have hg:decide ((24:Int)<(b.gs.length:Int))=false:=by simp;omega
 have HLN:Hid (b.gs.length<=24):=hln;clear hln;go_enter Tryz.func126,Tryz.ntmps126;go_wp2_with fail
 have hX0:=zl w (bC b a0 a1 a2 a3 c0 c1 c2 c3) 40;have HB0:Hid (Bw w (w.alloc (.cells (bC b a0 a1 a2 a3 c0 c1 c2 c3) 40))):=bAl _ _;obtain⟨W0,hW0⟩:=nm (w.alloc (.cells (bC b a0 a1 a2 a3 c0 c1 c2 c3) 40));have hz0:w.heap.size<W0.heap.size:=by rw[hW0];simp
 rw[<- hW0]at HB0 hX0 ⊢;clear hW0;refine(ziK _ _ b.gs _ (HK.o.gs.mono HB0.o)).mono ?_;rintro e w1⟨rfl,hb1⟩;have HB1:=hid (HB0.o.trans (hb1.mono HB0.o.size));have hX1:=za hX0 hz0 hb1;have hz1:=nLt hz0 hb1.size;clear hb1 hX0 hz0 HB0
 by_cases has:zbU zcE b.gs=true
 rotate_left
 ·have has':zbU zcE b.gs=false:=by simpa using has
  have HF:Hid (yK b=false):=by unfold Hid yK;rw[has'];simp
  rw[has'];clear has has';go_wp2_with fail
  go_ret;exact⟨ze HF.o.symm,HB1.o⟩
 have HG:Hid (yK b=b.gs.all (yw b.given)):=by unfold Hid yK;rw[has,decide_eq_true HLN.o];rfl
 rw[has];clear has;go_wp2_with fail
 go_loopw [18] (fun iv wr=>∃k:Nat,k<=b.gs.length/\iv=.i k/\Hid ((b.gs.take k).all (yw b.given)=true/\Bw w1 wr)) (fun iv _=>b.gs.length-(intOf iv).toNat)
 case atStart=>exact⟨0,Nat.zero_le _,rfl,by simp,bRf _ _⟩
 case round=>
  obtain⟨k,hk,rfl,HQ⟩:=hrel;have hkn:k<=24:=by have:=HLN.o;omega
  by_cases hlt:k<b.gs.length
  ·obtain⟨ob,off,v0,q0,rfl,hob,hsm,hi0,d0,d1,d2,d3,d4,d5,d6⟩:=HK.o.gs.load (HB1.o.trans (HQ.o.2.mono HB1.o.size)) k hlt
   have hob':=nLt hob (HB1.o.trans (HQ.o.2.mono HB1.o.size)).size;have hltI:(k:Int)<(b.gs.length:Int):=by omega
   have hX:=za hX1 hz1 HQ.o.2;have hz:w.heap.size<wr.heap.size:=nLt hz1 HQ.o.2.size;have HSn:Hid ((b.gs.take (k+1)).all (yw b.given)=((b.gs.take k).all (yw b.given)&&(yw b.given) b.gs[k])):=qR _ _ _ hlt;have HBo:Hid (∀ob,Bw w1 (wr.alloc ob)):=fun ob=>HQ.o.2.alloc HQ.o.2.size _
   have HBw:Hid (∀W,Bw w1 W->Bw w W):=fun W hW=>HB1.o.trans (hW.mono HB1.o.size)
   have HNo:Hid ((yw b.given) b.gs[k]=false->yK b=false):=fun h=>by rw[HG.o];exact zax _ _ _ hlt h
   have HYes:Hid ((yw b.given) b.gs[k]=true->(b.gs.take (k+1)).all (yw b.given)=true):=fun h=>by rw[HSn.o,HQ.o.1,h];rfl
   have HIt:=yU hi0 hsm;clear hsm hi0;have HW1:∀v,within b.gs[k].no 1 b.given=v->Hid (∀W,Calls Tryz.prog 87 #[.i b.gs[k].no,.i 1,.i b.given] W fun e w'=>e=.returned (.bool v)/\w'=W):=fun v h W=>zh h (qV _ _ _ W)
   have HN1:∀v,zx b.gs[k].to=v->Hid (∀W,Calls Tryz.prog 86 #[.s b.gs[k].to] W fun e w'=>e=.returned (.bool v)/\w'=W):=fun v h W=>zh h (zH _ W HIt.o.2.to)
   have HN2:∀v,zx b.gs[k].gb=v->Hid (∀W,Calls Tryz.prog 86 #[.s b.gs[k].gb] W fun e w'=>e=.returned (.bool v)/\w'=W):=fun v h W=>zh h (zH _ W HIt.o.2.gb)
   have HR1:∀v,zQ b.gs[k].r=v->Hid (∀W,Bw wr W->Calls Tryz.prog 172 #[.agg #[.l v0 b.gs[k].r.vs.length q0,.s b.gs[k].r.kd,.s b.gs[k].r.tm,.s b.gs[k].r.px]] W fun e w'=>e=.returned (.bool v)/\Bw W w'):=fun v h W hW=>zh h (zpp b.gs[k].r v0 q0 W HIt.o.2.r (HIt.o.1.mono hW))
   by_cases t1:within b.gs[k].no 1 b.given=true
   rotate_left
   ·have HF:Hid (yK b=false):=HNo.o (by unfold yw;rw[bFi t1];rfl)
    have H1:=HW1 false (bFi t1);clear HW1 HN1 HN2 HR1 t1;go_wp2_with fail
    refine(H1.o _).mono ?_;rintro e w2⟨rfl,rfl⟩;go_wp2_with fail
    go_ret;exact⟨ze HF.o.symm,HBw.o _ (HBo.o _)⟩
   have H1:=HW1 true t1
   by_cases t2:zx b.gs[k].to=true
   rotate_left
   ·have HF:Hid (yK b=false):=HNo.o (by unfold yw;rw[t1,bFi t2];rfl)
    have H2:=HN1 false (bFi t2);clear HW1 HN1 HN2 HR1 t1 t2;go_wp2_with fail
    refine(H1.o _).mono ?_;rintro e w2⟨rfl,rfl⟩;go_wp2_with fail
    refine(H2.o _).mono ?_;rintro e w2⟨rfl,rfl⟩;go_wp2_with fail
    go_ret;exact⟨ze HF.o.symm,HBw.o _ (HBo.o _)⟩
   have H2:=HN1 true t2
   by_cases t3:b.gs[k].gb.toList.isEmpty=true
   ·by_cases t5:zQ b.gs[k].r=true
    ·have HY:Hid ((b.gs.take (k+1)).all (yw b.given)=true):=HYes.o (by unfold yw;rw[t1,t2,t3,t5];rfl)
     have H5:=HR1 true t5;clear HW1 HN1 HN2 HR1 t1 t2 t5;go_wp2_with fail
     refine(H1.o _).mono ?_;rintro e w2⟨rfl,rfl⟩;go_wp2_with fail
     refine(H2.o _).mono ?_;rintro e w2⟨rfl,rfl⟩;go_wp2_with fail
     refine(H5.o _ (bAl _ _)).mono ?_;rintro e w2⟨rfl,hb2⟩;have HB2:=hid ((HBo.o _).trans (hb2.mono (HBo.o _).size));clear hb2;go_wp2_with fail
     exact⟨⟨k+1,by omega,by go_num,HY.o,HB2.o⟩,zn hlt⟩
    ·have HF:Hid (yK b=false):=HNo.o (by unfold yw;rw[t1,t2,t3,bFi t5];rfl)
     have H5:=HR1 false (bFi t5);clear HW1 HN1 HN2 HR1 t1 t2 t5;go_wp2_with fail
     refine(H1.o _).mono ?_;rintro e w2⟨rfl,rfl⟩;go_wp2_with fail
     refine(H2.o _).mono ?_;rintro e w2⟨rfl,rfl⟩;go_wp2_with fail
     refine(H5.o _ (bAl _ _)).mono ?_;rintro e w2⟨rfl,hb2⟩;have HB2:=hid ((HBo.o _).trans (hb2.mono (HBo.o _).size));clear hb2;go_wp2_with fail
     go_ret;exact⟨ze HF.o.symm,HBw.o _ HB2.o⟩
   have t3':=bFi t3;clear t3
   by_cases t4:zx b.gs[k].gb=true
   rotate_left
   ·have HF:Hid (yK b=false):=HNo.o (by unfold yw;rw[t1,t2,t3',bFi t4];rfl)
    have H4:=HN2 false (bFi t4);clear HW1 HN1 HN2 HR1 t1 t2 t4;go_wp2_with fail
    refine(H1.o _).mono ?_;rintro e w2⟨rfl,rfl⟩;go_wp2_with fail
    refine(H2.o _).mono ?_;rintro e w2⟨rfl,rfl⟩;go_wp2_with fail
    refine(H4.o _).mono ?_;rintro e w2⟨rfl,rfl⟩;go_wp2_with fail
    go_ret;exact⟨ze HF.o.symm,HBw.o _ (HBo.o _)⟩
   have H4:=HN2 true t4
   by_cases t5:zQ b.gs[k].r=true
   ·have HY:Hid ((b.gs.take (k+1)).all (yw b.given)=true):=HYes.o (by unfold yw;rw[t1,t2,t3',t4,t5];rfl)
    have H5:=HR1 true t5;clear HW1 HN1 HN2 HR1 t1 t2 t4 t5;go_wp2_with fail
    refine(H1.o _).mono ?_;rintro e w2⟨rfl,rfl⟩;go_wp2_with fail
    refine(H2.o _).mono ?_;rintro e w2⟨rfl,rfl⟩;go_wp2_with fail
    refine(H4.o _).mono ?_;rintro e w2⟨rfl,rfl⟩;go_wp2_with fail
    refine(H5.o _ (bAl _ _)).mono ?_;rintro e w2⟨rfl,hb2⟩;have HB2:=hid ((HBo.o _).trans (hb2.mono (HBo.o _).size));clear hb2;go_wp2_with fail
    exact⟨⟨k+1,by omega,by go_num,HY.o,HB2.o⟩,zn hlt⟩
   ·have HF:Hid (yK b=false):=HNo.o (by unfold yw;rw[t1,t2,t3',t4,bFi t5];rfl)
    have H5:=HR1 false (bFi t5);clear HW1 HN1 HN2 HR1 t1 t2 t4 t5;go_wp2_with fail
    refine(H1.o _).mono ?_;rintro e w2⟨rfl,rfl⟩;go_wp2_with fail
    refine(H2.o _).mono ?_;rintro e w2⟨rfl,rfl⟩;go_wp2_with fail
    refine(H4.o _).mono ?_;rintro e w2⟨rfl,rfl⟩;go_wp2_with fail
    refine(H5.o _ (bAl _ _)).mono ?_;rintro e w2⟨rfl,hb2⟩;have HB2:=hid ((HBo.o _).trans (hb2.mono (HBo.o _).size));clear hb2;go_wp2_with fail
    go_ret;exact⟨ze HF.o.symm,HBw.o _ HB2.o⟩
  ·have e:k=b.gs.length:=by omega
   subst e
   have HE:Hid (yK b=true):=by
    unfold Hid;rw[HG.o];have h:=HQ.o.1;rw[tOl (Nat.le_refl _)]at h;exact h
   have HBe:=hid (HB1.o.trans (HQ.o.2.mono HB1.o.size));clear hlt hk HQ;go_wp2_with fail
   go_ret;exact⟨ze HE.o.symm,HBe.o⟩
structure za8 (lo hi:Nat)(w:World)(b n:Nat):Prop where
 low:lo<=b
 high:b<hi
 rows:∃C,w.heap[b]?=some (.cells C 3)/\n<=C.size/\∀j,j<n->zaY C j
theorem za8.mono {lo hi:Nat}{w w':World}{b n:Nat}(h:za8 lo hi w b n)(hM:Marked lo hi w w'):za8 lo hi w' b n:=by
 obtain⟨C,hC,hs,hn⟩:=h.rows;obtain⟨C',hC',hs',hk⟩:=hM.inn b C _ h.low h.high hC;exact⟨h.low,h.high,C',hC',by omega,fun j hj a m c he=>hn j hj a m c ((hk j a m c).1 he)⟩
theorem zgB (g n cap:Nat)(C:AV)(k:Nat)(w:World)(hC:w.heap[g]?=some (.cells C 3))(hn:n<=C.size)(hns:∀i,i<n->∀a m c,C[i]?≠some (Value.slice a m c))(hk:0<k)(hkn:k+n<9000000000000000000) :
 Calls Tryz.prog 100 #[.l (some (aD g 0)) n cap,.i k] w fun e w'=>e=.returned (.i ((k+n:Nat):Int))/\Marked g (g+1) w w'/\∃C',w'.heap[g]?=some (.cells C' 3)/\C'.size=C.size/\∀i,i<n->C'[i]?=some (.i ((k+i:Nat):Int)):=by
 have HS:=hid hns;have HC:=hid hC;have HN:=hid hn;have HKN:=hid hkn;clear hC hn hns hkn;go_enter Tryz.func100,Tryz.ntmps100;go_wp2_with fail
 go_loopw [1,5] (fun kv iv wr=>∃i:Nat,i<=n/\kv=.i ((k+i:Nat):Int)/\iv=.i i/\Hid (Marked g (g+1) w wr/\∃C',wr.heap[g]?=some (.cells C' 3)/\C'.size=C.size/\∀j,j<i->C'[j]?=some (.i ((k+j:Nat):Int)))) (fun _ iv _=>n-(intOf iv).toNat)
 case atStart=>exact⟨0,Nat.zero_le _,rfl,rfl,Marked.refl _ _ _,C,HC.o,rfl,fun j h=>absurd h (Nat.not_lt_zero _)⟩
 case round=>
  obtain⟨i,hi,rfl,rfl,HQ⟩:=hrel;obtain⟨hM,C',hC',hs',hc'⟩:=HQ.o
  by_cases hlt:i<n
  ·have hltI:(i:Int)<(n:Int):=by omega
   have hgw:=(gES hC').1;obtain⟨cv,hce⟩:∃cv,wr.cell? (aD g i)=some cv:=⟨C'[i]'(by have:=HN.o;omega),by rw[cell_of_block hC'];exact Array.getElem?_eq_getElem (by have:=HN.o;omega)⟩
   have hfz:∀o,wr.frozen? (aD g o)=false:=fun o=>zf hC'
   have HE:Hid (Marked g (g+1) w (wr.setCell (aD g i) (.i ((k+i:Nat):Int)))/\∃C',(wr.setCell (aD g i) (.i ((k+i:Nat):Int))).heap[g]?=some (.cells C' 3)/\C'.size=C.size/\∀j,j<i+1->C'[j]?=some (.i ((k+j:Nat):Int))):=by
    refine⟨hM.put (Nat.le_refl _) (Nat.lt_succ_self _) HC.o (HS.o i hlt) _ (fun _ _ _ h=>by cases h),_,zi hC' _,by simpa using hs',fun j hj=>?_⟩
    by_cases e:j=i
    ·subst e;rw[Array.getElem?_setIfInBounds_self_of_lt (by have:=HN.o;omega)]
    ·rw[Array.getElem?_setIfInBounds_ne (by omega)];exact hc' j (by omega)
   have hw1:wrap64 ((k+i:Nat)+1:Int)=((k+(i+1):Nat):Int):=by rw[zA _ ⟨by omega,by have:=HKN.o;omega⟩];omega
   clear HQ hM hC' hs' hc';obtain⟨kk,hkk⟩:∃kk:Int,kk=((k+i:Nat):Int):=⟨_,rfl⟩
   rw[<- hkk]at HE hw1 ⊢;clear hkk;go_wp2_with fail
   go_roundw
   case rel=>exact⟨i+1,by omega,by rw[hw1],by rw[wrap_one (by have:=HKN.o;omega)],HE.o⟩
   case measure=>exact yT hlt (by have:=HKN.o;omega)
  ·have e:i=n:=by omega
   subst e;have HE:=hid HQ.o;clear HQ hM hC' hs' hc';go_wp2_with fail
   go_ret;exact⟨rfl,HE.o⟩
theorem zk8 (lo hi b n cap:Nat)(k:Int)(w:World)(h:za8 lo hi w b n)(hn:n<=1048576)(hk:0<k)(hk2:k<8000000000000000000) :
 Calls Tryz.prog 100 #[.l (some (aD b 0)) n cap,.i k] w fun e w'=>∃k',e=.returned (.i k')/\k'=k+n/\Marked lo hi w w':=by
 obtain⟨m,rfl⟩:∃m:Nat,k=m:=⟨k.toNat,by omega⟩
 obtain⟨C,hC,hs,hns⟩:=h.rows;refine(zgB b n cap C m w hC hs hns (by omega) (by omega)).mono fun e w' ⟨h1,h2,_⟩=>⟨_,h1,Int.natCast_add _ _,h2.wide h.low h.high⟩
def zck (k n:Nat):List BA:=(List.range n).map fun i=>zaF (k+i)
theorem zeH (k n:Nat):(zck k n).length=n:=by simp[zck]
theorem zic (k n i:Nat)(h:i<(zck k n).length):(zck k n)[i]=zaF (k+i):=by simp[zck]
theorem zo.form {lo:Nat}{w:World}{g:Addr}{ws:List BA}(h:zo lo w (some g) ws):∃b C,g=(aD b 0)/\lo<=b/\w.heap[b]?=some (.cells C 9)/\ws.length<=C.size/\∀j,j<ws.length->zaY C j:=by
 rcases h with⟨h0,_⟩|⟨b,C,h0,hg,hh,hc⟩
 ·cases h0
 ·cases h0
  refine⟨b,C,rfl,hg,hh,?_,fun j hj a n c he=>by rw[hc j hj]at he;cases he⟩
  rcases Nat.lt_or_ge C.size ws.length with hlt|hge
  ·have:=hc C.size hlt
   rw[Array.getElem?_eq_none (Nat.le_refl _)]at this;cases this
  ·exact hge
theorem zja (lo cap:Nat)(a:OA)(vs:List BA)(k:Nat)(w:World)(h:zo lo w a vs)(hk:0<k)(hkn:k+vs.length<9000000000000000000) :
 Calls Tryz.prog 99 #[.l a vs.length cap,.i k] w fun e w'=>e=.returned (.i ((k+vs.length:Nat):Int))/\zo lo w' a (zck k vs.length)/\Marked lo w.heap.size w w'/\(a=none->w'=w)/\∀g,a=some g->Marked g.block (g.block+1) w w':=by
 rcases a with _|g
 ·rcases h with⟨_,rfl⟩|⟨_,_,h0,_⟩
  ·exact(zhu (k:Int) none cap w).mono fun e w' ⟨h1,h2⟩=>⟨by simpa using h1,by subst h2;exact Or.inl ⟨rfl,rfl⟩,by subst h2;exact Marked.refl _ _ _,fun _=>h2,fun g hg=>by cases hg⟩
  ·cases h0
 ·obtain⟨b,C,rfl,hlo,hC,hs,hns⟩:=h.form
  refine(zeP b vs.length cap C k w hC hs hns hk hkn).mono fun e w' ⟨h1,h2,C',hC',hs',hc'⟩=>⟨h1,Or.inr ⟨b,C',rfl,hlo,hC',fun i hi=>?_⟩,h2.wide hlo (gES hC).1,fun h0=>(by cases h0),fun g hg=>by cases hg;exact h2⟩
  rw[zeH]at hi;rw[hc' i hi,zic]
structure j3 (lo hi:Nat)(w:World)(bo:Nat)(ms:List Mnd):Prop where
 low:lo<=bo
 high:bo<hi
 rows:∃C,w.heap[bo]?=some (.cells C 135)/\C.size=ms.length*6/\∀j,j<ms.length*6->zaY C j
theorem j3.mono {lo hi:Nat}{w w':World}{b:Nat}{ms:List Mnd}(h:j3 lo hi w b ms)(hM:Marked lo hi w w'):j3 lo hi w' b ms:=by
 obtain⟨C,hC,hs,hn⟩:=h.rows;obtain⟨C',hC',hs',hk⟩:=hM.inn b C _ h.low h.high hC;exact⟨h.low,h.high,C',hC',by omega,fun j hj a m c he=>hn j hj a m c ((hk j a m c).1 he)⟩
theorem je.form {lo:Nat}{w:World}{bo:Nat}{ms:List Mnd}(h:je lo w bo ms ms.length):j3 lo w.heap.size w bo ms:=by
 obtain⟨C,hC,hsz,hr⟩:=h.rows;refine⟨h.low,(gES hC).1,C,hC,hsz,fun j hj a n c he=>?_⟩;have hi:j / 6<ms.length:=by omega
 have e:j=j / 6*6+j % 6:=by omega
 rw[e,hr (j / 6) hi hi (j % 6) (by omega)]at he;have h6:j % 6<6:=by omega
 revert he
 generalize j % 6=q at h6
 intro he
 rcases q with _|_|_|_|_|_|q <;> first|omega|(simp[Mnd.cells]at he)
theorem j3.ready {lo hi bo:Nat}{w W:World}{ms:List Mnd}(h:j3 lo hi w bo ms)(hM:Marked lo hi w W)(i:Nat)(hi':i<ms.length) :
 (∀j,j<6->∃v,W.cell? (aD bo (i*6+j))=some v)/\(∀o,W.frozen? (aD bo o)=false):=by
 have h':=h.mono hM;obtain⟨C,hC,hs,hn⟩:=h'.rows;exact⟨fun j hj=>⟨C[i*6+j]'(by omega),by rw[cell_of_block hC];exact Array.getElem?_eq_getElem (by omega)⟩,fun o=>zf hC⟩
theorem j3.put {lo hi bo:Nat}{w W:World}{ms:List Mnd}(h:j3 lo hi w bo ms)(hM:Marked lo hi w W)(i j:Nat)(hi':i<ms.length)(hj:j<6)(v:Value)(hv:∀a n c,v≠Value.slice a n c):Marked lo hi w (W.setCell (aD bo (i*6+j)) v):=by
 obtain⟨C,hC,hs,hn⟩:=h.rows;exact hM.put h.low h.high hC (hn (i*6+j) (by omega)) v hv
set_option maxRecDepth 20000 in
theorem zgR (lo hi bo cap:Nat)(ms:List Mnd)(k:Int)(w:World)(h:j3 lo hi w bo ms)(hl:ms.length<=1048576)(hk:0<k)(hk2:k<6000000000000000000) :
 Calls Tryz.prog 47 #[.l (some (aD bo 0)) ms.length cap,.i k] w fun e w'=>∃k',e=.returned (.i k')/\k<=k'/\k'<=k+ms.length*6/\Marked lo hi w w':=by
 have HF:Hid (j3 lo hi w bo ms):=h;have HL:Hid (ms.length<=1048576):=hl;have HK:Hid (0<k/\k<6000000000000000000):=⟨hk,hk2⟩
 clear h hl hk hk2;go_enter Tryz.func47,Tryz.ntmps47;go_wp2_with fail
 go_loopw [1,5] (fun kv iv wr=>∃(i:Nat) (kk:Int),i<=ms.length/\kv=.i kk/\iv=.i i/\k<=kk/\kk<=k+i*6/\Marked lo hi w wr) (fun _ iv _=>ms.length-(intOf iv).toNat)
 case atStart=>exact⟨0,k,Nat.zero_le _,rfl,rfl,Int.le_refl _,by simp,Marked.refl _ _ _⟩
 case round=>
  obtain⟨i,kk,hile,rfl,rfl,h1,h2,hM⟩:=hrel
  by_cases hlt:i<ms.length
  ·have hltI:(i:Int)<(ms.length:Int):=by omega
   have HB:Hid (0<kk/\kk<7000000000000000000/\kk<=k+i*6/\k<=kk):=by have a:=HK.o;have b:=HL.o;exact⟨by omega,by omega,h2,h1⟩
   have HM:Hid (Marked lo hi w wr):=hM;clear h1 h2 hM;have hw1:wrap64 (kk+1)=kk+1:=by have:=HB.o;exact zA _ ⟨by omega,by omega⟩
   have hw2:wrap64 (kk+1+1)=kk+1+1:=by have:=HB.o;exact zA _ ⟨by omega,by omega⟩
   have hw3:wrap64 (kk+1+1+1)=kk+1+1+1:=by have:=HB.o;exact zA _ ⟨by omega,by omega⟩
   have hw4:wrap64 (kk+1+1+1+1)=kk+1+1+1+1:=by have:=HB.o;exact zA _ ⟨by omega,by omega⟩
   have hw5:wrap64 (kk+1+1+1+1+1)=kk+1+1+1+1+1:=by have:=HB.o;exact zA _ ⟨by omega,by omega⟩
   have hw6:wrap64 (kk+1+1+1+1+1+1)=kk+1+1+1+1+1+1:=by have:=HB.o;exact zA _ ⟨by omega,by omega⟩
   go_wp2_with fail
   refine(zN _ _ (by have:=HB.o;omega) (by have:=HB.o;omega)).mono ?_;rintro e wm0⟨s0,rfl,hb⟩;have HM0:Hid (Marked lo hi w wm0):=HM.o.trans (Marked.of_below hb);clear hb;obtain⟨hex,hfz⟩:=HF.o.ready HM0.o i hlt;obtain⟨v0,hv0⟩:=hex 0 (by omega);rw[Nat.add_zero]at hv0;have HP0:Hid (Marked lo hi w (wm0.setCell (aD bo (i*6)) (.s s0))):=HF.o.put HM0.o i 0 hlt (by omega) (.s s0) (fun _ _ _ h=>by cases h);clear hex;go_wp2_with fail
   clear hv0 hfz;refine(zN _ _ (by have:=HB.o;omega) (by have:=HB.o;omega)).mono ?_;rintro e wm1⟨s1,rfl,hb⟩;have HM1:Hid (Marked lo hi w wm1):=HP0.o.trans (Marked.of_below hb);clear hb;obtain⟨hex,hfz⟩:=HF.o.ready HM1.o i hlt;obtain⟨v1,hv1⟩:=hex 1 (by omega);have HP1:Hid (Marked lo hi w (wm1.setCell (aD bo (i*6+1)) (.s s1))):=HF.o.put HM1.o i 1 hlt (by omega) (.s s1) (fun _ _ _ h=>by cases h);clear hex;go_wp2_with fail
   clear hv1 hfz;refine(zN _ _ (by have:=HB.o;omega) (by have:=HB.o;omega)).mono ?_;rintro e wm2⟨s2,rfl,hb⟩;have HM2:Hid (Marked lo hi w wm2):=HP1.o.trans (Marked.of_below hb);clear hb;obtain⟨hex,hfz⟩:=HF.o.ready HM2.o i hlt;obtain⟨v2,hv2⟩:=hex 2 (by omega);have HP2:Hid (Marked lo hi w (wm2.setCell (aD bo (i*6+2)) (.s s2))):=HF.o.put HM2.o i 2 hlt (by omega) (.s s2) (fun _ _ _ h=>by cases h);clear hex;go_wp2_with fail
   clear hv2 hfz;refine(zN _ _ (by have:=HB.o;omega) (by have:=HB.o;omega)).mono ?_;rintro e wm3⟨s3,rfl,hb⟩;have HM3:Hid (Marked lo hi w wm3):=HP2.o.trans (Marked.of_below hb);clear hb;obtain⟨hex,hfz⟩:=HF.o.ready HM3.o i hlt;obtain⟨v3,hv3⟩:=hex 3 (by omega);have HP3:Hid (Marked lo hi w (wm3.setCell (aD bo (i*6+3)) (.s s3))):=HF.o.put HM3.o i 3 hlt (by omega) (.s s3) (fun _ _ _ h=>by cases h);clear hex;go_wp2_with fail
   clear hv3 hfz;refine(zN _ _ (by have:=HB.o;omega) (by have:=HB.o;omega)).mono ?_;rintro e wm4⟨s4,rfl,hb⟩;have HM4:Hid (Marked lo hi w wm4):=HP3.o.trans (Marked.of_below hb);clear hb;obtain⟨hex,hfz⟩:=HF.o.ready HM4.o i hlt;obtain⟨v4,hv4⟩:=hex 4 (by omega);have HP4:Hid (Marked lo hi w (wm4.setCell (aD bo (i*6+4)) (.s s4))):=HF.o.put HM4.o i 4 hlt (by omega) (.s s4) (fun _ _ _ h=>by cases h);clear hex;go_wp2_with fail
   clear hv4 hfz;refine(zN _ _ (by have:=HB.o;omega) (by have:=HB.o;omega)).mono ?_;rintro e wm5⟨s5,rfl,hb⟩;have HM5:Hid (Marked lo hi w wm5):=HP4.o.trans (Marked.of_below hb);clear hb;obtain⟨hex,hfz⟩:=HF.o.ready HM5.o i hlt;obtain⟨v5,hv5⟩:=hex 5 (by omega);have HP5:Hid (Marked lo hi w (wm5.setCell (aD bo (i*6+5)) (.s s5))):=HF.o.put HM5.o i 5 hlt (by omega) (.s s5) (fun _ _ _ h=>by cases h);clear hex;go_wp2_with fail
   go_roundw
   case rel=>exact⟨i+1,kk+1+1+1+1+1+1,by omega,by rw[hw6],by rw[wrap_one (by have:=HL.o;omega)],by have a:=HB.o;omega,by have a:=HB.o;omega,HP5.o⟩
   case measure=>exact yT hlt (by have:=HL.o;omega)
  ·have e:i=ms.length:=by omega
   subst e;go_wp2_with fail
   go_ret;exact⟨kk,rfl,h1,h2,hM⟩
def zjq (ss:List Shp)(o:Ob):List BA:=if zJ ss o.kd=true/\zZ ss=true/\o.vs.length=(shapeOf ss o.kd).fs.length then zah (shapeOf ss o.kd).fs o.vs else o.vs
def zgE (o:Ob)(vs:List BA)(w:World)(e:Ending)(w':World):Prop:=
 ∃a dap a' dap' m,e=.returned (.agg #[.s o.kd,.s o.nm,.s o.tm,.l a o.vs.length dap,.bool o.en,.l a' o.hs.length dap',.i o.vr])/\zo w.heap.size w' a vs/\(∀g,a=some g->g.block<m)/\w.heap.size<=m/\zo m w' a' o.hs/\Bw w w'
end Go.Proofs.YtbfgkhgmnfghgaaGreat
