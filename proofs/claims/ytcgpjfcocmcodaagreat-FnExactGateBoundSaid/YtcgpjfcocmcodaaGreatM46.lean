import Derived.Test.YtcgpjfcocmcodaaGreatM45
import Derived.WideKeyEntry
set_option maxHeartbeats 4000000
namespace Go.Proofs.YtcgpjfcocmcodaaGreat
open Go.RowKit
theorem yS.entry {kt mt:TypeId}(K:zjh kt)(hm:Tryz.prog.underlying mt=some (.map kt 3)){w:World}{r:Nat}{f:BA->BA->Option Int}(h:yS w r f)(a b:BA)(ha:a.size<=maxLen)(hb:b.size<=maxLen)(v0:Int)(hf:f a b=some v0) :
 ∃st:Int,(Instr.mapEntry mt (.map (some r)) (qY a b)).run Tryz.prog w=.ok (.tuple #[.i v0,.i st]) w /\
  ∀v:Int,∃w',(Instr.entryStore mt (.map (some r)) (.i st) (.i v)).run Tryz.prog w=.ok () w'/\yS w' r (fun p q=>if p=a/\q=b then some v else f p q)/\zhp r w w':=by
 obtain⟨es,clock,hh,h1,h2,h3⟩:=h.ex;obtain⟨l,hl⟩:=K.key a b ha hb;obtain⟨s1,s2⟩:=h.stamps es clock hh
 have hkeys:∀e∈es.toList,∃l,keyOf Tryz.prog kt e.key=some l:=fun e he=>by
  obtain⟨a',b',v,e1,ha',hb',_⟩:=h1 e he;rw[e1];exact K.key a' b' ha' hb'
 have hc:=K.law.check w false hl;have hs:=K.law.stays w hl
 rcases K.law.find w hl es.toList hkeys with⟨g1,g2⟩|⟨j,e,g1,g2,g3⟩
 ·obtain⟨x,hx,hk⟩:=h2 a b v0 hf
  exact absurd hk (g2 x hx)
 ·have hj:es[j]?=some e:=by simpa using g2
  have hv:e.val=.i v0:=by
   obtain⟨a',b',v',e1,_,_,e2,e3⟩:=h1 e (List.mem_of_getElem? g2);rw[g3]at e1;have hab:a=a'/\b=b':=by unfold qY at e1;simpa using e1
   obtain⟨rfl,rfl⟩:=hab;rw[e3]at hf;rw[e2,Option.some.inj hf]
  have hsame:es.modify j (fun e=>{ e with key:=qY a b })=es:=by
   apply Array.ext'
   rw[Array.toList_modify]
   apply List.ext_getElem?
   intro i;rw[List.getElem?_modify]
   by_cases e':j=i
   ·subst e'
    rw[g2]
    simp[<- g3]
   ·simp[e']
  have hset:{ w with heap:=w.heap.setIfInBounds r (.map es clock) }=w:=by
   have hr:r<w.heap.size:=(gES hh).1
   have:w.heap.setIfInBounds r (.map es clock)=w.heap:=by
    apply Array.ext_getElem?
    intro i
    by_cases e':r=i
    ·subst e';rw[Array.getElem?_setIfInBounds_self_of_lt hr,hh]
    ·rw[Array.getElem?_setIfInBounds_ne e']
   rw[this]
  refine⟨(e.born:Int),?_,fun v=>?_⟩
  ·rw[hv]at g1
   simp[Instr.mapEntry,run_underlying hm,MapKept.run_getObj_map hh,hc,g1,hj,g3,hs,hsame,MapKept.run_setObj_map _ hh,Result.andThen,goInt,hset]
  ·obtain⟨w',u1,u2,u3⟩:=h.upd K hm a b ha hb v
   refine⟨w',?_,u2,u3⟩
   have hidx:es.findIdx? (fun e'=>((e'.born:Nat):Int) == ((e.born:Nat):Int))=some j:=by
    rw[WideElems.findIdx_arr];exact WideElems.findIdx_born s2 g2
   have hmod:es.modify j (fun e=>{ e with val:=.i v })=es.modify j (fun e'=>{ e' with key:=qY a b,val:=.i v }):=by
    apply Array.ext'
    rw[Array.toList_modify,Array.toList_modify]
    apply List.ext_getElem?
    intro i;rw[List.getElem?_modify,List.getElem?_modify]
    by_cases e':j=i
    ·subst e'
     rw[g2]
     simp[<- g3]
    ·simp[e']
   simp[Instr.mapUpdate,run_underlying hm,MapKept.run_getObj_map hh,hc,g1,hj,g3,hs,MapKept.run_setObj_map _ hh,Result.andThen]at u1
   simp[Instr.entryStore,MapKept.run_getObj_map hh,asInt,asIntOf,hidx,hmod,MapKept.run_setObj_map _ hh,Result.andThen]
   exact u1
theorem zbV (ss:List Shp)(o:Ob):(qA ss o).length=o.vs.length:=by
 unfold qA
 split
 ·rename_i h;unfold zB at h;simp only[Bool.and_eq_true,decide_eq_true_eq]at h;exact qO h.2
 ·rfl
theorem zjq {ss:List Shp}{ms:List Mnd}(h:yB ss ms=true):zZ ss=true:=by
 unfold yB at h;simp only[Bool.and_eq_true]at h;exact h.1.1.2
theorem znB {ss:List Shp}{ms:List Mnd}{o:Ob}(h:yB ss ms=true):zbT ss ms o=zcy ss ms ⟨o.kd,o.nm,o.tm,qA ss o,o.en,o.hs,o.vr⟩:=by
 have e:qP ss ms ⟨o.kd,o.nm,o.tm,qA ss o,o.en,o.hs,o.vr⟩=qP ss ms o:=by
  unfold qP;simp only[zbV]
 unfold zbT zcy;rw[e]
 by_cases hm:qP ss ms o=true
 ·rw[if_pos hm,if_pos hm]
  have hc:zB ss o=true:=by rw[<- zaL h];exact hm
  unfold zgI qA;rw[if_pos hc]
 ·rw[if_neg hm,if_neg hm]
  have hc:¬zB ss o=true:=by rw[<- zaL h];exact hm
  show o.vs=qA ss o
  unfold qA;rw[if_neg hc]
theorem znH (a0 ma:OA)(cap0 mcap:Nat)(ss:List Shp)(ms:List Mnd)(o:Ob)(us:List BA)(hus:us.length=o.vs.length)(b off b' off' cap cap':Nat)(w:World)(hw:yT w a0 ss)(hm:qL w ma ms)(hsm:o.Small)(ho:zG w (some (aD b off)) us)(ho':zG w (some (aD b' off')) o.hs)(hl:o.vs.length<=1048576)(hl':o.hs.length<=1048576)(hok:yB ss ms=true) :
 Calls Tryz.prog 160 #[.l a0 ss.length cap0,.l ma ms.length mcap,.agg #[.s o.kd,.s o.nm,.s o.tm,.l (some (aD b off)) o.vs.length cap,.bool o.en,.l (some (aD b' off')) o.hs.length cap',.i o.vr]] w (zg0 o (zcy ss ms ⟨o.kd,o.nm,o.tm,us,o.en,o.hs,o.vr⟩) w):=by
 have h:=zmB a0 ma cap0 mcap ss ms ⟨o.kd,o.nm,o.tm,us,o.en,o.hs,o.vr⟩ b off b' off' cap cap' w hw hm ⟨⟨hsm.kd,hsm.nm,hsm.tm⟩,ho,ho'⟩ (by show us.length<=_;omega) hl' hok;unfold zg0 at h ⊢;simp only[hus]at h;exact h
theorem zgZ (a0 ma:OA)(cap0 mcap:Nat)(ss:List Shp)(ms:List Mnd)(o:Ob)(b off b' off' cap cap':Nat)(w:World)(hw:yT w a0 ss)(hmm:qL w ma ms)(ho:jU w o (some (aD b off)) (some (aD b' off')))(hl:o.vs.length<=1048576)(hl':o.hs.length<=1048576)(hok:yB ss ms=true) :
 Calls Tryz.prog 120 #[.l a0 ss.length cap0,.l ma ms.length mcap,.agg #[.s o.kd,.s o.nm,.s o.tm,.l (some (aD b off)) o.vs.length cap,.bool o.en,.l (some (aD b' off')) o.hs.length cap',.i o.vr]] w (zg0 o (zbT ss ms o) w):=by
 have HRES:Hid (zbT ss ms o=zcy ss ms ⟨o.kd,o.nm,o.tm,qA ss o,o.en,o.hs,o.vr⟩):=znB hok;have HSM:Hid ((qA ss o).length<=maxLen/\∀s∈qA ss o,s.size<=maxLen):=⟨by rw[zbV];exact ho.vals.len,by rw[<- zn7 (zjq hok)];exact zn6 hw.smalls ho.vals.small⟩
 have HH:=zbQ hw hmm ho;clear hw hmm ho;have hb2:=zw w (.cells (oC o (some (aD b off)) (some (aD b' off')) cap cap') 121) (.cells oZ 121);go_enter Tryz.func120,Tryz.ntmps120;go_wp2_with fail
 refine(znE a0 cap0 ss o b off b' off' cap cap' _ (HH.o.1.mono hb2) (HH.o.2.2.mono hb2) hl hl').mono ?_;rintro e w1⟨a1,dap1,a1',dap1',m1,rfl,ht1,hm1,hsm1,ht1',hb1,⟨g,rfl⟩,⟨g',rfl⟩⟩;have HR1:Hid (w1.heap[w.heap.size+1]?=some (.cells oZ 121)):=(hb1.block (w.heap.size+1) (by simp)).trans (zQ _ _ _).2;have hz1:w.heap.size+1<w1.heap.size:=by have:=hb1.size;simp at this;omega
 have hB1:Bw w w1:=hb2.trans (hb1.mono (by simp;omega));have hv1:=ht1.at HSM.o.1 HSM.o.2;have hv1':=ht1'.at HH.o.2.2.holds.len HH.o.2.2.holds.small;clear hb1 hb2 ht1 hm1 hsm1 ht1';go_wp2_with fail
 refine(znH a0 ma cap0 mcap ss ms o (qA ss o) (zbV ss o) g 0 g' 0 _ _ _ (HH.o.1.mono hB1) (HH.o.2.1.mono hB1) HH.o.2.2.small hv1 hv1' hl hl' hok).mono ?_;rintro e w4⟨a,dap,a',dap',m,rfl,ht,hm,hsm,ht',hb4⟩;have hR4:=(hb4.block (w.heap.size+1) hz1).trans HR1.o;have hRc:∀j,w4.cell? (aD (w.heap.size+1) j)=(oZ:AV)[j]?:=fun j=>cell_of_block hR4
 have hRf:∀j,w4.frozen? (aD (w.heap.size+1) j)=false:=fun j=>zh hR4
 have HX:Hid (zn (w.heap.size+1+1) w4 a (zbT ss ms o)/\(∀g,a=some g->g.block<m)/\w.heap.size+1+1<=m/\zn m w4 a' o.hs/\Bw w w4):=by rw[HRES.o];exact⟨ht.low hz1,hm,Nat.le_trans hz1 hsm,ht',hB1.trans (hb4.mono hB1.size)⟩
 clear ht hm hsm ht' hb4 hR4;go_wp2_with fail
 refine bodyPost_ret (v:=(.agg #[.s o.kd,.s o.nm,.s o.tm,.l a o.vs.length dap,.bool o.en,.l a' o.hs.length dap',.i o.vr])) (by simp[results,Tryz.results120,go_sem,hRc]) rfl ?_;obtain⟨ht,hm,hsm,ht',hB⟩:=HX.o;exact⟨a,dap,a',dap',m,rfl,(jO ht _ (by omega) _ _ _ _ _ _ _).low (by omega),hm,by omega,jO ht' _ (by omega) _ _ _ _ _ _ _,jq hB _ (by omega) _ _ _ _ _ _ _⟩
structure zjd (b:Bk):Prop where
 one:∀i j (hi:i<b.ls.length) (hj:j<b.ls.length),b.ls[i].tm=b.ls[j].tm->b.ls[i].rs=b.ls[j].rs->i=j
 has:∀k (hk:k<b.ps.length),∃j,∃hj:j<b.ls.length,b.ls[j].tm=b.ps[k].tm/\b.ls[j].rs=b.ps[k].rs
 fr:∀i (hi:i<b.ls.length),0<=b.ls[i].fr/\b.ls[i].fr<=1000000
 am:∀i (hi:i<b.ps.length),0<=b.ps[i].am/\b.ps[i].am<=1000000
 ll:b.ls.length<=1000
 lp:b.ps.length<=1000
 sz:qH b.os<=1048576
def sumTo (l:Lw)(b:Bk)(g:Lg)(k:Nat):Int:=g.fr+used l b.os g.tm g.rs+zbi b.ps g.tm g.rs k
theorem zel (l:Lw)(b:Bk)(tm rs:BA)(h:qH b.os<=1048576):0<=used l b.os tm rs/\used l b.os tm rs<=20000000000000:=by
 have h2:=zav l b.os tm rs b.os.length (Nat.le_refl _);rw[tOl (Nat.le_refl _)]at h2;unfold used;unfold qH at h;omega
theorem zgL {r:Nat}{w w':World}(h:zhp r w w'){b o:Nat}(hb:b≠r):w'.cell? (aD b o)=w.cell? (aD b o):=by
 unfold World.cell?
 rw[h.out b hb]
set_option maxRecDepth 20000 in
theorem zof (l:Lw)(la lb lc:OA)(lca lcb lcc:Nat)(b:Bk)(a0 a1 a2 a3:OA)(c0 c1 c2 c3:Nat)(w:World)(hl:jA w l la lb lc)(hb:ji w b a0 a1 a2 a3)(hs:zjd b) :
 Calls Tryz.prog 184 #[.agg #[.l la l.ss.length lca,.l lb l.ms.length lcb,.l lc l.ts.length lcc],.agg #[.i b.now,.i b.tick,.i b.given,.l a0 b.os.length c0,.l a1 b.gs.length c1,.l a2 b.ls.length c2,.l a3 b.ps.length c3]] w fun e w'=>(∃r f,e=.returned (.map (some r))/\w.heap.size<=r/\yS w' r f/\∀i (hi:i<b.ls.length),f b.ls[i].tm b.ls[i].rs=some (sumTo l b b.ls[i] b.ps.length))/\Bw w w':=by
 have HH:Hid (jA w l la lb lc/\ji w b a0 a1 a2 a3/\zjd b):=⟨hl,hb,hs⟩
 have hll:=hs.ll;have hlp:=hs.lp;have hmk:∀w:World,(Instr.makeMap 225 none).run Tryz.prog w=.ok (.map (some w.heap.size)) (w.alloc (.map #[] 0)):=fun w=>by kernel_rfl
 clear hl hb hs;go_enter Tryz.func184,Tryz.ntmps184;go_wp2_with fail
 have HB0:Hid (Bw w ((w.alloc (.cells #[.l la l.ss.length lca,.l lb l.ms.length lcb,.l lc l.ts.length lcc] 47)).alloc (.cells (bC b a0 a1 a2 a3 c0 c1 c2 c3) 40))):=zw _ _ _;have hX0:∀j,((w.alloc (.cells #[.l la l.ss.length lca,.l lb l.ms.length lcb,.l lc l.ts.length lcc] 47)).alloc (.cells (bC b a0 a1 a2 a3 c0 c1 c2 c3) 40)).cell? (aD w.heap.size j)=(#[.l la l.ss.length lca,.l lb l.ms.length lcb,.l lc l.ts.length lcc]:AV)[j]?:=fun j=>cell_of_block (zQ _ _ _).1
 have hX1:∀j,((w.alloc (.cells #[.l la l.ss.length lca,.l lb l.ms.length lcb,.l lc l.ts.length lcc] 47)).alloc (.cells (bC b a0 a1 a2 a3 c0 c1 c2 c3) 40)).cell? (aD (w.heap.size+1) j)=((bC b a0 a1 a2 a3 c0 c1 c2 c3):AV)[j]?:=fun j=>cell_of_block (zQ _ _ _).2
 obtain⟨W0,hW0⟩:=xN ((w.alloc (.cells #[.l la l.ss.length lca,.l lb l.ms.length lcb,.l lc l.ts.length lcc] 47)).alloc (.cells (bC b a0 a1 a2 a3 c0 c1 c2 c3) 40));have hsz:W0.heap.size=w.heap.size+1+1:=by rw[hW0];simp
 rw[<- hW0]at HB0 hX0 hX1 ⊢;clear hW0;have hz0:w.heap.size<W0.heap.size:=by omega
 have hz1:w.heap.size+1<W0.heap.size:=by omega
 have HSZ:=hid hsz;clear hsz;have hba:=(bRf W0.heap.size W0).alloc (Nat.le_refl _) (.map #[] 0);have hY1:=za hX1 hz1 hba;have hzm:=nLt hz1 hba.size;go_wp2_with fail
 clear hmk hY1 hzm hba
 go_loopw [14] (fun iv wr=>∃k:Nat,k<=b.ls.length/\iv=.i k/\Hid ((∃f,yS wr W0.heap.size f/\∀i (hi:i<b.ls.length),i<k->f b.ls[i].tm b.ls[i].rs=some (sumTo l b b.ls[i] 0))/\Bw W0 wr)) (fun iv _=>b.ls.length-(intOf iv).toNat)
 case atStart=>exact⟨0,Nat.zero_le _,rfl,⟨_,yS.new W0,fun i hi h=>absurd h (Nat.not_lt_zero _)⟩,bAl _ _⟩
 case round=>
  obtain⟨k,hk,rfl,HQ⟩:=hrel;have hkn:k<=1000:=by omega
  by_cases hlt:k<b.ls.length
  ·obtain⟨f,hf,hfk⟩:=HQ.o.1
   have hBr:=HQ.o.2;have HBw:Hid (∀W,Bw W0 W->Bw w W):=fun W hW=>HB0.o.trans (hW.mono HB0.o.size)
   obtain⟨ob,off,rfl,hob,d0,d1,d2,d3⟩:=HH.o.2.1.ls.load (HBw.o _ hBr) k hlt;have hsm:=HH.o.2.1.ls.small k hlt;have hltI:(k:Int)<(b.ls.length:Int):=by omega
   have hob':=nLt hob (HBw.o _ hBr).size;have hfr:=HH.o.2.2.fr k hlt;have hus:=zel l b b.ls[k].tm b.ls[k].rs HH.o.2.2.sz;have hwr:IntKind.i64.wrap (b.ls[k].fr+used l b.os b.ls[k].tm b.ls[k].rs)=b.ls[k].fr+used l b.os b.ls[k].tm b.ls[k].rs:=by rw[IntKind.wrap_i64];omega
   have hS0:=za hX0 hz0 hBr;have hS1:=za hX1 hz1 hBr;have HM:=ql hf hBr;have HFK:=hid hfk;have hzl:=nLt hz0 hBr.size;have hzb:=nLt hz1 hBr.size;clear hf hfk hBr HQ;go_wp2_with fail
   have hba:=(bRf wr.heap.size wr).alloc (Nat.le_refl _) (.cells #[.s b.ls[k].tm,.s b.ls[k].rs,.i b.ls[k].mo,.i b.ls[k].fr] 69);have hT0:=za hS0 hzl hba;have hT1:=za hS1 hzb hba;have hT2:=zl wr #[.s b.ls[k].tm,.s b.ls[k].rs,.i b.ls[k].mo,.i b.ls[k].fr] 69;have hzg:wr.heap.size<(wr.alloc (.cells #[.s b.ls[k].tm,.s b.ls[k].rs,.i b.ls[k].mo,.i b.ls[k].fr] 69)).heap.size:=by simp
   obtain⟨W2,hW2⟩:=xN (wr.alloc (.cells #[.s b.ls[k].tm,.s b.ls[k].rs,.i b.ls[k].mo,.i b.ls[k].fr] 69));rw[<- hW2]at hba hT0 hT1 hT2 hzg ⊢;clear hW2 hS0 hS1 d0 d1 d2 d3;have hS0:=za hT0 (nLt hzl hba.size) (bRf W2.heap.size W2).drew;have hS1:=za hT1 (nLt hzb hba.size) (bRf W2.heap.size W2).drew;have hS2:=za hT2 hzg (bRf W2.heap.size W2).drew;have hb:=hba.trans ((bRf W2.heap.size W2).drew.mono hba.size);have hy0:=nLt hzl hb.size;have hy1:=nLt hzb hb.size;have hy2:=hzg;have hne0:w.heap.size≠W0.heap.size:=by have:=HSZ.o;omega
   have hne1:w.heap.size+1≠W0.heap.size:=by have:=HSZ.o;omega
   have hne2:wr.heap.size≠W0.heap.size:=by have:=HM.o.1.lt;omega
   have HNE:=zbQ hne0 hne1 hne2;clear hne0 hne1 hne2;clear hT0 hT1 hT2 hba
   go_region_held3 (fun w'=>(∀j,w'.cell? (aD w.heap.size j)=(#[.l la l.ss.length lca,.l lb l.ms.length lcb,.l lc l.ts.length lcc]:AV)[j]?)/\(∀j,w'.cell? (aD (w.heap.size+1) j)=(#[.i b.now,.i b.tick,.i b.given,.l a0 b.os.length c0,.l a1 b.gs.length c1,.l (some (aD ob off)) b.ls.length c2,.l a3 b.ps.length c3]:AV)[j]?)/\(∀j,w'.cell? (aD wr.heap.size j)=(#[.s b.ls[k].tm,.s b.ls[k].rs,.i b.ls[k].mo,.i b.ls[k].fr]:AV)[j]?)) (first|exact⟨fun j=>by rw[hS0],fun j=>by rw[hS1],fun j=>by rw[hS2]⟩|exact⟨fun j=>by rw[hU0],fun j=>by rw[hU1],fun j=>by rw[hU2]⟩) (first
    | (go_at_call 96;refine(zaE b.ls[k] _).mono ?_;rintro e w5⟨rfl,hb5⟩;unfold qY;have hS0:=za hS0 hy0 hb5;have hS1:=za hS1 hy1 hb5;have hS2:=za hS2 hy2 hb5;have hy0:=nLt hy0 hb5.size;have hy1:=nLt hy1 hb5.size;have hy2:=nLt hy2 hb5.size;have hb:=hb.trans (hb5.mono hb.size);clear hb5)
    | (go_at_call 43;refine(zgD l la lb lc lca lcb lcc b a0 a1 (some (aD ob off)) a3 c0 c1 c2 c3 _ _ _ (by exact HH.o.1.mono ((HBw.o _ HM.o.2).trans (hb.mono (HBw.o _ HM.o.2).size))) (by exact HH.o.2.1.mono ((HBw.o _ HM.o.2).trans (hb.mono (HBw.o _ HM.o.2).size))) HH.o.2.2.sz).mono ?_;rintro e w6⟨rfl,hb6⟩;have hS0:=za hS0 hy0 hb6;have hS1:=za hS1 hy1 hb6;have hS2:=za hS2 hy2 hb6;have hb:=hb.trans (hb6.mono hb.size);have hf6:=HM.o.1.mono hb;obtain⟨w7,hup,hf7,hp7⟩:=hf6.upd zc6 Tryz.underlying225 b.ls[k].tm b.ls[k].rs hsm.tm hsm.rs (b.ls[k].fr+used l b.os b.ls[k].tm b.ls[k].rs);unfold qY at hup;rw[HSZ.o]at hup;have hU0:=fun j=>(zgL hp7 (o:=j) HNE.o.1).trans (hS0 j);have hU1:=fun j=>(zgL hp7 (o:=j) HNE.o.2.1).trans (hS1 j);have hU2:=fun j=>(zgL hp7 (o:=j) HNE.o.2.2).trans (hS2 j);clear hb6))
   go_wp2_with fail
   refine⟨⟨k+1,by omega,by go_num,⟨_,hf7,fun i hi hik=>?_⟩,hp7.below (HM.o.2.trans (hb.mono HM.o.2.size)) (Nat.le_refl _)⟩,zq hlt⟩
   by_cases e:i=k
   ·subst e
    rw[if_pos ⟨rfl,rfl⟩]
    simp[sumTo,zbi]
   ·rw[if_neg (fun h=>e (HH.o.2.2.one i k hi hlt h.1 h.2))]
    exact HFK.o i hi (by omega)
  ·have e:k=b.ls.length:=by omega
   have hBr:=HQ.o.2;have hS1:=za hX1 hz1 hBr;have hzb:=nLt hz1 hBr.size
   have HM:Hid (∃f,yS wr W0.heap.size f/\∀i (hi:i<b.ls.length),f b.ls[i].tm b.ls[i].rs=some (sumTo l b b.ls[i] 0)):=by
    obtain⟨f,hf,hfk⟩:=HQ.o.1;exact⟨f,hf,fun i hi=>hfk i hi (by omega)⟩
   have HBr:=hid hBr;have HBw:Hid (∀W,Bw W0 W->Bw w W):=fun W hW=>HB0.o.trans (hW.mono HB0.o.size)
   clear hBr HQ hlt hk hkn;subst e;go_wp2_with fail
   clear hS1
   go_loopw [35] (fun iv ws=>∃k:Nat,k<=b.ps.length/\iv=.i k/\Hid ((∃f,yS ws W0.heap.size f/\∀i (hi:i<b.ls.length),f b.ls[i].tm b.ls[i].rs=some (sumTo l b b.ls[i] k))/\Bw W0 ws)) (fun iv _=>b.ps.length-(intOf iv).toNat)
   case atStart=>exact⟨0,Nat.zero_le _,rfl,HM.o,HBr.o⟩
   case round=>
    obtain⟨k,hk,rfl,HQ⟩:=hrel;have hkn:k<=1000:=by omega
    by_cases hlt:k<b.ps.length
    ·obtain⟨f,hf,hfk⟩:=HQ.o.1
     have hBr:=HQ.o.2;obtain⟨ob,off,rfl,hob,d0,d1,d2,d3,d4⟩:=HH.o.2.1.ps.load (HBw.o _ hBr) k hlt;have hsm:=HH.o.2.1.ps.small k hlt;have hltI:(k:Int)<(b.ps.length:Int):=by omega
     have hob':=nLt hob (HBw.o _ hBr).size
     obtain⟨v,hv,hvb⟩:∃v,f b.ps[k].tm b.ps[k].rs=some v/\0<=v/\v<=30000000000000:=by
      obtain⟨j,hj,e1,e2⟩:=HH.o.2.2.has k hlt;refine⟨_,by rw[<- e1,<- e2];exact hfk j hj,?_⟩;have h1:=HH.o.2.2.fr j hj;have h2:=zel l b b.ls[j].tm b.ls[j].rs HH.o.2.2.sz;have h3:=zbE b.ps b.ls[j].tm b.ls[j].rs HH.o.2.2.am k hk;unfold sumTo;omega
     have ham:=HH.o.2.2.am k hlt;have hwr:IntKind.i64.wrap (v+b.ps[k].am)=v+b.ps[k].am:=by rw[IntKind.wrap_i64];omega
     have HM2:=zbX hf hBr hv hfk;clear hf hfk hBr HQ hv hvb
     have HFIN:Hid (∀i (hi:i<b.ls.length),(if b.ls[i].tm=b.ps[k].tm/\b.ls[i].rs=b.ps[k].rs then some (v+b.ps[k].am) else f b.ls[i].tm b.ls[i].rs)=some (sumTo l b b.ls[i] (k+1))):=by
      intro i hi;obtain⟨_,_,g1,g2⟩:=HM2.o;have g3:=g2 i hi
      by_cases e:b.ls[i].tm=b.ps[k].tm/\b.ls[i].rs=b.ps[k].rs
      ·rw[if_pos e]
       have g4:v=sumTo l b b.ls[i] k:=by
        rw[e.1,e.2,g1]at g3;exact Option.some.inj g3
       unfold sumTo at g4 ⊢;rw[zft _ _ _ _ hlt,if_pos (by unfold zor;simp[e.1,e.2]),g4]
       congr 1
       omega
      ·rw[if_neg e,g3]
       unfold sumTo;rw[zft _ _ _ _ hlt,if_neg (by unfold zor;simp only[Bool.and_eq_true,decide_eq_true_eq];exact fun h=>e ⟨h.1.symm,h.2.symm⟩)]
       congr 1
       omega
     go_wp2_with fail
     have hba:=(bRf wr.heap.size wr).alloc (Nat.le_refl _) (.cells #[.s b.ps[k].dr,.s b.ps[k].tm,.s b.ps[k].rs,.i b.ps[k].am,.i b.ps[k].un] 142);have hT2:=zl wr #[.s b.ps[k].dr,.s b.ps[k].tm,.s b.ps[k].rs,.i b.ps[k].am,.i b.ps[k].un] 142;have hzg:wr.heap.size<(wr.alloc (.cells #[.s b.ps[k].dr,.s b.ps[k].tm,.s b.ps[k].rs,.i b.ps[k].am,.i b.ps[k].un] 142)).heap.size:=by simp
     obtain⟨W2,hW2⟩:=xN (wr.alloc (.cells #[.s b.ps[k].dr,.s b.ps[k].tm,.s b.ps[k].rs,.i b.ps[k].am,.i b.ps[k].un] 142));rw[<- hW2]at hba hT2 hzg ⊢;clear hW2 d0 d1 d2 d3 d4;have hS2:=za hT2 hzg (bRf W2.heap.size W2).drew;have hb:=hba.trans ((bRf W2.heap.size W2).drew.mono hba.size);have hy2:=hzg;have HNE:Hid (wr.heap.size≠W0.heap.size):=by have:=HM2.o.1.lt;intro h;omega
     clear hT2 hba
     go_region_held3 (fun w'=>∀j,w'.cell? (aD wr.heap.size j)=(#[.s b.ps[k].dr,.s b.ps[k].tm,.s b.ps[k].rs,.i b.ps[k].am,.i b.ps[k].un]:AV)[j]?) (first|exact fun j=>by rw[hS2]|exact fun j=>by rw[hU2]) (first
      | (go_at_call 183;refine(zdL b.ps[k] _).mono ?_;rintro e w5⟨rfl,hb5⟩;have hS2:=za hS2 hy2 hb5;have hb:=hb.trans (hb5.mono hb.size);have hf5:=HM2.o.1.mono hb;have hlk:=hf5.look zc6 Tryz.underlying225 b.ps[k].tm b.ps[k].rs hsm.tm hsm.rs false;rw[HM2.o.2.2.1]at hlk;obtain⟨st,hen,hst⟩:=hf5.entry zc6 Tryz.underlying225 b.ps[k].tm b.ps[k].rs hsm.tm hsm.rs v HM2.o.2.2.1;obtain⟨w7,hup,hf7,hp7⟩:=hst (v+b.ps[k].am);unfold qY at hlk hen ⊢;rw[HSZ.o]at hlk hen hup;simp only[Option.getD_some,Bool.false_eq_true,if_false]at hlk;have hU2:=fun j=>(zgL hp7 (o:=j) HNE.o).trans (hS2 j);clear hb5 hst))
     all_goals first|(go_wp2_with fail;exact⟨⟨k+1,by omega,by go_num,⟨_,hf7,HFIN.o⟩,hp7.below (HM2.o.2.1.trans (hb.mono HM2.o.2.1.size)) (Nat.le_refl _)⟩,zq hlt⟩)|exact⟨⟨k+1,by omega,by go_num,⟨_,hf7,HFIN.o⟩,hp7.below (HM2.o.2.1.trans (hb.mono HM2.o.2.1.size)) (Nat.le_refl _)⟩,zq hlt⟩
    ·have e:k=b.ps.length:=by omega
     subst e;have HE:=hid HQ.o;clear HQ hlt hk;go_wp2_with fail
     go_ret;obtain⟨⟨f,h1,h2⟩,h3⟩:=HE.o;rw[HSZ.o]at h1;exact⟨⟨_,f,rfl,by omega,h1,h2⟩,HBw.o _ h3⟩
def za0 (l:Lw)(b:Bk)(g:Lg):Bool:=decide (sumTo l b g b.ps.length=g.mo)
def zcP (l:Lw)(b:Bk):Bool:=b.ls.all (za0 l b)
set_option maxRecDepth 20000 in
theorem znL (l:Lw)(la lb lc:OA)(lca lcb lcc:Nat)(b:Bk)(a0 a1 a2 a3:OA)(c0 c1 c2 c3:Nat)(w:World)(hl:jA w l la lb lc)(hb:ji w b a0 a1 a2 a3)(hs:zjd b) :
 Calls Tryz.prog 138 #[.agg #[.l la l.ss.length lca,.l lb l.ms.length lcb,.l lc l.ts.length lcc],.agg #[.i b.now,.i b.tick,.i b.given,.l a0 b.os.length c0,.l a1 b.gs.length c1,.l a2 b.ls.length c2,.l a3 b.ps.length c3]] w fun e w'=>e=.returned (.bool (zcP l b))/\Bw w w':=by
 have HH:=zbQ hl hb hs;have hll:=hs.ll;clear hl hb hs;have HG:Hid (zcP l b=b.ls.all (za0 l b)):=rfl;go_enter Tryz.func138,Tryz.ntmps138;go_wp2_with fail
 have hb2:=zw w (.cells #[.l la l.ss.length lca,.l lb l.ms.length lcb,.l lc l.ts.length lcc] 47) (.cells (bC b a0 a1 a2 a3 c0 c1 c2 c3) 40);refine(zof l la lb lc lca lcb lcc b a0 a1 a2 a3 c0 c1 c2 c3 _ (HH.o.1.mono hb2) (HH.o.2.1.mono hb2) HH.o.2.2).mono ?_;rintro e w1⟨⟨r,f,rfl,hr,hf,hfk⟩,hb1⟩;have hX1:∀j,w1.cell? (aD (w.heap.size+1) j)=((bC b a0 a1 a2 a3 c0 c1 c2 c3):AV)[j]?:=fun j=>cell_of_block ((hb1.block (w.heap.size+1) (by simp)).trans (zQ _ _ _).2)
 have hz1:w.heap.size+1<w1.heap.size:=by have:=hb1.size;simp at this;omega
 have HB1:Hid (Bw w w1):=hb2.trans (hb1.mono (by simp;omega));have HM:=ql hf hfk;clear hb1 hb2 hf hfk hr;go_wp2_with fail
 go_loopw [14] (fun iv wr=>∃k:Nat,k<=b.ls.length/\iv=.i k/\Hid ((b.ls.take k).all (za0 l b)=true/\Bw w1 wr)) (fun iv _=>b.ls.length-(intOf iv).toNat)
 case atStart=>exact⟨0,Nat.zero_le _,rfl,by simp,bRf _ _⟩
 case round=>
  obtain⟨k,hk,rfl,HQ⟩:=hrel;have hkn:k<=1000:=by omega
  by_cases hlt:k<b.ls.length
  ·have hBr:=HQ.o.2
   have hBw:=HB1.o.trans (hBr.mono HB1.o.size);obtain⟨ob,off,rfl,hob,d0,d1,d2,d3⟩:=HH.o.2.1.ls.load hBw k hlt;have hsm:=HH.o.2.1.ls.small k hlt;have hltI:(k:Int)<(b.ls.length:Int):=by omega
   have hob':ob<wr.heap.size:=nLt hob hBw.size;have HSn:Hid ((b.ls.take (k+1)).all (za0 l b)=((b.ls.take k).all (za0 l b)&&(za0 l b) b.ls[k])):=qN _ _ _ hlt;have HNo:Hid ((za0 l b) b.ls[k]=false->zcP l b=false):=fun h=>by rw[HG.o];exact zaw _ _ _ hlt h
   have HYes:Hid ((za0 l b) b.ls[k]=true->(b.ls.take (k+1)).all (za0 l b)=true):=fun h=>by rw[HSn.o,HQ.o.1,h];rfl
   obtain⟨v,hv⟩:=xN (sumTo l b b.ls[k] b.ps.length);have HM2:Hid (yS wr r f/\Bw w1 wr/\f b.ls[k].tm b.ls[k].rs=some v):=⟨HM.o.1.mono hBr,hBr,by rw[hv];exact HM.o.2 k hlt⟩
   have HV:=hid hv;clear hBr hBw HQ hv
   by_cases he:v=b.ls[k].mo
   ·have e2:(v != b.ls[k].mo)=false:=by simp[he]
    have HN:Hid ((b.ls.take (k+1)).all (za0 l b)=true):=HYes.o (by unfold za0;rw[decide_eq_true_eq,<- HV.o];exact he);clear he;go_wp2_with fail
    have hba:=(bRf wr.heap.size wr).alloc (Nat.le_refl _) (.cells #[.s b.ls[k].tm,.s b.ls[k].rs,.i b.ls[k].mo,.i b.ls[k].fr] 69);have hT2:=zl wr #[.s b.ls[k].tm,.s b.ls[k].rs,.i b.ls[k].mo,.i b.ls[k].fr] 69;have hzg:wr.heap.size<(wr.alloc (.cells #[.s b.ls[k].tm,.s b.ls[k].rs,.i b.ls[k].mo,.i b.ls[k].fr] 69)).heap.size:=by simp
    obtain⟨W2,hW2⟩:=xN (wr.alloc (.cells #[.s b.ls[k].tm,.s b.ls[k].rs,.i b.ls[k].mo,.i b.ls[k].fr] 69));rw[<- hW2]at hba hT2 hzg ⊢;clear hW2 d0 d1 d2 d3;have hS2:=za hT2 hzg (bRf W2.heap.size W2).drew;have hb:=hba.trans ((bRf W2.heap.size W2).drew.mono hba.size);have hy2:=hzg;clear hT2 hba
    go_region_held3 (fun w'=>∀j,w'.cell? (aD wr.heap.size j)=(#[.s b.ls[k].tm,.s b.ls[k].rs,.i b.ls[k].mo,.i b.ls[k].fr]:AV)[j]?) (exact fun j=>by rw[hS2]) (first
     | (go_at_call 96;refine(zaE b.ls[k] _).mono ?_;rintro e w5⟨rfl,hb5⟩;have hS2:=za hS2 hy2 hb5;have hb:=hb.trans (hb5.mono hb.size);have hf5:=HM2.o.1.mono hb;have hlk:=hf5.look zc6 Tryz.underlying225 b.ls[k].tm b.ls[k].rs hsm.tm hsm.rs false;rw[HM2.o.2.2]at hlk;unfold qY at hlk ⊢;simp only[Option.getD_some,Bool.false_eq_true,if_false]at hlk;clear hb5))
    go_wp2_with fail
    exact⟨⟨k+1,by omega,by go_num,HN.o,HM2.o.2.1.trans (hb.mono HM2.o.2.1.size)⟩,zq hlt⟩
   ·have e2:(v != b.ls[k].mo)=true:=by simp[he]
    have HN:Hid (zcP l b=false):=HNo.o (by unfold za0;rw[decide_eq_false_iff_not,<- HV.o];exact he);clear he;go_wp2_with fail
    have hba:=(bRf wr.heap.size wr).alloc (Nat.le_refl _) (.cells #[.s b.ls[k].tm,.s b.ls[k].rs,.i b.ls[k].mo,.i b.ls[k].fr] 69);have hT2:=zl wr #[.s b.ls[k].tm,.s b.ls[k].rs,.i b.ls[k].mo,.i b.ls[k].fr] 69;have hzg:wr.heap.size<(wr.alloc (.cells #[.s b.ls[k].tm,.s b.ls[k].rs,.i b.ls[k].mo,.i b.ls[k].fr] 69)).heap.size:=by simp
    obtain⟨W2,hW2⟩:=xN (wr.alloc (.cells #[.s b.ls[k].tm,.s b.ls[k].rs,.i b.ls[k].mo,.i b.ls[k].fr] 69));rw[<- hW2]at hba hT2 hzg ⊢;clear hW2 d0 d1 d2 d3;have hS2:=za hT2 hzg (bRf W2.heap.size W2).drew;have hb:=hba.trans ((bRf W2.heap.size W2).drew.mono hba.size);have hy2:=hzg;clear hT2 hba
    go_region_held3 (fun w'=>∀j,w'.cell? (aD wr.heap.size j)=(#[.s b.ls[k].tm,.s b.ls[k].rs,.i b.ls[k].mo,.i b.ls[k].fr]:AV)[j]?) (exact fun j=>by rw[hS2]) (first
     | (go_at_call 96;refine(zaE b.ls[k] _).mono ?_;rintro e w5⟨rfl,hb5⟩;have hS2:=za hS2 hy2 hb5;have hb:=hb.trans (hb5.mono hb.size);have hf5:=HM2.o.1.mono hb;have hlk:=hf5.look zc6 Tryz.underlying225 b.ls[k].tm b.ls[k].rs hsm.tm hsm.rs false;rw[HM2.o.2.2]at hlk;unfold qY at hlk ⊢;simp only[Option.getD_some,Bool.false_eq_true,if_false]at hlk;clear hb5))
    go_wp2_with fail
    go_ret;have h9:=HM2.o.2.1.trans (hb.mono HM2.o.2.1.size);exact⟨ze HN.o.symm,HB1.o.trans (h9.mono HB1.o.size)⟩
  ·have e:k=b.ls.length:=by omega
   subst e;have HE:Hid (zcP l b=true):=by have:=HQ.o.1;rw[tOl (Nat.le_refl _)]at this;unfold Hid;rw[HG.o];exact this
   have HB:=hid HQ.o.2;clear HQ hlt hk;go_wp2_with fail
   go_ret;exact⟨ze HE.o.symm,HB1.o.trans (HB.o.mono HB1.o.size)⟩
end Go.Proofs.YtcgpjfcocmcodaaGreat
