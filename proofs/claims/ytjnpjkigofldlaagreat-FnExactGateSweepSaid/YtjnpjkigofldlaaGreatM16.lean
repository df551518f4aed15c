import Derived.Test.YtjnpjkigofldlaaGreatM10
set_option maxRecDepth 20000
set_option maxHeartbeats 1000000
namespace Go.Proofs.YtjnpjkigofldlaaGreat
open Go.RowKit
variable {w:World}{ws:List BA}{a:OA}
def jg:Array MapEntry:=#[⟨.i 1,.func (.func 209) #[] #[],0⟩,⟨.i 2,.func (.func 210) #[] #[],1⟩,⟨.i 3,.func (.func 211) #[] #[],2⟩,⟨.i 4,.func (.func 212) #[] #[],3⟩]
theorem zcY (w:World) :
 Calls Tryz.prog 171 #[] w fun e w'=>e=.returned (.map (some w.heap.size))/\w'=w.alloc (.map jg 4):=by
 have hmm:=@run_makeMap Tryz.prog;have i1:=zbd (P:=Tryz.prog) Tryz.underlying225 Tryz.underlying3 (.i 1) (.func (.func 209) #[] #[]) rfl #[] 0 rfl;have i2:=zbd (P:=Tryz.prog) Tryz.underlying225 Tryz.underlying3 (.i 2) (.func (.func 210) #[] #[]) rfl #[⟨.i 1,.func (.func 209) #[] #[],0⟩] 1 rfl;have i3:=zbd (P:=Tryz.prog) Tryz.underlying225 Tryz.underlying3 (.i 3) (.func (.func 211) #[] #[]) rfl #[⟨.i 1,.func (.func 209) #[] #[],0⟩,⟨.i 2,.func (.func 210) #[] #[],1⟩] 2 rfl;have i4:=zbd (P:=Tryz.prog) Tryz.underlying225 Tryz.underlying3 (.i 4) (.func (.func 212) #[] #[]) rfl #[⟨.i 1,.func (.func 209) #[] #[],0⟩,⟨.i 2,.func (.func 210) #[] #[],1⟩,⟨.i 3,.func (.func 211) #[] #[],2⟩] 3 rfl;simp only[List.push_toArray,List.cons_append,List.nil_append,Nat.zero_add,Nat.reduceAdd]at i1 i2 i3 i4;go_in
 go_wp2
 go_ret;exact⟨rfl,rfl⟩
theorem zmC (nm:BA)(kd ls ms:Int)(a:OA)(n cap:Nat)(to:BA)(rl:Int)(mu fx:Bool)(df wg:BA)(w:World) :
 Calls Tryz.prog 209 #[.agg #[.s nm,.i kd,.i ls,.i ms,.l a n cap,.s to,.i rl,.bool mu,.bool fx,.s df,.s wg]] w
  fun e w'=>e=.returned (.iface 263 (.agg #[.s nm,.i kd,.i ls,.i ms,.l a n cap,.s to,.i rl,.bool mu,.bool fx,.s df,.s wg]))/\Bw w w':=by
 go_in
 go_wp2
 go_ret;exact⟨rfl,bAl _ _⟩
theorem zm4 (nm:BA)(kd ls ms:Int)(a:OA)(n cap:Nat)(to:BA)(rl:Int)(mu fx:Bool)(df wg:BA)(w:World) :
 Calls Tryz.prog 210 #[.agg #[.s nm,.i kd,.i ls,.i ms,.l a n cap,.s to,.i rl,.bool mu,.bool fx,.s df,.s wg]] w
  fun e w'=>e=.returned (.iface 265 (.agg #[.s nm,.i kd,.i ls,.i ms,.l a n cap,.s to,.i rl,.bool mu,.bool fx,.s df,.s wg]))/\Bw w w':=by
 go_in
 go_wp2
 go_ret;exact⟨rfl,bAl _ _⟩
theorem znd (nm:BA)(kd ls ms:Int)(a:OA)(n cap:Nat)(to:BA)(rl:Int)(mu fx:Bool)(df wg:BA)(w:World) :
 Calls Tryz.prog 211 #[.agg #[.s nm,.i kd,.i ls,.i ms,.l a n cap,.s to,.i rl,.bool mu,.bool fx,.s df,.s wg]] w
  fun e w'=>e=.returned (.iface 266 (.agg #[.s nm,.i kd,.i ls,.i ms,.l a n cap,.s to,.i rl,.bool mu,.bool fx,.s df,.s wg]))/\Bw w w':=by
 go_in
 go_wp2
 go_ret;exact⟨rfl,bAl _ _⟩
theorem zmz (nm:BA)(kd ls ms:Int)(a:OA)(n cap:Nat)(to:BA)(rl:Int)(mu fx:Bool)(df wg:BA)(w:World) :
 Calls Tryz.prog 212 #[.agg #[.s nm,.i kd,.i ls,.i ms,.l a n cap,.s to,.i rl,.bool mu,.bool fx,.s df,.s wg]] w
  fun e w'=>e=.returned (.iface 267 (.agg #[.s nm,.i kd,.i ls,.i ms,.l a n cap,.s to,.i rl,.bool mu,.bool fx,.s df,.s wg]))/\Bw w w':=by
 go_in
 go_wp2
 go_ret;exact⟨rfl,bAl _ _⟩
theorem zhl (x:Value)(w:World):(method 432 263 x "loop.example/wharfgate/impl.fits").run Tryz.prog w=.ok (272,x) w:=by kernel_rfl
theorem zhf (x:Value)(w:World):(method 432 265 x "loop.example/wharfgate/impl.fits").run Tryz.prog w=.ok (275,x) w:=by kernel_rfl
theorem zhO (x:Value)(w:World):(method 432 266 x "loop.example/wharfgate/impl.fits").run Tryz.prog w=.ok (280,x) w:=by kernel_rfl
theorem zg4 (x:Value)(w:World):(method 432 267 x "loop.example/wharfgate/impl.fits").run Tryz.prog w=.ok (283,x) w:=by kernel_rfl
theorem zce (r fk T fF:Nat)(Ft:Bool)(nm:BA)(kd ls ms:Int)(a:OA)(cap:Nat)(ws:List BA)(to:BA)(rl:Int)(mu fx:Bool)(df wg:BA)(v:BA)(w:World)
 (hlk:∀o,(Instr.lookup 225 (.map (some r)) (.i kd) true).run Tryz.prog (w.alloc o)=.ok (.tuple #[.func (.func fk) #[] #[],.bool true]) (w.alloc o))
 (hm3:∀x w,(method 432 T x "loop.example/wharfgate/impl.fits").run Tryz.prog w=.ok (fF,x) w)
 (hc0:∀args w,(callFunc fk args).run Tryz.prog w=.ok (.enter fk args) w) (hc1:∀args w,(callFunc fF args).run Tryz.prog w=.ok (.enter fF args) w)
 (HK:Hid (∀W,Calls Tryz.prog fk #[.agg #[.s nm,.i kd,.i ls,.i ms,.l a ws.length cap,.s to,.i rl,.bool mu,.bool fx,.s df,.s wg]] W fun e w'=>e=.returned (.iface T (.agg #[.s nm,.i kd,.i ls,.i ms,.l a ws.length cap,.s to,.i rl,.bool mu,.bool fx,.s df,.s wg]))/\Bw W w'))
 (HF:Hid (v.toList.isEmpty=false->∀W,Bw w W->Calls Tryz.prog fF #[.agg #[.s nm,.i kd,.i ls,.i ms,.l a ws.length cap,.s to,.i rl,.bool mu,.bool fx,.s df,.s wg],.s v] W fun e w'=>e=.returned (.bool Ft)/\Bw W w')) (HE:Hid (v.toList.isEmpty=true->Ft=false)) :
 Calls Tryz.prog 215 #[.map (some r),.agg #[.s nm,.i kd,.i ls,.i ms,.l a ws.length cap,.s to,.i rl,.bool mu,.bool fx,.s df,.s wg],.s v] w fun e w'=>e=.returned (.bool Ft)/\Bw w w':=by
 go_in
 rcases hd:v.toList.isEmpty with _|_
 ·go_wp2_with fail
  refine(HK.o _).mono ?_;rintro e w1⟨rfl,hb1⟩;have H1:=hid ((bAl _ _).trans (hb1.mono (by simp)));clear hb1 hlk;go_wp2_with fail
  refine(HF.o hd _ H1.o).mono ?_;rintro e w2⟨rfl,hb2⟩;have H2:=hid (H1.o.trans (hb2.mono H1.o.size));clear hb2;go_wp2
  go_ret;exact⟨rfl,H2.o⟩
 ·go_wp2
  go_ret;exact⟨ze (HE.o hd).symm,bAl _ _⟩
theorem zm6 (w:World):(zeroValue 264).run Tryz.prog w=.ok .nilFunc w:=by kernel_rfl
theorem zng (kd:Int)(h1:kd≠1)(h2:kd≠2)(h3:kd≠3)(h4:kd≠4):Instr.findNow (.int .i64) (.i kd) jg.toList 0=some none:=by
 have e1:(kd == 1)=false:=by simpa using h1
 have e2:(kd == 2)=false:=by simpa using h2
 have e3:(kd == 3)=false:=by simpa using h3
 have e4:(kd == 4)=false:=by simpa using h4
 simp[Instr.findNow,Instr.sameNow,jg,e1,e2,e3,e4]
theorem zjK (r:Nat)(nm:BA)(kd ls ms:Int)(a:OA)(cap:Nat)(ws:List BA)(to:BA)(rl:Int)(mu fx:Bool)(df wg:BA)(v:BA)(w:World)(hr:w.heap[r]?=some (.map jg 4))(h1:kd≠1)(h2:kd≠2)(h3:kd≠3)(h4:kd≠4) :
 Calls Tryz.prog 215 #[.map (some r),.agg #[.s nm,.i kd,.i ls,.i ms,.l a ws.length cap,.s to,.i rl,.bool mu,.bool fx,.s df,.s wg],.s v] w
  fun e w'=>e=.returned (.bool (fits kd ls ms ws v))/\Bw w w':=by
 rw[zkB kd ls ms ws v h1 h2 h3 h4];have hlt:r<w.heap.size:=(gES hr).1
 have hlk:∀o,(Instr.lookup 225 (.map (some r)) (.i kd) true).run Tryz.prog (w.alloc o)=.ok (.tuple #[.nilFunc,.bool false]) (w.alloc o):=
  fun o=>zcA Tryz.underlying225 Tryz.underlying3 (.i kd) _ rfl jg 4 (zng kd h1 h2 h3 h4) (w.alloc o) (zm6 _) r ((Below.heap_alloc w o r hlt).trans hr)
 clear hr h1 h2 h3 h4;go_in;go_wp2
 go_ret;exact⟨rfl,bAl _ _⟩
theorem zf9 (r:Nat)(nm:BA)(kd ls ms:Int)(a:OA)(cap:Nat)(ws:List BA)(to:BA)(rl:Int)(mu fx:Bool)(df wg:BA)(v:BA)(w:World)(hr:w.heap[r]?=some (.map jg 4))(hv:v.size<=maxLen)(hws:zD w a ws) :
 Calls Tryz.prog 215 #[.map (some r),.agg #[.s nm,.i kd,.i ls,.i ms,.l a ws.length cap,.s to,.i rl,.bool mu,.bool fx,.s df,.s wg],.s v] w
  fun e w'=>e=.returned (.bool (fits kd ls ms ws v))/\Bw w w':=by
 have hlt:=(gES hr).1
 by_cases h1:kd=1
 ·subst h1
  exact zce r 209 263 272 (fits 1 ls ms ws v) nm 1 ls ms a cap ws to rl mu fx df wg v w
   (fun o=>qR Tryz.underlying225 Tryz.underlying3 (.i 1) _ rfl jg 4 0 rfl (w.alloc o) r ((Below.heap_alloc w o r hlt).trans hr)) zhl (by intros;go_simp) (by intros;go_simp)
   (fun W=>zmC _ _ _ _ _ _ _ _ _ _ _ _ _ _) (fun hd W hb=>by rw[zqL ls ms ws v (by intro h;rw[zu]at hd;simp[h]at hd)];exact zfQ _ _ _ _ _ _ _ _ _ _ _ _ _ hv) (fun hd=>zat 1 ls ms ws v (by rw[zu]at hd;simpa using hd))
 by_cases h2:kd=2
 ·subst h2
  exact zce r 210 265 275 (fits 2 ls ms ws v) nm 2 ls ms a cap ws to rl mu fx df wg v w
   (fun o=>qR Tryz.underlying225 Tryz.underlying3 (.i 2) _ rfl jg 4 1 rfl (w.alloc o) r ((Below.heap_alloc w o r hlt).trans hr)) zhf (by intros;go_simp) (by intros;go_simp)
   (fun W=>zm4 _ _ _ _ _ _ _ _ _ _ _ _ _ _) (fun hd W hb=>by rw[zqX ls ms ws v (by intro h;rw[zu]at hd;simp[h]at hd)];exact zhj _ _ _ _ _ _ _ _ _ _ _ _ _ _ _ (hws.mono hb)) (fun hd=>zat 2 ls ms ws v (by rw[zu]at hd;simpa using hd))
 by_cases h3:kd=3
 ·subst h3
  exact zce r 211 266 280 (fits 3 ls ms ws v) nm 3 ls ms a cap ws to rl mu fx df wg v w
   (fun o=>qR Tryz.underlying225 Tryz.underlying3 (.i 3) _ rfl jg 4 2 rfl (w.alloc o) r ((Below.heap_alloc w o r hlt).trans hr)) zhO (by intros;go_simp) (by intros;go_simp)
   (fun W=>znd _ _ _ _ _ _ _ _ _ _ _ _ _ _) (fun hd W hb=>by rw[zno ls ms ws v (by intro h;rw[zu]at hd;simp[h]at hd)];exact zg7 _ _ _ _ _ _ _ _ _ _ _ _ _ hv) (fun hd=>zat 3 ls ms ws v (by rw[zu]at hd;simpa using hd))
 by_cases h4:kd=4
 ·subst h4
  exact zce r 212 267 283 (fits 4 ls ms ws v) nm 4 ls ms a cap ws to rl mu fx df wg v w
   (fun o=>qR Tryz.underlying225 Tryz.underlying3 (.i 4) _ rfl jg 4 3 rfl (w.alloc o) r ((Below.heap_alloc w o r hlt).trans hr)) zg4 (by intros;go_simp) (by intros;go_simp)
   (fun W=>zmz _ _ _ _ _ _ _ _ _ _ _ _ _ _) (fun hd W hb=>by rw[zro ls ms ws v (by intro h;rw[zu]at hd;simp[h]at hd)];exact zhp _ _ _ _ _ _ _ _ _ _ _ _ _ hv) (fun hd=>zat 4 ls ms ws v (by rw[zu]at hd;simpa using hd))
 exact zjK r nm kd ls ms a cap ws to rl mu fx df wg v w hr h1 h2 h3 h4
theorem zso {b off:Nat}(hw:zD w (some (aD b off)) ws):∀j u,(ws.map Value.string)[j]?=some u->w.cell? (((aD b off):Addr).add j)=some u:=by
 intro j u hj
 have hlt:j<ws.length:=by
  have:=(List.getElem?_eq_some_iff.1 hj).1;simpa using this
 obtain⟨b',off',he,hb,hc⟩:=hw.cells (by rintro rfl;simp at hlt);simp only[Option.some.injEq,Addr.mk.injEq]at he;obtain⟨rfl,rfl,_⟩:=he;have h1:=hc j hlt
 have e1:((aD b off):Addr).add j=(aD b (off+j)):=by
  unfold Addr.add;split
  ·rename_i h;subst h;simp
  ·rfl
 rw[e1,h1];rw[List.getElem?_map,List.getElem?_eq_getElem hlt]at hj
 simpa using hj
theorem zpT:∀u∈ws.map Value.string,u.oneCell'=true:=by
 intro u hu;simp only[List.mem_map]at hu;obtain⟨s,_,rfl⟩:=hu;rfl
theorem jc (w:World)(o1 o2 o3:Obj):Bw w (((w.alloc o1).alloc o2).alloc o3):=
 ((bAl _ _).alloc (by simp) _).alloc (by simp;omega) _
theorem zdv (w:World)(o1 o2 o3:Obj):(((w.alloc o1).alloc o2).alloc o3).heap[w.heap.size+1+1]?=some o3:=by
 have h:=alloc_at ((w.alloc o1).alloc o2) o3
 simpa using h
theorem zcq (w:World)(o1 o2 o3:Obj):(((w.alloc o1).alloc o2).alloc o3).heap[w.heap.size]?=some o1:=(Below.heap_alloc _ _ _ (by simp;omega)).trans (zK _ _ _).1
theorem zhT (w:World)(o1 o2 o3:Obj):(((w.alloc o1).alloc o2).alloc o3).heap[w.heap.size+1]?=some o2:=(Below.heap_alloc _ _ _ (by simp)).trans (zK _ _ _).2
theorem zoM {w1:World}{o1 o2 o3:Obj}(hg:(((w.alloc o1).alloc o2).alloc o3).grownBy w1 (some (w.heap.size+1+1))) :
 w1.heap[w.heap.size]?=some o1/\w1.heap[w.heap.size+1]?=some o2/\Bw w w1/\w.heap.size+1+1<w1.heap.size:=by
 refine⟨(hg.block _ (by simp;omega) (by simp;try omega)).trans (zcq _ _ _ _),(hg.block _ (by simp) (by simp)).trans (zhT _ _ _ _),(jc _ _ _ _).grown hg (jc _ _ _ _).size (by intro k hk;simp at hk;omega),?_⟩
 have:=hg.size;simp at this;omega
theorem ztY (w:World)(p:Addr)(v:Value)(o3:Obj):((w.setCell p v).alloc o3).heap[w.heap.size]?=some o3:=by
 have h:=alloc_at (w.setCell p v) o3
 simpa[World.setCell] using h
theorem zsH {w1 w2:World}{a:Value}{C1 C2:AV}{t1 t2:TypeId}{o3:Obj}(hk:w1.heap[w.heap.size]?=some (.cells C1 t1))(hr:w1.heap[w.heap.size+1]?=some (.cells C2 t2))(hB:Bw w w1)(hz:w.heap.size+1+1<w1.heap.size)
 (hg:((w1.setCell (aD w.heap.size 3) a).alloc o3).grownBy w2 (some w1.heap.size)) :
 w2.heap[w.heap.size]?=some (.cells (C1.setIfInBounds 3 a) t1)/\w2.heap[w.heap.size+1]?=some (.cells C2 t2)/\Bw w w2/\w1.heap.size<w2.heap.size:=by
 have hs:(w1.setCell (aD w.heap.size 3) a).heap.size=w1.heap.size:=by simp[World.setCell]
 refine⟨(hg.block _ (by simp[World.setCell];omega) (by simp;omega)).trans ((Below.heap_alloc _ _ _ (by rw[hs];omega)).trans (zh hk _)),
  (hg.block _ (by simp[World.setCell];omega) (by simp;omega)).trans ((Below.heap_alloc _ _ _ (by rw[hs];omega)).trans ((Below.heap_setCell _ _ _ _ (by simp)).trans hr)),
  ((hB.setCell (Nat.le_refl _) _).alloc (by rw[hs];omega) _).grown hg (by simp[World.setCell];omega) (by intro k hk;simp at hk;omega),?_⟩
 have:=hg.size;simp[World.setCell]at this;omega
theorem zk.grown {lo:Nat}{w2:World}{row:Nat}(h:zk lo w a ws)(hg:w.grownBy w2 (some row))(hr:∀g,a=some g->g.block≠row):zk lo w2 a ws:=by
 rcases h with⟨rfl,rfl⟩|⟨g,C,rfl,hl,hh,hc⟩
 ·exact Or.inl ⟨rfl,rfl⟩
 ·exact Or.inr ⟨g,C,rfl,hl,(hg.block g (gES hh).1 (by have:=hr _ rfl;simpa using this)).trans hh,hc⟩
theorem zk.lt {lo:Nat}(h:zk lo w a ws):∀g,a=some g->g.block<w.heap.size:=by
 intro g hg
 rcases h with⟨rfl,_⟩|⟨g',C,rfl,_,hh,_⟩
 ·cases hg
 ·cases hg;exact(gES hh).1
theorem zmN {P:Program}{ops:Array Oper}{rest:List Oper}{o:Oper}{a:Act}{Q:Exit->Act->World->Prop}(hgd:o.guard=none)(s x:Operand)(t:TypeId)
 (ho:o.op=.call { callee:=.builtin .append,args:=#[s,x],argTypes:=#[t,t] })
 (e:TypeId) (i:TypeInfo) (z:Value) (size bytes:Nat) (ht:P.underlying t=some (.slice e)) (hi:P.info? e=some i) (hz:i.zero=some z)
 (hsize:i.size=size) (hby:i.bytes=bytes) (hzs:z.cells.size=size) (hsz:0<size) (g:Nat) (hs:a.eval s=.l (some (aD g 0)) 0 0) (hg:w.heap[g]?=some (.cells #[] e))
 (ad:OA) (n c:Nat) (news:List Value) (hx:a.eval x=.l ad n c) (hl:news.length=n*size) (hn:n≠0->∃p,ad=some p/\∀j u,news[j]?=some u->w.cell? (p.add j)=some u) (h1:∀u∈news,u.oneCell'=true)
 (h63:n<=maxLen) (hbytes:n*bytes<=140737488355328)
 (h:∀v' w',w'.ownsRow g e size v' n news->w.grownBy w' (some g)->(∃g' c',v'=.l (some (aD g' 0)) n c')->wpList P ops Q rest (a.put o.dst v') w'):wpList P ops Q (o :: rest) a w:=by
 have hrow:w.ownsRow g e size (.l (some (aD g 0)) 0 0) 0 []:=⟨by simp,.inr ⟨g,0,#[],rfl,Nat.le_refl _,hg,Nat.le_refl _,by simp[maxLen],by simp,by simp⟩⟩
 by_cases h0:n=0
 ·subst h0
  have hr:(Builtin.append_ #[t,t] o.type #[.l (some (aD g 0)) 0 0,.l ad 0 c]).run P w=.ok (.l (some (aD g 0)) 0 0) w:=by
   have hso:(sizeOf e).run P w=.ok size w:=by
    unfold sizeOf typeInfo
    simp[hi,hsize,go_sem,Result.andThen]
   rcases ad with _|p
   ·simp[Builtin.append_,run_underlying ht,Builtin.lenOf,Builtin.firstCells,go_sem,Result.andThen,hso]
   ·simp[Builtin.append_,run_underlying ht,Builtin.lenOf,Builtin.firstCells,go_sem,Result.andThen,hso]
  refine wpList_plain hgd fun K hK=>?_
  unfold Oper.wp;simp only[execOp,ho,resolve,invoke,builtin,Sem.run_bind,Sem.run_pure,Result.andThen_ok,List.map_toArray,List.map_cons,List.map_nil,hs,hx,hr];have hnews:news=[]:=List.length_eq_zero_iff.1 (by rw[hl];simp);exact hK _ _ (h _ _ (by rw[hnews];exact hrow) ⟨rfl,rfl,rfl,Nat.le_refl _,fun _ _ _=>rfl⟩ ⟨g,0,rfl⟩)
 ·obtain⟨p,rfl,hc⟩:=hn h0
  refine wpList_append_own w hgd s x t ho g e i z size bytes ht hi hz hsize hby hzs hsz _ 0 [] hs hrow p n c news hx hl hc h1 (by omega) (by rw[Nat.zero_add];exact hbytes) (Nat.le_of_lt (gES hg).1) ?_;intro v' w' hown hgr _;rw[Nat.zero_add,List.nil_append]at hown;refine h v' w' hown hgr ?_;obtain⟨_,⟨_,h2⟩|⟨g',c',_,h2,_⟩⟩:=hown
  ·exact absurd h2 h0
  ·exact⟨g',c',h2⟩
theorem zmE (h:zD w a ws)(hne:ws.length≠0):∃p,a=some p/\∀j u,(ws.map Value.string)[j]?=some u->w.cell? (p.add j)=some u:=by
 obtain⟨b,off,rfl,_⟩:=h.cells (fun e=>hne (by rw[e];rfl));exact⟨_,rfl,zso h⟩
theorem zgB (o:Ob)(va ha:OA)(cap cap':Nat)(w:World)(ho:qY w o va ha)(hl:o.vs.length<=1048576)(hl':o.hs.length<=1048576) :
 Calls Tryz.prog 72 #[.agg (oC o va ha cap cap')] w
  fun e w'=>∃a dap a' dap' m,e=.returned (.agg (oC o a a' dap dap'))/\zk w.heap.size w' a o.vs/\(∀g,a=some g->g.block<m)/\w.heap.size<=m/\zk m w' a' o.hs/\Bw w w'/\(∃g,a=some (aD g 0))/\∃g,a'=some (aD g 0):=by
 obtain⟨i0,hi,hz0,hz1',hz2⟩:=info_parts Tryz.zeB;go_in
 go_wp2_with (first
  | (at_builtin;refine zmN rfl (.tmp 3) (.tmp 5) 98 rfl 9 i0 (.s ByteArray.empty) 1 16 Tryz.underlying98 hi hz0 hz1' hz2 rfl (by decide) (w.heap.size+1+1) rfl (zdv _ _ _ _) va o.vs.length cap (o.vs.map Value.string) rfl (by simp) (zmE (ho.vals.mono (jc _ _ _ _))) zpT (by unfold maxLen;omega) (by omega) ?_;intro v' w1 hown hgr hsm;obtain⟨a,dap,rfl,ht1⟩:=zk.zbC hown;have HA:Hid (∃g,a=some (aD g 0)):=(by obtain⟨g,c,h9⟩:=hsm;cases h9;exact⟨g,rfl⟩);clear hsm;obtain⟨hk1,hr1,hB1,hz1⟩:=zoM hgr;have hX1:∀j,w1.cell? (aD w.heap.size j)=(oC o va ha cap cap')[j]?:=fun j=>cell_of_block hk1;have hF1:∀j,w1.frozen? (aD w.heap.size j)=false:=fun j=>zf hk1;have hzz1:w.heap.size<w1.heap.size:=(by omega);have hone:=hB1.setCell (p:=(aD w.heap.size 3)) (Nat.le_refl _) (.l a o.vs.length dap);have HT1:Hid (zk (w.heap.size+1+1) w1 a o.vs):=ht1;have HK1:Hid (w1.heap[w.heap.size]?=some (.cells (oC o va ha cap cap') 116)):=hk1;have HR1:Hid (w1.heap[w.heap.size+1]?=some (.cells oZ 116)):=hr1;clear ht1 hk1 hr1;clear hown hgr)
  | (at_builtin;refine zmN rfl (.tmp 8) (.tmp 10) 98 rfl 9 i0 (.s ByteArray.empty) 1 16 Tryz.underlying98 hi hz0 hz1' hz2 rfl (by decide) w1.heap.size rfl (ztY _ _ _ _) ha o.hs.length cap' (o.hs.map Value.string) rfl (by simp) (zmE (ho.holds.mono (hone.alloc hone.size _))) zpT (by unfold maxLen;omega) (by omega) ?_;intro v'' w2 hown hgr hsm;obtain⟨a',dap',rfl,ht2⟩:=zk.zbC hown;have HA':Hid (∃g,a'=some (aD g 0)):=(by obtain⟨g,c,h9⟩:=hsm;cases h9;exact⟨g,rfl⟩);clear hsm;obtain⟨hk2,hr2,hB2,hz2'⟩:=zsH HK1.o HR1.o hB1 hz1 hgr;have HU2:Hid (zk w1.heap.size w2 a' o.hs):=ht2;have HT2:Hid (zk (w.heap.size+1+1) w2 a o.vs):=((HT1.o.setCell _ (by simp;omega) _).mono (bAl _ _)).grown hgr (fun g hg=>Nat.ne_of_lt (HT1.o.lt g hg));have hX2:∀j,w2.cell? (aD w.heap.size j)=(oC o a ha dap cap')[j]?:=fun j=>cell_of_block hk2;have hF2:∀j,w2.frozen? (aD w.heap.size j)=false:=fun j=>zf hk2;have hY2:∀j,w2.cell? (aD (w.heap.size+1) j)=oZ[j]?:=fun j=>cell_of_block hr2;have hG2:∀j,w2.frozen? (aD (w.heap.size+1) j)=false:=fun j=>zf hr2;have hzz2:w.heap.size+1<w2.heap.size:=(by omega);clear hown hgr ht2 hk2 hr2 hX1 hF1))
 refine bodyPost_ret (v:=(.agg (oC o a a' dap dap'))) (by simp[results,Tryz.results72,go_sem,hY2]) rfl ⟨a,dap,a',dap',w1.heap.size,rfl,((((((((HT2.o.setCell _ (by simp;omega) _).setCell _ (by simp) _).setCell _ (by simp) _).setCell _ (by simp) _).setCell _ (by simp) _).setCell _ (by simp) _).setCell _ (by simp) _).setCell _ (by simp) _).low (by omega),HT1.o.lt,by omega,((((((((HU2.o.setCell _ (by simp;omega) _).setCell _ (by simp;omega) _).setCell _ (by simp;omega) _).setCell _ (by simp;omega) _).setCell _ (by simp;omega) _).setCell _ (by simp;omega) _).setCell _ (by simp;omega) _).setCell _ (by simp;omega) _),((((((((hB2.setCell (Nat.le_refl _) _).setCell (by simp) _).setCell (by simp) _).setCell (by simp) _).setCell (by simp) _).setCell (by simp) _).setCell (by simp) _).setCell (by simp) _),HA.o,HA'.out⟩
theorem zgE (o:Ob)(b off b' off' cap cap':Nat)(w:World)(ho:qY w o (some (aD b off)) (some (aD b' off')))(hl:o.vs.length<=1048576)(hl':o.hs.length<=1048576) :
 Calls Tryz.prog 72 #[.agg (oC o (some (aD b off)) (some (aD b' off')) cap cap')] w
  fun e w'=>∃a dap a' dap' m,e=.returned (.agg (oC o a a' dap dap'))/\zk w.heap.size w' a o.vs/\(∀g,a=some g->g.block<m)/\w.heap.size<=m/\zk m w' a' o.hs/\Bw w w':=
 (zgB o _ _ cap cap' w ho hl hl').mono fun _ _ ⟨a,dap,a',dap',m,h1,h2,h3,h4,h5,h6,_⟩=>⟨a,dap,a',dap',m,h1,h2,h3,h4,h5,h6⟩
end Go.Proofs.YtjnpjkigofldlaaGreat
