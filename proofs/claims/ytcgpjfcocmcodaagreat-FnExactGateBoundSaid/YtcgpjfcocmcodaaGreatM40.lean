import Derived.Test.YtcgpjfcocmcodaaGreatM39
set_option maxHeartbeats 4000000
namespace Go.Proofs.YtcgpjfcocmcodaaGreat
open Go.RowKit
set_option maxRecDepth 100000 in
theorem zj2 (lo g n c i vb m mc:Nat)(xs vs:List Value)(w:World)(h:w.ownsRow lo 69 4 (.l (some (aD g 0)) n c) n xs)(hi:i<n)(hm:m=1)(hroom:n+m<=c)(hv:w.heap[vb]?=some (.cells vs.toArray 69))(hvl:vs.length=4)(hvb:vb≠g)(h1c:∀v∈xs,v.oneCell'=true)(h1v:∀v∈vs,v.oneCell'=true) :
 Calls Tryz.prog 97 #[.l (some (aD g 0)) n c,.i i,.l (some (aD vb 0)) m mc] w fun e w'=>e=.returned (.l (some (aD g 0)) (n+m) c)/\w'=(w.drew.setCells g ((i+m)*4) (xs.drop (i*4))).setCells g (i*4) vs:=by
 obtain⟨i0,hi0,hz0,hzs,hzb⟩:=info_parts Tryz.zhq;have hsz:(Tryz.prog.info? 69).map (·.size)=some 4:=by rw[hi0];simp[hzs]
 obtain⟨cur,hlo,hg,hnc,hmx,hcz,hxl,htk⟩:∃cur:AV,lo<=g/\w.heap[g]?=some (.cells cur 69)/\n<=c/\c<=maxLen/\cur.size=c*4/\xs.length=n*4/\cur.toList.take (n*4)=xs:=by
  rcases h with⟨hl,⟨h3,_⟩|⟨g',cap',cur,h3,hlo,hg,hn,hmm,hs,ht⟩⟩
  ·cases h3
  ·cases h3;exact⟨cur,hlo,hg,hn,hmm,hs,hl,ht⟩
 have hcs:∀j v,xs[j]?=some v->w.cell? (aD g j)=some v:=fun j v hj=>by
  have hlt:=(List.getElem?_eq_some_iff.1 hj).1;rw[cell_of_block hg,<- hj,<- htk,List.getElem?_take_of_lt (by omega),Array.getElem?_toList]
 have hvs:∀j v,vs[j]?=some v->w.cell? (aD vb j)=some v:=fun j v hj=>by rw[cell_of_block hv];simpa using hj
 have hdl:(xs.drop (i*4)).length=(n-i)*4:=by rw[List.length_drop,hxl];omega
 have h1d:∀v∈xs.drop (i*4),v.oneCell'=true:=fun v hv=>h1c v (List.mem_of_mem_drop hv)
 unfold maxLen at hmx;have hz1:¬((m:Int)=0):=by omega
 have hz2:¬((i:Int)=(n:Int)):=by omega
 have hov:∀lb cb,(callFunc 145 #[.l (some (aD vb 0)) m mc,.l (some (aD g ((i+m)*4))) lb cb]).run Tryz.prog w=.ok (.value (.bool false)) w:=fun lb cb=>by
  rw[run_callFunc_extern Tryz.func145 (by kernel_rfl) (by kernel_rfl) (by kernel_rfl) (e:=Extern.SlicesOverlaps.overlaps #[37,37] #[4]) (by kernel_rfl),Lib.run_overlaps_apart w 37 4 69 Tryz.underlying37 4 (fun w=>by simp[sizeOf,typeInfo,hi0,hzs,go_sem,Result.andThen]) (aD vb 0) (aD g ((i+m)*4)) m mc lb cb hvb 69 69 vs.length cur.size (by simp[World.shape?,hv]) (by simp[World.shape?,hg]) (by omega) (zh hv) (zh hv)]
  rfl
 have hw1:IntKind.i64.wrap ((i:Int)+(m:Int))=(i:Int)+(m:Int):=by rw[IntKind.wrap_i64];omega
 have hb1:(0:Int)<=(i:Int)+(m:Int):=by omega
 have hin:i<=n:=by omega
 have htn:((i:Int)+(m:Int)).toNat=i+m:=by omega
 have hb2:¬(c=i+m):=by omega
 have hb3:(i:Int)<=(n:Int)+(m:Int):=by omega
 have hb4:¬(c=i):=by omega
 have hd:w.drew.heap[g]?=some (.cells cur 69):=hg
 have hcp1:∀ty dc sc,(Builtin.copy_ #[37,37] ty #[.l (some (aD g ((i+m)*4))) (n+m-(i+m)) dc,.l (some (aD g (i*4))) (n+m-i) sc]).run Tryz.prog w.drew=.ok (goInt ((n-i:Nat))) (w.drew.setCells g ((i+m)*4) (xs.drop (i*4))):=fun ty dc sc=>
  zb5 w.drew _ _ ty 69 4 g ((i+m)*4) (n+m-(i+m)) dc (aD g (i*4)) (n+m-i) sc (n-i) (xs.drop (i*4)) Tryz.underlying37 hsz (by simp only[Nat.min_def];split <;> omega) hdl
   (fun j v hj=>by rw[Addr.add_lit];exact hcs (i*4+j) v (by rwa [List.getElem?_drop]at hj))
   (fun j hj=>by rw[cell_of_block hd,Array.getElem?_eq_getElem (by omega)];rfl) (fun j hj=>zh hd) h1d
 obtain⟨W1,hW1⟩:=xN (w.drew.setCells g ((i+m)*4) (xs.drop (i*4)))
 have HG1:Hid (∃C,W1.heap[g]?=some (.cells C 69)/\C.size=c*4):=by
  obtain⟨C1,e1,e2,_,_⟩:=jG (xs.drop (i*4)) ((i+m)*4) w.drew cur hd (by omega);exact⟨C1,by rw[hW1];exact e1,by omega⟩
 have hcp2:∀(W:World),(∀x,W.cell? x=W1.cell? x)->(∀x,W.frozen? x=W1.frozen? x)->∀ty dc,(Builtin.copy_ #[37,37] ty #[.l (some (aD g (i*4))) (n+m-i) dc,.l (some (aD vb 0)) m mc]).run Tryz.prog W=.ok (goInt m) (W.setCells g (i*4) vs):=fun W hWc hWf ty dc=>by
  obtain⟨C1,e1,e2⟩:=HG1.o
  exact zb5 W _ _ ty 69 4 g (i*4) (n+m-i) dc (aD vb 0) m mc m vs Tryz.underlying37 hsz (by simp only[Nat.min_def];split <;> omega) (by omega)
   (fun j v hj=>by
    rw[Addr.add_lit,hWc,Nat.zero_add,hW1,World.cell?_setCells_out g _ _ _ _ (fun h _=>absurd h hvb)];exact hvs j v hj)
   (fun j hj=>by rw[hWc,cell_of_block e1,Array.getElem?_eq_getElem (by omega)];rfl) (fun j hj=>by rw[hWf];exact zh e1) h1v
 rw[<- hW1]at hcp1;have HW:Hid (W1=w.drew.setCells g ((i+m)*4) (xs.drop (i*4))):=hW1;clear hW1 hm hd hcz htk hcs hvs hdl h1d hxl h;go_enter Tryz.func97,Tryz.ntmps97
 go_wp2_with (simp only[hov])
 go_region_law (refine zgq rfl (.tmp 73) (.tmp 76) 37 37 rfl (by simp[Act.eval,Act.put];rfl) (by simp[Act.eval,Act.put];rfl) (hcp1 _ _ _) ?_)
 go_wp2_with (at_builtin;refine zc1 rfl _ _ 37 37 rfl rfl rfl (hcp2 _ (fun _=>rfl) (fun _=>rfl) _ _) ?_)
 go_ret;exact⟨rfl,by rw[HW.o]⟩
set_option maxRecDepth 100000 in
theorem zla (lo g n c i vb m mc:Nat)(xs vs:List Value)(w:World)(h:w.ownsRow lo 69 4 (.l (some (aD g 0)) n c) n xs)(hi:i<n)(hm:m=1)(hroom:c<n+m)(hbig:n<=1000)(hv:w.heap[vb]?=some (.cells vs.toArray 69))(hvl:vs.length=4)(h1c:∀v∈xs,v.oneCell'=true)(h1v:∀v∈vs,v.oneCell'=true) :
 Calls Tryz.prog 97 #[.l (some (aD g 0)) n c,.i i,.l (some (aD vb 0)) m mc] w fun e w'=>∃G ROW,e=.returned (.l (some (aD w.heap.size 0)) (n+m) G)/\n+m<=G/\G<=maxLen/\ROW.size=G*4/\(∀j,j<i*4->ROW[j]?=xs[j]?)/\w'=(((w.alloc (.cells ROW 69)).drew.setCells w.heap.size (i*4) vs).drew).setCells w.heap.size ((i+m)*4) (xs.drop (i*4)):=by
 obtain⟨i0,hi0,hz0,hzs,hzb⟩:=info_parts Tryz.zhq;have hsz:(Tryz.prog.info? 69).map (·.size)=some 4:=by rw[hi0];simp[hzs]
 obtain⟨cur,hlo,hg,hnc,hmx,hcz,hxl,htk⟩:∃cur:AV,lo<=g/\w.heap[g]?=some (.cells cur 69)/\n<=c/\c<=maxLen/\cur.size=c*4/\xs.length=n*4/\cur.toList.take (n*4)=xs:=by
  rcases h with⟨hl,⟨h3,_⟩|⟨g',cap',cur,h3,hlo,hg,hn,hmm,hs,ht⟩⟩
  ·cases h3
  ·cases h3;exact⟨cur,hlo,hg,hn,hmm,hs,hl,ht⟩
 have hcs:∀j v,xs[j]?=some v->w.cell? (aD g j)=some v:=fun j v hj=>by
  have hlt:=(List.getElem?_eq_some_iff.1 hj).1;rw[cell_of_block hg,<- hj,<- htk,List.getElem?_take_of_lt (by omega),Array.getElem?_toList]
 have hvs:∀j v,vs[j]?=some v->w.cell? (aD vb j)=some v:=fun j v hj=>by rw[cell_of_block hv];simpa using hj
 have hdl:(xs.drop (i*4)).length=(n-i)*4:=by rw[List.length_drop,hxl];omega
 have h1d:∀v∈xs.drop (i*4),v.oneCell'=true:=fun v hv=>h1c v (List.mem_of_mem_drop hv)
 unfold maxLen at hmx;have hz1:¬((m:Int)=0):=by omega
 have hz2:¬((i:Int)=(n:Int)):=by omega
 have hz3:(c:Int)<(n:Int)+(m:Int):=by omega
 have hbw:g<w.heap.size:=(gES hg).1;have hvw:vb<w.heap.size:=(gES hv).1;have hkk:(n:Int)+(m:Int)-(i:Int)=((n+m-i:Nat):Int):=by omega
 have hik:i+(n+m-i)=n+m:=by omega
 have htl:(xs.take (i*4)).length=i*4:=by rw[List.length_take,hxl];omega
 have hold:(Builtin.firstCells i0.size i (.l (some (aD g 0)) i c)).run Tryz.prog w.drew=.ok (xs.take (i*4)).toArray w.drew:=by
  rw[hzs]
  exact run_firstCells_some w.drew 4 i (aD g 0) i c (xs.take (i*4)) (by rw[htl]) (fun j v hj=>by
   rw[Addr.add_lit,Nat.zero_add];rw[List.getElem?_take]at hj
   split at hj
   ·exact hcs j v hj
   ·cases hj)
 obtain⟨G,hG⟩:=xN (grownCap w (n+m) c 69);have hGn:n+m<=G:=by rw[hG];exact grownCap_ge w _ _ _
 have hG63:G<=maxLen:=by rw[hG];exact grownCap_le_maxLen w (n+m) c 69 (by unfold maxLen;omega)
 obtain⟨ROW,hROW⟩:∃ROW:AV,ROW=(xs.take (i*4)).toArray++Builtin.zeroCells (.agg #[.s ByteArray.empty,.s ByteArray.empty,.i 0,.i 0]:Value).cells (n+m-i)++Builtin.zeroCells (.agg #[.s ByteArray.empty,.s ByteArray.empty,.i 0,.i 0]:Value).cells (G-(n+m)):=⟨_,rfl⟩
 have hrz:∀ty,(Builtin.append_ #[37,3] ty #[.l (some (aD g 0)) i c,.i ((n:Int)+(m:Int)-(i:Int))]).run Tryz.prog w =
  .ok (.l (some (aD w.heap.size 0)) (n+m) G) (w.drew.alloc (.cells ROW 69)):=fun ty=>by
  have h:=Lib.run_append_grow_zeros w 37 3 ty 69 i0 _ .i64 .i64 Tryz.underlying37 Tryz.underlying3 hi0 hz0 (some (aD g 0)) i c (xs.take (i*4)) hold (n+m-i) (by omega) (by omega) (by omega) (by omega) (by rw[hzb];omega) (by rw[hzb,hik];exact growslice_fits hroom (by omega));rw[hik]at h;rw[hkk,hROW,hG];exact h
 have hRl:ROW.size=G*4:=by
  rw[hROW]
  simp[Builtin.zeroCells,Value.cells]
  omega
 have hRx:∀j,j<i*4->ROW[j]?=xs[j]?:=fun j hj=>by
  rw[hROW,Array.append_assoc,Array.getElem?_append_left (by simpa using (by omega:j<(xs.take (i*4)).length)),List.getElem?_toArray,List.getElem?_take_of_lt hj]
 obtain⟨W1,hW1⟩:=xN (w.drew.alloc (.cells ROW 69));rw[<- hW1]at hrz;have hN:W1.heap[w.heap.size]?=some (.cells ROW 69):=by rw[hW1];exact(MapKept.heap_alloc w.drew _).1
 have hOb:∀k j v,k<w.heap.size->w.cell? (aD k j)=some v->W1.cell? (aD k j)=some v:=fun k j v hk h=>by rw[hW1,World.cell?_alloc_past (w:=w.drew) _ k j hk];exact h
 have hcpA:∀(W:World),(∀x,W.cell? x=W1.cell? x)->(∀x,W.frozen? x=W1.frozen? x)->∀ty dc,(Builtin.copy_ #[37,37] ty #[.l (some (aD w.heap.size (i*4))) (n+m-i) dc,.l (some (aD vb 0)) m mc]).run Tryz.prog W=.ok (goInt m) (W.setCells w.heap.size (i*4) vs):=fun W hWc hWf ty dc=>
  zb5 W _ _ ty 69 4 w.heap.size (i*4) (n+m-i) dc (aD vb 0) m mc m vs Tryz.underlying37 hsz (by simp only[Nat.min_def];split <;> omega) (by omega)
   (fun j v hj=>by rw[Addr.add_lit,hWc,Nat.zero_add];exact hOb _ _ v hvw (hvs j v hj))
   (fun j hj=>by rw[hWc,cell_of_block hN,Array.getElem?_eq_getElem (by omega)];rfl) (fun j hj=>by rw[hWf];exact zh hN) h1v
 obtain⟨C1,e1,e2,_,_⟩:=jG vs (i*4) W1 ROW hN (by omega);have hbN:g≠w.heap.size:=by omega
 have hcpB:∀(W:World),(∀x,W.cell? x=(W1.setCells w.heap.size (i*4) vs).cell? x)->(∀x,W.frozen? x=(W1.setCells w.heap.size (i*4) vs).frozen? x)->∀ty dc sc,(Builtin.copy_ #[37,37] ty #[.l (some (aD w.heap.size ((i+m)*4))) (n+m-(i+m)) dc,.l (some (aD g (i*4))) (n-i) sc]).run Tryz.prog W=.ok (goInt ((n-i:Nat))) (W.setCells w.heap.size ((i+m)*4) (xs.drop (i*4))):=fun W hWc hWf ty dc sc=>
  zb5 W _ _ ty 69 4 w.heap.size ((i+m)*4) (n+m-(i+m)) dc (aD g (i*4)) (n-i) sc (n-i) (xs.drop (i*4)) Tryz.underlying37 hsz (by simp only[Nat.min_def];split <;> omega) hdl
   (fun j v hj=>by
    rw[Addr.add_lit,hWc,World.cell?_setCells_out _ _ _ _ _ (fun h _=>absurd h hbN)];exact hOb _ _ v hbw (hcs (i*4+j) v (by rwa [List.getElem?_drop]at hj)))
   (fun j hj=>by rw[hWc,cell_of_block e1,Array.getElem?_eq_getElem (by omega)];rfl)
   (fun j hj=>by rw[hWf];exact zh e1) h1d
 subst hW1;have hE1:∀x,((w.alloc (.cells ROW 69)).drew).cell? x=(w.drew.alloc (.cells ROW 69)).cell? x:=fun x=>rfl
 have hE2:∀x,((w.alloc (.cells ROW 69)).drew).frozen? x=(w.drew.alloc (.cells ROW 69)).frozen? x:=fun x=>rfl
 have hF1:∀x,(((w.alloc (.cells ROW 69)).drew.setCells w.heap.size (i*4) vs).drew).cell? x=((w.drew.alloc (.cells ROW 69)).setCells w.heap.size (i*4) vs).cell? x:=fun x=>rfl
 have hF2:∀x,(((w.alloc (.cells ROW 69)).drew.setCells w.heap.size (i*4) vs).drew).frozen? x=((w.drew.alloc (.cells ROW 69)).setCells w.heap.size (i*4) vs).frozen? x:=fun x=>rfl
 have HX:=zbX hGn hG63 hRl hRx;unfold maxLen at hG63;have hGi:¬(G=i):=by omega
 have hGim:¬(G=i+m):=by omega
 have hci:¬(c=i):=by omega
 have hw1:IntKind.i64.wrap ((i:Int)+(m:Int))=(i:Int)+(m:Int):=by rw[IntKind.wrap_i64];omega
 have hb1:(0:Int)<=(i:Int)+(m:Int):=by omega
 have hin:i<=n:=by omega
 have htn:((i:Int)+(m:Int)).toNat=i+m:=by omega
 have hb3:(i:Int)<=(n:Int):=by omega
 clear hkk hik hold hROW hG hRl hm hN e1 e2 hOb hcz htk hcs hvs hdl h1d hxl h hRx htl;go_enter Tryz.func97,Tryz.ntmps97
 go_wp2_with (first
  | (at_builtin;refine Lib.wpList_append_run _ rfl _ _ _ _ rfl _ _ rfl rfl _ _ (hrz _) ?_)
  | (at_builtin;refine zc1 rfl _ _ 37 37 rfl rfl rfl (hcpA _ hE1 hE2 _ _) ?_)
  | (at_builtin;refine zc1 rfl _ _ 37 37 rfl rfl rfl (hcpB _ (fun _=>rfl) (fun _=>rfl) _ _ _) ?_))
 go_region_law (refine zgq rfl (.tmp 50) (.tmp 53) 37 37 rfl (by simp[Act.eval,Act.put];rfl) (by simp[Act.eval,Act.put];rfl) (hcpB _ hF1 hF2 _ _ _) ?_)
 go_wp2
 go_ret;exact⟨G,ROW,rfl,HX.o.1,HX.o.2.1,HX.o.2.2.1,HX.o.2.2.2,rfl⟩
set_option maxRecDepth 100000 in
theorem zmr (lo n c vb m mc:Nat)(a:OA)(xs vs:List Value)(w:World)(h:w.ownsRow lo 69 4 (.l a n c) n xs)(hm:m=1)(hbig:n<=1000)(hlo:lo<=w.heap.size)(hv:w.heap[vb]?=some (.cells vs.toArray 69))(hvl:vs.length=4)(h1v:∀v∈vs,v.oneCell'=true) :
 Calls Tryz.prog 97 #[.l a n c,.i n,.l (some (aD vb 0)) m mc] w fun e w'=>∃v,e=.returned v/\w'.ownsRow lo 69 4 v (n+m) (xs++vs)/\w.grownBy w' (Value.slice a n c).ownBlock/\(v.ownBlock=(Value.slice a n c).ownBlock \/ v.ownBlock=some w.heap.size):=by
 obtain⟨i0,hi0,hz0,hzs,hzb⟩:=info_parts Tryz.zhq;have hvs:∀j v,vs[j]?=some v->w.cell? (((aD vb 0):Addr).add j)=some v:=fun j v hj=>by rw[Addr.add_lit,Nat.zero_add,cell_of_block hv];simpa using hj
 have hz1:¬((m:Int)=0):=by omega
 have hvl':vs.length=m*4:=by omega
 have hml:n+m<=maxLen:=by unfold maxLen;omega
 have hby:(n+m)*48<=140737488355328:=by omega
 have HO:=hid h;clear hm
 rcases h with⟨hl,⟨h3,h0⟩|⟨g,cap',cur,h3,_,hg,hnc,hmx,hs,ht⟩⟩
 ·cases h3
  clear hl;go_enter Tryz.func97,Tryz.ntmps97
  go_wp2_with (at_builtin;refine wpList_append_own_at _ rfl (.tmp 23) (.tmp 24) 37 rfl lo 69 i0 (.agg #[.s ByteArray.empty,.s ByteArray.empty,.i 0,.i 0]) 4 48 Tryz.underlying37 hi0 hz0 hzs hzb rfl (by decide) (.l none 0 0) 0 xs rfl HO.o (aD vb 0) m mc vs rfl hvl' hvs h1v hml hby hlo ?_;intro v' w' hown hgr _ hat;have HR:=zbQ hown hgr hat;clear hown hgr hat)
  go_ret;have hR:=HR.o;rw[Nat.zero_add]at hR;exact⟨v',rfl,hR⟩
 ·cases h3
  unfold maxLen at hmx;clear hl hs ht;go_enter Tryz.func97,Tryz.ntmps97
  go_wp2_with (at_builtin;refine wpList_append_own_at _ rfl (.tmp 23) (.tmp 24) 37 rfl lo 69 i0 (.agg #[.s ByteArray.empty,.s ByteArray.empty,.i 0,.i 0]) 4 48 Tryz.underlying37 hi0 hz0 hzs hzb rfl (by decide) (.l (some (aD g 0)) n c) n xs rfl HO.o (aD vb 0) m mc vs rfl hvl' hvs h1v hml hby hlo ?_;intro v' w' hown hgr _ hat;have HR:=zbQ hown hgr hat;clear hown hgr hat)
  all_goals go_ret
  all_goals exact⟨v',rfl,HR.o⟩
theorem zl9 (lo n c i vb mc:Nat)(a:OA)(xs vs:List Value)(w:World)(h:w.ownsRow lo 69 4 (.l a n c) n xs)(hi:i<=n)(hbig:n<=1000)(hlo:lo<=w.heap.size)(hv:w.heap[vb]?=some (.cells vs.toArray 69))(hvl:vs.length=4)(hvb:∀q,(Value.slice a n c).ownBlock=some q->vb≠q)(h1c:∀v∈xs,v.oneCell'=true)(h1v:∀v∈vs,v.oneCell'=true) :
 Calls Tryz.prog 97 #[.l a n c,.i i,.l (some (aD vb 0)) 1 mc] w fun e w'=>∃v,e=.returned v/\w'.ownsRow lo 69 4 v (n+1) (xs.take (i*4)++(vs++xs.drop (i*4)))/\w.grownBy w' (Value.slice a n c).ownBlock/\(v.ownBlock=(Value.slice a n c).ownBlock \/ v.ownBlock=some w.heap.size):=by
 by_cases hin:i=n
 ·subst hin
  refine(zmr lo i c vb 1 mc a xs vs w h rfl hbig hlo hv hvl h1v).mono ?_;rintro e w'⟨v,he,ho,hr⟩;have hl:=h.1;refine⟨v,he,?_,hr⟩;rw[tOl (by omega),List.drop_eq_nil_of_le (by omega),List.append_nil];exact ho
 ·have hlt:i<n:=by omega
  have HO:=hid h
  rcases h with⟨hl,⟨h3,h0⟩|⟨g,cap',cur,h3,hg0,hg,hnc,hmx,hs,ht⟩⟩
  ·omega
  cases h3
  have hvg:=hvb g rfl
  have hlen:(xs.take (i*4)++(vs++xs.drop (i*4))).length=(n+1)*4:=by
   rw[List.length_append,List.length_append,List.length_take,List.length_drop,hl,hvl];omega
  by_cases hroom:n+1<=c
  ·refine(zj2 lo g n c i vb 1 mc xs vs w HO.o hlt rfl hroom hv hvl hvg h1c h1v).mono ?_
   rintro e w'⟨rfl,hw⟩;obtain⟨C,hC,hCz,hCt⟩:=zmH (W:=w') (w:=w.drew) (p:=i*4) (m:=n*4) (s:=4) hg ht hl (by omega) (by omega) hvl (by rw[hw,show(i+1)*4=i*4+4 by omega]);refine⟨_,rfl,⟨hlen,Or.inr ⟨g,c,C,rfl,hg0,hC,hroom,hmx,by omega,?_⟩⟩,?_,Or.inl rfl⟩
   ·rw[show(n+1)*4=n*4+4 by omega];exact hCt
   ·rw[hw]
    exact zaf (Or.inl rfl) _ _ _ (zaf (Or.inl rfl) _ _ _ ⟨rfl,rfl,rfl,Nat.le_refl _,fun _ _ _=>rfl⟩)
  ·refine(zla lo g n c i vb 1 mc xs vs w HO.o hlt rfl (by omega) hbig hv hvl h1c h1v).mono ?_
   rintro e w'⟨G,ROW,rfl,hG1,hG2,hRz,hRx,hw⟩;obtain⟨C,hC,hCz,hCt⟩:=zo0 (W:=w') (w:=(w.alloc (.cells ROW 69)).drew.drew) (g:=w.heap.size) (p:=i*4) (m:=n*4) (s:=4) (by exact(MapKept.heap_alloc w _).1) hRx hl (by omega) (by omega) hvl (by rw[hw,zda,show(i+1)*4=i*4+4 by omega]);refine⟨_,rfl,⟨hlen,Or.inr ⟨w.heap.size,G,C,rfl,hlo,hC,hG1,hG2,by omega,?_⟩⟩,?_,Or.inr rfl⟩
   ·rw[show(n+1)*4=n*4+4 by omega];exact hCt
   ·rw[hw]
    refine zaf (Or.inr (Nat.le_refl _)) _ _ _ ?_;rw[zda];refine zaf (Or.inr (Nat.le_refl _)) _ _ _ ⟨rfl,rfl,rfl,?_,fun k hk _=>?_⟩
    ·show w.heap.size<=(w.alloc _).heap.size
     simp
    ·exact(MapKept.heap_alloc w (.cells ROW 69)).2 k hk
theorem zl1 (lo:Nat)(own:Nat->Lb)(a:OA)(cap:Nat)(ms:List Lg)(k:Nat)(x:Lg)(vb mc:Nat)(w:World)(h:zdb lo w own (.l a ms.length cap) ms)(hk:k<=ms.length)(hl:ms.length<=1000)(hlo:lo<=w.heap.size)(hv:w.heap[vb]?=some (.cells x.row.toArray 69))(ho:(own vb).1≠2) :
 Calls Tryz.prog 97 #[.l a ms.length cap,.i k,.l (some (aD vb 0)) 1 mc] w fun e w'=>∃v own',e=.returned v/\(∀q,q<w.heap.size->own' q=own q)/\zdb lo w' own' v (ms.take k++x :: ms.drop k)/\Left (fun q=>(own q).1=2) w w':=by
 refine(zl9 lo ms.length cap k vb mc a _ x.row w h.1 hk hl hlo hv rfl (fun q hq e=>ho (by rw[e,h.2 q hq])) zcC (fun u hu=>zcC (xs:=[x]) u (by simpa using hu))).mono ?_;rintro e w'⟨v,rfl,hown,hgr,hat⟩;have e1:(ms.take k++x :: ms.drop k).length=ms.length+1:=by rw[List.length_append,List.length_take,List.length_cons,List.length_drop];omega
 have e2:(ms.flatMap Lg.row).take (k*4)=(ms.take k).flatMap Lg.row/\(ms.flatMap Lg.row).drop (k*4)=(ms.drop k).flatMap Lg.row:=by
  have hk':((ms.take k).flatMap Lg.row).length=k*4:=by rw[zcf _ 4 (fun _=>rfl),List.length_take,Nat.min_eq_left hk]
  have e:ms.flatMap Lg.row=(ms.take k).flatMap Lg.row++(ms.drop k).flatMap Lg.row:=by rw[<- List.flatMap_append,List.take_append_drop]
  constructor
  ·rw[e,<- hk',List.take_left]
  ·rw[e,<- hk',List.drop_left]
 refine⟨v,fun q=>if q<w.heap.size then own q else (2,0,0),rfl,fun q hq=>if_pos hq,⟨?_,fun q hq=>?_⟩,(Left.refl _ _).grown hgr (fun q hq=>by show(own q).1=2;rw[h.2 q hq])⟩
 ·rw[e1,List.flatMap_append,List.flatMap_cons,<- e2.1,<- e2.2];exact hown
 ·rcases hat with e|e
  ·have h1:=(h.1.lt q (e ▸ hq)).2
   show(if _ then _ else _)=_
   rw[if_pos h1];exact h.2 q (e ▸ hq)
  ·rw[hq]at e
   obtain rfl:q=w.heap.size:=by simpa using e
   show(if _ then _ else _)=_
   rw[if_neg (by omega)]
end Go.Proofs.YtcgpjfcocmcodaaGreat
