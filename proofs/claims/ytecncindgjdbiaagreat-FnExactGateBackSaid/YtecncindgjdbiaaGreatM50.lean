import Derived.Test.YtecncindgjdbiaaGreatM49
set_option maxHeartbeats 4000000
namespace Go.Proofs.YtecncindgjdbiaaGreat
open Go.RowKit
def zfP (b:Bk)(k:Nat)(h:k<b.ps.length):Bk:={ b with ls:=pay b.ls b.ps[k],ps:=b.ps.eraseIdx k }
noncomputable def back (l:Lw)(b:Bk)(dr tm rs:BA):Bk × Int:=if jH l b=true then (if h:b.ps.findIdx (zbO dr tm rs)<b.ps.length then (zfP b _ h,0) else (b,2)) else (zaQ,1)
theorem zeo.idx {ps:List Pu}{dr tm rs:BA}{k:Nat}(h:zeo ps dr tm rs k)(hr:rising ql ps)(hh:jJ ps dr tm rs=true):ps.findIdx (zbO dr tm rs)=k:=by
 obtain⟨hk,he⟩:=(h.found hr).1 hh;rw[List.findIdx_eq hk];refine⟨by unfold zbO;simp[he.1,he.2.1,he.2.2],fun j hj=>?_⟩;have h1:=h.below 0 0 j (by omega) hj;rw[Bool.eq_false_iff];intro h2;unfold zbO at h2;simp only[Bool.and_eq_true,decide_eq_true_eq]at h2
 have:=zf1 (a:=ps[j]'(by omega)) (b:=⟨dr,tm,rs,0,0⟩)
 rw[this.2 h2]at h1;omega
theorem zp5 {ps:List Pu}{dr tm rs:BA}(h:jJ ps dr tm rs=true):zcj (zbO dr tm rs) ps=(ps.findIdx (zbO dr tm rs):Nat)/\ps.findIdx (zbO dr tm rs)<ps.length:=⟨if_pos h,List.findIdx_lt_length.2 (List.any_eq_true.1 h)⟩
theorem zlR {ps:List Pu}{dr tm rs:BA}(h:jJ ps dr tm rs=false):zcj (zbO dr tm rs) ps=-1/\¬ps.findIdx (zbO dr tm rs)<ps.length:=by
 refine⟨if_neg (by unfold jJ at h;rw[h];simp),fun h2=>?_⟩;have h3:=List.any_eq_true.2 (List.findIdx_lt_length.1 h2);unfold jJ at h;rw[h3]at h
 cases h
theorem zpg {α:Type}(row:α->List Value)(ps:List α)(k:Nat):∀(j:Nat) (u:Value),((ps.take k).flatMap row)[j]?=some u->(ps.flatMap row)[j]?=some u:=by
 intro j u hj;have hlt:=(List.getElem?_eq_some_iff.1 hj).1;have e:ps.flatMap row=(ps.take k).flatMap row++(ps.drop k).flatMap row:=by rw[<- List.flatMap_append,List.take_append_drop]
 rw[e,List.getElem?_append_left hlt];exact hj
theorem zpj {α:Type}(row:α->List Value)(n:Nat)(hn:∀p,(row p).length=n)(ps:List α)(k:Nat)(hk:k<=ps.length):∀(j:Nat) (u:Value),((ps.drop k).flatMap row)[j]?=some u->(ps.flatMap row)[k*n+j]?=some u:=by
 intro j u hj;have e:ps.flatMap row=(ps.take k).flatMap row++(ps.drop k).flatMap row:=by rw[<- List.flatMap_append,List.take_append_drop]
 have el:((ps.take k).flatMap row).length=k*n:=by rw[q9 row n hn,List.length_take,Nat.min_eq_left hk]
 rw[e,List.getElem?_append_right (by omega),el,Nat.add_sub_cancel_left];exact hj
set_option maxRecDepth 20000 in
theorem zpA (lo:Nat)(g cap k:Nat)(ps:List Pu)(w:World)(h:w.ownsRow lo 79 5 (.l (some (aD g 0)) ps.length cap) ps.length (ps.flatMap Pu.row))(hk:k<ps.length)(hl:ps.length<=1000) :
 Calls Tryz.prog 71 #[.l (some (aD g 0)) ps.length cap,.i k] w fun e w'=>∃v,e=.returned v/\w'.ownsRow w.heap.size 79 5 v (k+(ps.length-(k+1))) ((ps.take k).flatMap Pu.row++(ps.drop (k+1)).flatMap Pu.row)/\Bw w w':=by
 obtain⟨i3,hi3,hzi3,hsi3,hbi3⟩:=info_parts Tryz.zlJ;have hcap:=zq2 h;have hc:=zpr h;have hgw:g<w.heap.size:=(h.lt g rfl).2;have HC:Hid (∀W,Bw w W->∀j u,(ps.flatMap Pu.row)[j]?=some u->W.cell? (aD g j)=some u):=fun W hW j u hj=>(hW.cell (p:=(aD g j)) hgw).trans (hc j u hj)
 have hI:(k:Int)<=(ps.length:Int):=by omega
 have hI2:(k:Int)<=(cap:Int):=by omega
 have hI3:(k:Int)+1<=(ps.length:Int):=by omega
 have hI4:(ps.length:Int)<=(cap:Int):=by omega
 have hw1:IntKind.i64.wrap ((k:Int)+1)=(k:Int)+1:=by rw[IntKind.wrap_i64];omega
 have hk0:(0:Int)<=k:=by omega
 have hk1:(0:Int)<=(k:Int)+1:=by omega
 obtain⟨ad,had,hadc⟩:∃ad:Addr,(if cap=k+1 then some ((aD g 0):Addr) else some (aD g ((k+1)*5)))=some ad/\∀W,Bw w W->∀j u,((ps.drop (k+1)).flatMap Pu.row)[j]?=some u->W.cell? (ad.add j)=some u:=by
  by_cases hce:cap=k+1
  ·refine⟨_,if_pos hce,fun W hW j u hj=>?_⟩
   rw[List.drop_eq_nil_of_le (by omega)]at hj
   simp at hj
  ·refine⟨_,if_neg hce,fun W hW j u hj=>?_⟩
   rw[Addr.add_mid];exact HC.o W hW _ u (zpj Pu.row 5 (fun _=>rfl) ps (k+1) (by omega) j u hj)
 have HAD:=hid hadc;clear hadc;clear hc h;go_enter Tryz.func71,Tryz.ntmps71;go_wp2_with fail
 refine zbW (fun A A' w'=>∃u5 u6 u7 u8 u9 u10 u11 u12 u13 u14 v,A'=(((((((((((A.put (some 5) u5).put (some 6) u6).put (some 7) u7).put (some 8) u8).put (some 9) u9).put (some 10) u10).put (some 11) u11).put (some 12) u12).put (some 13) u13).put (some 14) u14).put (some 4) v)/\w'.ownsRow w.heap.size 79 5 v (k+(ps.length-(k+1))) ((ps.take k).flatMap Pu.row++(ps.drop (k+1)).flatMap Pu.row)/\Bw w w') ?_ ?_
 ·refine wp_region_held_drew (S:=fun _=>True) (by kernel_rfl) trivial (fun H_=>?_)
  refine tG 1 ?_ (hQ:=fun _ _ _ h=>by cases h.1);refine tG 2 ?_ (hQ:=fun _ _ _ h=>by cases h.1);refine tG 3 ?_ (hQ:=fun _ _ _ h=>by cases h.1);refine tG 5 ?_ (hQ:=fun _ _ _ h=>by cases h.1);refine tG 6 ?_ (hQ:=fun _ _ _ h=>by cases h.1);refine tG 7 ?_ (hQ:=fun _ _ _ h=>by cases h.1);refine tG 8 ?_ (hQ:=fun _ _ _ h=>by cases h.1);have hBa:Bw w (w.drew.alloc (.cells #[] 79)):=(bRf _ _).drew.alloc (Nat.le_refl _) _;refine cH 0 rfl fun K hK=>?_
  go_simp
  refine hK.out _ _ trivial (fun H_=>?_);clear hK K
  (try simp only[Act.put,sA,s0,sS])
  refine cH 4 rfl fun K hK=>?_
  refine wp_append_own _ (.tmp 5) (.tmp 8) 38 rfl w.heap.size 79 i3 (.agg #[.s ByteArray.empty,.s ByteArray.empty,.s ByteArray.empty,.i 0,.i 0]) 5 64 Tryz.underlying38 hi3 hzi3 hsi3 hbi3 rfl (by decide) (.l (some (aD w.heap.size 0)) 0 0) 0 [] rfl ⟨rfl,Or.inr ⟨w.heap.size,0,#[],rfl,Nat.le_refl _,(MapKept.heap_alloc w.drew _).1,Nat.le_refl _,by simp[maxLen],rfl,rfl⟩⟩ (aD g 0) k cap ((ps.take k).flatMap Pu.row) rfl (by rw[q9 Pu.row 5 (fun _=>rfl),List.length_take,Nat.min_eq_left (by omega)]) (fun j u hj=>by rw[Addr.add_mid,Nat.zero_add];exact HC.o _ hBa j u (zpg Pu.row ps k j u hj)) zi8 (by unfold maxLen;omega) (by omega) (by simp) ?_;intro v' w1 hown hgr _;rw[Nat.zero_add,List.nil_append]at hown;have hB1:Bw w w1:=hBa.grown hgr (by simp) (fun z hz=>by have:=Option.some.inj (show some w.heap.size=some z from hz);omega);obtain⟨va,vc,rfl⟩:=jD hown;have hvb:∀z,(Value.slice va k vc).ownBlock=some z->w.heap.size<=z:=fun z hz=>(hown.lt z hz).1
  refine hK.out _ _ trivial (fun H_=>?_);clear hK K
  (try simp only[Act.put,sA,s0,sS])
  refine cH 9 rfl fun K hK=>?_
  refine wp_append_own _ (.tmp 9) (.tmp 13) 38 rfl w.heap.size 79 i3 (.agg #[.s ByteArray.empty,.s ByteArray.empty,.s ByteArray.empty,.i 0,.i 0]) 5 64 Tryz.underlying38 hi3 hzi3 hsi3 hbi3 rfl (by decide) (.l va k vc) k _ rfl hown ad (ps.length-(k+1)) (cap-(k+1)) ((ps.drop (k+1)).flatMap Pu.row) rfl (by rw[q9 Pu.row 5 (fun _=>rfl),List.length_drop]) (HAD.o w1 hB1) zi8 (by unfold maxLen;omega) (by omega) hB1.size ?_;intro v2 w2 hown2 hgr2 _;have hB2:Bw w w2:=hB1.grown hgr2 hB1.size hvb;refine hK.out _ _ trivial (fun H_=>?_);clear hK K
  (try simp only[Act.put,sA,s0,sS])
  refine tG 10 ?_ (hQ:=fun _ _ _ h=>by cases h.1);refine wpAnyH_done (by kernel_rfl) ?_ _;exact⟨rfl,_,_,_,_,_,_,_,_,_,_,v2,rfl,hown2,hB2⟩
 ·rintro A' w'⟨u5,u6,u7,u8,u9,u10,u11,u12,u13,u14,v,rfl,ho,hB⟩
  (try simp only[Act.put,sA,s0,sS])
  go_wp2_with fail
  go_ret;exact⟨v,rfl,ho,hB⟩
theorem zo9 {w:World}{b:Nat}{x0 x1 x2 x3 x4 x5 x6:Value}{t:TypeId}(h:w.heap[b]?=some (.cells #[x0,x1,x2,x3,x4,x5,x6] t))(v0 v1 v2 v3 v4 v5 v6:Value):(zjX w b v0 v1 v2 v3 v4 v5 v6).heap[b]?=some (.cells #[v0,v1,v2,v3,v4,v5,v6] t):=by
 unfold zjX;rw[zi (zi (zi (zi (zi (zi (zi h v0) v1) v2) v3) v4) v5) v6]
 rfl
theorem Left.zjX {S:Nat->Prop}{w W:World}(h:Left S w W){b:Nat}(hb:S b)(v0 v1 v2 v3 v4 v5 v6:Value):Left S w (zjX W b v0 v1 v2 v3 v4 v5 v6):=
 ((((((h.set hb 0 v0).set hb 1 v1).set hb 2 v2).set hb 3 v3).set hb 4 v4).set hb 5 v5).set hb 6 v6
theorem BkL.mono {lo hi:Nat}{w w':World}{own:Nat->Lb}{b:Bk}{a0 a1 a2 a3:OA}(h:BkL lo hi w own b a0 a1 a2 a3)(hb:Bw w w'):BkL lo hi w' own b a0 a1 a2 a3:=BkF.mono h hb
theorem BkM.mono {lo hi:Nat}{w w':World}{own:Nat->Lb}{b:Bk}{a0 a1 a2 a3:OA}(h:BkM lo hi w own b a0 a1 a2 a3)(hb:Bw w w'):BkM lo hi w' own b a0 a1 a2 a3:=BkF.mono h hb
theorem BkL.zjX {lo hi:Nat}{w:World}{own:Nat->Lb}{b:Bk}{a0 a1 a2 a3:OA}(h:BkL lo hi w own b a0 a1 a2 a3)(z:Nat)(hz:z<lo)(v0 v1 v2 v3 v4 v5 v6:Value):BkL lo hi (zjX w z v0 v1 v2 v3 v4 v5 v6) own b a0 a1 a2 a3:=
 BkF.left h ((Left.refl (fun k=>k=z) w).zjX rfl v0 v1 v2 v3 v4 v5 v6) (fun k hk h2=>by subst h2;have:=BkF.out h k (Or.inl hz);omega)
theorem Left.box {S:Nat->Prop}{b:Nat}{w w':World}{X:AV}(h:Left S w w')(hX:∀o,w.cell? (aD b o)=X[o]?)(hb:b<w.heap.size)(hn:¬S b):∀o,w'.cell? (aD b o)=X[o]?:=
 fun o=>by rw[<- hX o];unfold World.cell?;rw[h.out b hb hn]
structure zo1 (w:World)(b:Bk)(a0 a1 a2 a3:OA):Prop where
 bk:jc w b a0 a1 a2 a3
 has:zcn w a0 b.os
theorem zo1.mono {w w':World}{b:Bk}{a0 a1 a2 a3:OA}(h:zo1 w b a0 a1 a2 a3)(hb:Bw w w'):zo1 w' b a0 a1 a2 a3:=⟨h.bk.mono hb,h.has.mono hb⟩
theorem zfy (b:Bk)(a0 a1 a2 a3:OA)(c0 c1 c2 c3:Nat)(w:World)(hl:jc w b a0 a1 a2 a3)(hf:b.Few) :
 Calls Tryz.prog 8 #[.agg (b.cells a0 a1 a2 a3 c0 c1 c2 c3)] w fun e w'=>∃d e' f g,e=.returned (.agg (b.cells d e' f g b.os.length b.gs.length b.ls.length b.ps.length))/\zo1 w' b d e' f g/\Bw w w':=by
 refine(zkc b a0 a1 a2 a3 c0 c1 c2 c3 w hl hf).mono ?_;rintro e w'⟨d,e',f,g,rfl,h1,h2,hb⟩;exact⟨d,e',f,g,rfl,⟨h1,h2⟩,hb⟩
def zq8 (lo:Nat)(w:World)(e:Ending)(rb:Bk)(rc:Int):Prop:=∃hi own d0 d1 d2 d3 e0 e1 e2 e3,e=.returned (.tuple #[.agg #[.i rb.now,.i rb.tick,.i rb.given,.l d0 rb.os.length e0,.l d1 rb.gs.length e1,.l d2 rb.ls.length e2,.l d3 rb.ps.length e3],.i rc])/\BkL lo hi w own rb d0 d1 d2 d3
theorem znL.res {lo:Nat}{w:World}{e:Ending}{r:Bk × Int}{rb:Bk}{rc:Int}(h:znL lo w e r)(hr:r=(rb,rc)):zq8 lo w e rb rc:=by
 obtain⟨hi,own,d0,d1,d2,d3,e0,e1,e2,e3,h1,h2⟩:=h.ex;subst hr;exact⟨hi,own,d0,d1,d2,d3,e0,e1,e2,e3,h1,h2⟩
theorem zhL {f:Nat}{args:AV}{w:World}{r:Bk × Int}{rb:Bk}{rc:Int}(hr:r=(rb,rc))(h:Calls Tryz.prog f args w fun e w'=>znL w.heap.size w' e r/\Bw w w'):Calls Tryz.prog f args w fun e w'=>zq8 w.heap.size w' e rb rc/\Bw w w':=h.mono fun _ _ h=>⟨h.1.res hr,h.2⟩
end Go.Proofs.YtecncindgjdbiaaGreat
