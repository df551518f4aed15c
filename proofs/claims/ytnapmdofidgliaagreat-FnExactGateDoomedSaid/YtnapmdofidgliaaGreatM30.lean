import Derived.Test.YtnapmdofidgliaaGreatM28
set_option maxHeartbeats 4000000
namespace Go.Proofs.YtnapmdofidgliaaGreat
open Go.RowKit
def zi7 (ss:List Shp)(o:Ob):List ByteArray:=if zG ss o.kd=true/\zN ss=true/\o.vs.length=(shapeOf ss o.kd).fs.length then zal (shapeOf ss o.kd).fs o.vs else o.vs
def zgP (o:Ob)(vs:List ByteArray)(w:World)(e:Ending)(w':World):Prop:=
 ∃a dap a' dap' m,e=.returned (.agg #[.string o.kd,.string o.nm,.string o.tm,.slice a o.vs.length dap,.bool o.en,.slice a' o.hs.length dap',.int .i64 o.vr])/\zx w.heap.size w' a vs/\(∀g,a=some g->g.block<m)/\w.heap.size<=m/\zx m w' a' o.hs/\Below w.heap.size w w'
structure zbc (lo hi:Nat)(w:World)(b n:Nat):Prop where
 low:lo<=b
 high:b<hi
 rows:∃C,w.heap[b]?=some (.cells C 3)/\n<=C.size/\∀j,j<n->zbi C j
theorem zbc.mono {lo hi:Nat}{w w':World}{b n:Nat}(h:zbc lo hi w b n)(hM:Marked lo hi w w'):zbc lo hi w' b n:=by
 obtain⟨C,hC,hs,hn⟩:=h.rows;obtain⟨C',hC',hs',hk⟩:=hM.inn b C _ h.low h.high hC;exact⟨h.low,h.high,C',hC',by omega,fun j hj a m c he=>hn j hj a m c ((hk j a m c).1 he)⟩
theorem zgh (g n cap:Nat)(C:Array Value)(k:Nat)(w:World)(hC:w.heap[g]?=some (.cells C 3))(hn:n<=C.size)(hns:∀i,i<n->∀a m c,C[i]?≠some (Value.slice a m c))(hk:0<k)(hkn:k+n<9000000000000000000) :
 Calls Tryz.prog 15 #[.slice (some ⟨g,0,none⟩) n cap,.int .i64 k] w fun e w'=>e=.returned (.int .i64 ((k+n:Nat):Int))/\Marked g (g+1) w w'/\∃C',w'.heap[g]?=some (.cells C' 3)/\C'.size=C.size/\∀i,i<n->C'[i]?=some (.int .i64 ((k+i:Nat):Int)):=by
 have HS:=hid hns;have HC:=hid hC;have HN:=hid hn;have HKN:=hid hkn;clear hC hn hns hkn;go_enter Tryz.func15,Tryz.ntmps15;go_wp2_with fail
 go_loopw [1,5] (fun kv iv wr=>∃i:Nat,i<=n/\kv=.int .i64 ((k+i:Nat):Int)/\iv=.int .i64 i/\Hid (Marked g (g+1) w wr/\∃C',wr.heap[g]?=some (.cells C' 3)/\C'.size=C.size/\∀j,j<i->C'[j]?=some (.int .i64 ((k+j:Nat):Int)))) (fun _ iv _=>n-(intOf iv).toNat)
 case atStart=>exact⟨0,Nat.zero_le _,rfl,rfl,Marked.refl _ _ _,C,HC.out,rfl,fun j h=>absurd h (Nat.not_lt_zero _)⟩
 case round=>
  obtain⟨i,hi,rfl,rfl,HQ⟩:=hrel;obtain⟨hM,C',hC',hs',hc'⟩:=HQ.out
  by_cases hlt:i<n
  ·have hltI:(i:Int)<(n:Int):=by omega
   have hgw:=(gES hC').1;obtain⟨cv,hce⟩:∃cv,wr.cell? ⟨g,i,none⟩=some cv:=⟨C'[i]'(by have:=HN.out;omega),by rw[cell_of_block hC'];exact Array.getElem?_eq_getElem (by have:=HN.out;omega)⟩
   have hfz:∀o,wr.frozen? ⟨g,o,none⟩=false:=fun o=>zh hC'
   have HE:Hid (Marked g (g+1) w (wr.setCell ⟨g,i,none⟩ (.int .i64 ((k+i:Nat):Int)))/\∃C',(wr.setCell ⟨g,i,none⟩ (.int .i64 ((k+i:Nat):Int))).heap[g]?=some (.cells C' 3)/\C'.size=C.size/\∀j,j<i+1->C'[j]?=some (.int .i64 ((k+j:Nat):Int))):=by
    refine⟨hM.put (Nat.le_refl _) (Nat.lt_succ_self _) HC.out (HS.out i hlt) _ (fun _ _ _ h=>by cases h),_,zk hC' _,by simpa using hs',fun j hj=>?_⟩
    by_cases e:j=i
    ·subst e;rw[Array.getElem?_setIfInBounds_self_of_lt (by have:=HN.out;omega)]
    ·rw[Array.getElem?_setIfInBounds_ne (by omega)];exact hc' j (by omega)
   have hw1:wrap64 ((k+i:Nat)+1:Int)=((k+(i+1):Nat):Int):=by rw[yt _ ⟨by omega,by have:=HKN.out;omega⟩];omega
   clear HQ hM hC' hs' hc';obtain⟨kk,hkk⟩:∃kk:Int,kk=((k+i:Nat):Int):=⟨_,rfl⟩
   rw[<- hkk]at HE hw1 ⊢;clear hkk;go_wp2_with fail
   go_roundw
   case rel=>exact⟨i+1,by omega,by rw[hw1],by rw[wrap_one (by have:=HKN.out;omega)],HE.out⟩
   case measure=>exact jq hlt (by have:=HKN.out;omega)
  ·have e:i=n:=by omega
   subst e;have HE:=hid HQ.out;clear HQ hM hC' hs' hc';go_wp2_with fail
   go_ret;exact⟨rfl,HE.out⟩
theorem zk5 (lo hi b n cap:Nat)(k:Int)(w:World)(h:zbc lo hi w b n)(hn:n<=1048576)(hk:0<k)(hk2:k<8000000000000000000) :
 Calls Tryz.prog 15 #[.slice (some ⟨b,0,none⟩) n cap,.int .i64 k] w fun e w'=>∃k',e=.returned (.int .i64 k')/\k'=k+n/\Marked lo hi w w':=by
 obtain⟨m,rfl⟩:∃m:Nat,k=m:=⟨k.toNat,by omega⟩
 obtain⟨C,hC,hs,hns⟩:=h.rows;refine(zgh b n cap C m w hC hs hns (by omega) (by omega)).mono fun e w' ⟨h1,h2,_⟩=>⟨_,h1,Int.natCast_add _ _,h2.wide h.low h.high⟩
structure j4 (lo hi:Nat)(w:World)(bo:Nat)(ms:List Mnd):Prop where
 low:lo<=bo
 high:bo<hi
 rows:∃C,w.heap[bo]?=some (.cells C 133)/\C.size=ms.length*6/\∀j,j<ms.length*6->zbi C j
theorem j4.mono {lo hi:Nat}{w w':World}{b:Nat}{ms:List Mnd}(h:j4 lo hi w b ms)(hM:Marked lo hi w w'):j4 lo hi w' b ms:=by
 obtain⟨C,hC,hs,hn⟩:=h.rows;obtain⟨C',hC',hs',hk⟩:=hM.inn b C _ h.low h.high hC;exact⟨h.low,h.high,C',hC',by omega,fun j hj a m c he=>hn j hj a m c ((hk j a m c).1 he)⟩
theorem je.form {lo:Nat}{w:World}{bo:Nat}{ms:List Mnd}(h:je lo w bo ms ms.length):j4 lo w.heap.size w bo ms:=by
 obtain⟨C,hC,hsz,hr⟩:=h.rows;refine⟨h.low,(gES hC).1,C,hC,hsz,fun j hj a n c he=>?_⟩;have hi:j / 6<ms.length:=by omega
 have e:j=j / 6*6+j % 6:=by omega
 rw[e,hr (j / 6) hi hi (j % 6) (by omega)]at he;have h6:j % 6<6:=by omega
 revert he
 generalize j % 6=q at h6
 intro he
 rcases q with _|_|_|_|_|_|q <;> first|omega|(simp[Mnd.cells]at he)
theorem j4.ready {lo hi bo:Nat}{w W:World}{ms:List Mnd}(h:j4 lo hi w bo ms)(hM:Marked lo hi w W)(i:Nat)(hi':i<ms.length) :
 (∀j,j<6->∃v,W.cell? ⟨bo,i*6+j,none⟩=some v)/\(∀o,W.frozen? ⟨bo,o,none⟩=false):=by
 have h':=h.mono hM;obtain⟨C,hC,hs,hn⟩:=h'.rows;exact⟨fun j hj=>⟨C[i*6+j]'(by omega),by rw[cell_of_block hC];exact Array.getElem?_eq_getElem (by omega)⟩,fun o=>zh hC⟩
theorem j4.put {lo hi bo:Nat}{w W:World}{ms:List Mnd}(h:j4 lo hi w bo ms)(hM:Marked lo hi w W)(i j:Nat)(hi':i<ms.length)(hj:j<6)(v:Value)(hv:∀a n c,v≠Value.slice a n c):Marked lo hi w (W.setCell ⟨bo,i*6+j,none⟩ v):=by
 obtain⟨C,hC,hs,hn⟩:=h.rows;exact hM.put h.low h.high hC (hn (i*6+j) (by omega)) v hv
set_option maxRecDepth 20000 in
theorem zgp (lo hi bo cap:Nat)(ms:List Mnd)(k:Int)(w:World)(h:j4 lo hi w bo ms)(hl:ms.length<=1048576)(hk:0<k)(hk2:k<6000000000000000000) :
 Calls Tryz.prog 47 #[.slice (some ⟨bo,0,none⟩) ms.length cap,.int .i64 k] w fun e w'=>∃k',e=.returned (.int .i64 k')/\k<=k'/\k'<=k+ms.length*6/\Marked lo hi w w':=by
 have HF:Hid (j4 lo hi w bo ms):=h;have HL:Hid (ms.length<=1048576):=hl;have HK:Hid (0<k/\k<6000000000000000000):=⟨hk,hk2⟩
 clear h hl hk hk2;go_enter Tryz.func47,Tryz.ntmps47;go_wp2_with fail
 go_loopw [1,5] (fun kv iv wr=>∃(i:Nat) (kk:Int),i<=ms.length/\kv=.int .i64 kk/\iv=.int .i64 i/\k<=kk/\kk<=k+i*6/\Marked lo hi w wr) (fun _ iv _=>ms.length-(intOf iv).toNat)
 case atStart=>exact⟨0,k,Nat.zero_le _,rfl,rfl,Int.le_refl _,by simp,Marked.refl _ _ _⟩
 case round=>
  obtain⟨i,kk,hile,rfl,rfl,h1,h2,hM⟩:=hrel
  by_cases hlt:i<ms.length
  ·have hltI:(i:Int)<(ms.length:Int):=by omega
   have HB:Hid (0<kk/\kk<7000000000000000000/\kk<=k+i*6/\k<=kk):=by have a:=HK.out;have b:=HL.out;exact⟨by omega,by omega,h2,h1⟩
   have HM:Hid (Marked lo hi w wr):=hM;clear h1 h2 hM;have hw1:wrap64 (kk+1)=kk+1:=by have:=HB.out;exact yt _ ⟨by omega,by omega⟩
   have hw2:wrap64 (kk+1+1)=kk+1+1:=by have:=HB.out;exact yt _ ⟨by omega,by omega⟩
   have hw3:wrap64 (kk+1+1+1)=kk+1+1+1:=by have:=HB.out;exact yt _ ⟨by omega,by omega⟩
   have hw4:wrap64 (kk+1+1+1+1)=kk+1+1+1+1:=by have:=HB.out;exact yt _ ⟨by omega,by omega⟩
   have hw5:wrap64 (kk+1+1+1+1+1)=kk+1+1+1+1+1:=by have:=HB.out;exact yt _ ⟨by omega,by omega⟩
   have hw6:wrap64 (kk+1+1+1+1+1+1)=kk+1+1+1+1+1+1:=by have:=HB.out;exact yt _ ⟨by omega,by omega⟩
   go_wp2_with fail
   refine(zP _ _ (by have:=HB.out;omega) (by have:=HB.out;omega)).mono ?_;rintro e wm0⟨s0,rfl,hb⟩;have HM0:Hid (Marked lo hi w wm0):=HM.out.trans (Marked.of_below hb);clear hb;obtain⟨hex,hfz⟩:=HF.out.ready HM0.out i hlt;obtain⟨v0,hv0⟩:=hex 0 (by omega);rw[Nat.add_zero]at hv0;have HP0:Hid (Marked lo hi w (wm0.setCell ⟨bo,i*6,none⟩ (.string s0))):=HF.out.put HM0.out i 0 hlt (by omega) (.string s0) (fun _ _ _ h=>by cases h);clear hex;go_wp2_with fail
   clear hv0 hfz;refine(zP _ _ (by have:=HB.out;omega) (by have:=HB.out;omega)).mono ?_;rintro e wm1⟨s1,rfl,hb⟩;have HM1:Hid (Marked lo hi w wm1):=HP0.out.trans (Marked.of_below hb);clear hb;obtain⟨hex,hfz⟩:=HF.out.ready HM1.out i hlt;obtain⟨v1,hv1⟩:=hex 1 (by omega);have HP1:Hid (Marked lo hi w (wm1.setCell ⟨bo,i*6+1,none⟩ (.string s1))):=HF.out.put HM1.out i 1 hlt (by omega) (.string s1) (fun _ _ _ h=>by cases h);clear hex;go_wp2_with fail
   clear hv1 hfz;refine(zP _ _ (by have:=HB.out;omega) (by have:=HB.out;omega)).mono ?_;rintro e wm2⟨s2,rfl,hb⟩;have HM2:Hid (Marked lo hi w wm2):=HP1.out.trans (Marked.of_below hb);clear hb;obtain⟨hex,hfz⟩:=HF.out.ready HM2.out i hlt;obtain⟨v2,hv2⟩:=hex 2 (by omega);have HP2:Hid (Marked lo hi w (wm2.setCell ⟨bo,i*6+2,none⟩ (.string s2))):=HF.out.put HM2.out i 2 hlt (by omega) (.string s2) (fun _ _ _ h=>by cases h);clear hex;go_wp2_with fail
   clear hv2 hfz;refine(zP _ _ (by have:=HB.out;omega) (by have:=HB.out;omega)).mono ?_;rintro e wm3⟨s3,rfl,hb⟩;have HM3:Hid (Marked lo hi w wm3):=HP2.out.trans (Marked.of_below hb);clear hb;obtain⟨hex,hfz⟩:=HF.out.ready HM3.out i hlt;obtain⟨v3,hv3⟩:=hex 3 (by omega);have HP3:Hid (Marked lo hi w (wm3.setCell ⟨bo,i*6+3,none⟩ (.string s3))):=HF.out.put HM3.out i 3 hlt (by omega) (.string s3) (fun _ _ _ h=>by cases h);clear hex;go_wp2_with fail
   clear hv3 hfz;refine(zP _ _ (by have:=HB.out;omega) (by have:=HB.out;omega)).mono ?_;rintro e wm4⟨s4,rfl,hb⟩;have HM4:Hid (Marked lo hi w wm4):=HP3.out.trans (Marked.of_below hb);clear hb;obtain⟨hex,hfz⟩:=HF.out.ready HM4.out i hlt;obtain⟨v4,hv4⟩:=hex 4 (by omega);have HP4:Hid (Marked lo hi w (wm4.setCell ⟨bo,i*6+4,none⟩ (.string s4))):=HF.out.put HM4.out i 4 hlt (by omega) (.string s4) (fun _ _ _ h=>by cases h);clear hex;go_wp2_with fail
   clear hv4 hfz;refine(zP _ _ (by have:=HB.out;omega) (by have:=HB.out;omega)).mono ?_;rintro e wm5⟨s5,rfl,hb⟩;have HM5:Hid (Marked lo hi w wm5):=HP4.out.trans (Marked.of_below hb);clear hb;obtain⟨hex,hfz⟩:=HF.out.ready HM5.out i hlt;obtain⟨v5,hv5⟩:=hex 5 (by omega);have HP5:Hid (Marked lo hi w (wm5.setCell ⟨bo,i*6+5,none⟩ (.string s5))):=HF.out.put HM5.out i 5 hlt (by omega) (.string s5) (fun _ _ _ h=>by cases h);clear hex;go_wp2_with fail
   go_roundw
   case rel=>exact⟨i+1,kk+1+1+1+1+1+1,by omega,by rw[hw6],by rw[wrap_one (by have:=HL.out;omega)],by have a:=HB.out;omega,by have a:=HB.out;omega,HP5.out⟩
   case measure=>exact jq hlt (by have:=HL.out;omega)
  ·have e:i=ms.length:=by omega
   subst e;go_wp2_with fail
   go_ret;exact⟨kk,rfl,h1,h2,hM⟩
end Go.Proofs.YtnapmdofidgliaaGreat
