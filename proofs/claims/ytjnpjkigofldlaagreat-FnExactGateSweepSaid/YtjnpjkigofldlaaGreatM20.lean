import Derived.Test.YtjnpjkigofldlaaGreatM14
import Derived.Test.YtjnpjkigofldlaaGreatM16
import Derived.Laws.IdiomStrings
set_option maxRecDepth 20000
set_option maxHeartbeats 4000000
namespace Go.Proofs.YtjnpjkigofldlaaGreat
open Go.RowKit
variable {fs:List Fld}{b bo hi k lo n:Nat}{W w w':World}{ss:List Shp}
theorem zoq (x:Value)(w:World):(method 432 263 x "loop.example/wharfgate/impl.bare").run Tryz.prog w=.ok (271,x) w:=by kernel_rfl
theorem zlT (x:Value)(w:World):(method 432 263 x "loop.example/wharfgate/impl.sound").run Tryz.prog w=.ok (273,x) w:=by kernel_rfl
theorem znC (x:Value)(w:World):(method 432 265 x "loop.example/wharfgate/impl.bare").run Tryz.prog w=.ok (274,x) w:=by kernel_rfl
theorem zl7 (x:Value)(w:World):(method 432 265 x "loop.example/wharfgate/impl.sound").run Tryz.prog w=.ok (276,x) w:=by kernel_rfl
theorem zoj (x:Value)(w:World):(method 432 266 x "loop.example/wharfgate/impl.bare").run Tryz.prog w=.ok (279,x) w:=by kernel_rfl
theorem zl2 (x:Value)(w:World):(method 432 266 x "loop.example/wharfgate/impl.sound").run Tryz.prog w=.ok (281,x) w:=by kernel_rfl
theorem znN (x:Value)(w:World):(method 432 267 x "loop.example/wharfgate/impl.bare").run Tryz.prog w=.ok (282,x) w:=by kernel_rfl
theorem zmd (x:Value)(w:World):(method 432 267 x "loop.example/wharfgate/impl.sound").run Tryz.prog w=.ok (284,x) w:=by kernel_rfl
theorem zdD (r fk T fB fS fF:Nat)(B Sn Ft:Bool)(nm:BA)(kd ls ms:Int)(a:OA)(cap:Nat)(ws:List BA)(to:BA)(rl:Int)(mu fx:Bool)(df wg:BA)(a0:OA)(cap0:Nat)(ss:List Shp)(w:World)
 (hlk:∀o,(Instr.lookup 225 (.map (some r)) (.i kd) true).run Tryz.prog (w.alloc o)=.ok (.tuple #[.func (.func fk) #[] #[],.bool true]) (w.alloc o))
 (hm1:∀x w,(method 432 T x "loop.example/wharfgate/impl.bare").run Tryz.prog w=.ok (fB,x) w) (hm2:∀x w,(method 432 T x "loop.example/wharfgate/impl.sound").run Tryz.prog w=.ok (fS,x) w) (hm3:∀x w,(method 432 T x "loop.example/wharfgate/impl.fits").run Tryz.prog w=.ok (fF,x) w)
 (hc0:∀args w,(callFunc fk args).run Tryz.prog w=.ok (.enter fk args) w) (hc1:∀args w,(callFunc fB args).run Tryz.prog w=.ok (.enter fB args) w) (hc2:∀args w,(callFunc fS args).run Tryz.prog w=.ok (.enter fS args) w) (hc3:∀args w,(callFunc fF args).run Tryz.prog w=.ok (.enter fF args) w)
 (HK:Hid (∀W,Calls Tryz.prog fk #[.agg #[.s nm,.i kd,.i ls,.i ms,.l a ws.length cap,.s to,.i rl,.bool mu,.bool fx,.s df,.s wg]] W fun e w'=>e=.returned (.iface T (.agg #[.s nm,.i kd,.i ls,.i ms,.l a ws.length cap,.s to,.i rl,.bool mu,.bool fx,.s df,.s wg]))/\Bw W w'))
 (HB:Hid (∀W,Calls Tryz.prog fB #[.agg #[.s nm,.i kd,.i ls,.i ms,.l a ws.length cap,.s to,.i rl,.bool mu,.bool fx,.s df,.s wg]] W fun e w'=>e=.returned (.bool B)/\Bw W w'))
 (HS:Hid (∀W,Bw w W->Calls Tryz.prog fS #[.agg #[.s nm,.i kd,.i ls,.i ms,.l a ws.length cap,.s to,.i rl,.bool mu,.bool fx,.s df,.s wg],.l a0 ss.length cap0] W fun e w'=>e=.returned (.bool Sn)/\Bw W w'))
 (HF:Hid (df.toList.isEmpty=false->∀W,Bw w W->Calls Tryz.prog fF #[.agg #[.s nm,.i kd,.i ls,.i ms,.l a ws.length cap,.s to,.i rl,.bool mu,.bool fx,.s df,.s wg],.s df] W fun e w'=>e=.returned (.bool Ft)/\Bw W w')) :
 Calls Tryz.prog 234 #[.map (some r),.l a0 ss.length cap0,.agg #[.s nm,.i kd,.i ls,.i ms,.l a ws.length cap,.s to,.i rl,.bool mu,.bool fx,.s df,.s wg]] w
  fun e w'=>e=.returned (.bool (B&&Sn&&(df.toList.isEmpty||Ft)))/\Bw w w':=by
 go_in;go_wp2_with fail
 refine(HK.o _).mono ?_;rintro e w1⟨rfl,hb1⟩;have hX1:=za (zI w _ _) (by simp) hb1;have hz1:w.heap.size<w1.heap.size:=by have:=hb1.size;simp at this;omega
 have H1:=hid ((bAl _ _).trans (hb1.mono (by simp)));clear hb1 hlk;go_wp2_with fail
 refine(HB.o _).mono ?_;rintro e w2⟨rfl,hb2⟩;have hX2:=za hX1 hz1 hb2;have hz2:w.heap.size<w2.heap.size:=by have:=hb2.size;omega
 have H2:=hid (H1.o.trans (hb2.mono (by omega)));clear hb2 hX1 hz1 H1
 cases B with
 | false=>
  go_wp2
  go_ret;exact⟨rfl,H2.o⟩
 | true=>
  go_wp2_with fail
  refine(HS.o _ H2.o).mono ?_;rintro e w3⟨rfl,hb3⟩;have hX3:=za hX2 hz2 hb3;have H3:=hid (H2.o.trans (hb3.mono (by omega)));clear hb3 hX2 hz2 H2
  cases Sn with
  | false=>
   go_wp2
   go_ret;exact⟨rfl,H3.o⟩
  | true=>
   rcases hd:df.toList.isEmpty with _|_
   ·go_wp2_with fail
    refine(HF.o hd _ H3.o).mono ?_;rintro e w4⟨rfl,hb4⟩;have H4:=hid (H3.o.trans (hb4.mono H3.o.size));clear hb4;go_wp2
    go_ret;exact⟨ze (by simp[hd]),H4.o⟩
   ·go_wp2
    go_ret;exact⟨ze (by simp[hd]),H3.o⟩
theorem zlZ (r:Nat)(nm:BA)(kd ls ms:Int)(a:OA)(cap:Nat)(ws:List BA)(to:BA)(rl:Int)(mu fx:Bool)(df wg:BA)(a0:OA)(cap0:Nat)(ss:List Shp)(w:World)(hr:w.heap[r]?=some (.map jg 4))(h1:kd≠1)(h2:kd≠2)(h3:kd≠3)(h4:kd≠4) :
 Calls Tryz.prog 234 #[.map (some r),.l a0 ss.length cap0,.agg #[.s nm,.i kd,.i ls,.i ms,.l a ws.length cap,.s to,.i rl,.bool mu,.bool fx,.s df,.s wg]] w
  fun e w'=>e=.returned (.bool (zau ss ⟨nm,kd,ls,ms,ws,to,rl,mu,fx,df,wg⟩))/\Bw w w':=by
 have HO:Hid (zau ss ⟨nm,kd,ls,ms,ws,to,rl,mu,fx,df,wg⟩=false):=by simp[Hid,zau,bare,jq,h1,h2,h3,h4]
 have hlt:=(gES hr).1
 have hlk:∀o,(Instr.lookup 225 (.map (some r)) (.i kd) true).run Tryz.prog (w.alloc o)=.ok (.tuple #[.nilFunc,.bool false]) (w.alloc o):=
  fun o=>zcA Tryz.underlying225 Tryz.underlying3 (.i kd) _ rfl jg 4 (zng kd h1 h2 h3 h4) (w.alloc o) (zm6 _) r ((Below.heap_alloc w o r hlt).trans hr)
 clear hr h1 h2 h3 h4;go_in;go_wp2
 go_ret;exact⟨ze HO.o.symm,bAl _ _⟩
theorem zqh (r:Nat)(nm:BA)(kd ls ms:Int)(a:OA)(cap:Nat)(ws:List BA)(to:BA)(rl:Int)(mu fx:Bool)(df wg:BA)(a0:OA)(cap0:Nat)(ss:List Shp)(w:World)(hr:w.heap[r]?=some (.map jg 4))(hdf:df.size<=maxLen)(hwg:wg.size<=maxLen)(hws:zD w a ws)(hss:yU w a0 ss) :
 Calls Tryz.prog 234 #[.map (some r),.l a0 ss.length cap0,.agg #[.s nm,.i kd,.i ls,.i ms,.l a ws.length cap,.s to,.i rl,.bool mu,.bool fx,.s df,.s wg]] w
  fun e w'=>e=.returned (.bool (zau ss ⟨nm,kd,ls,ms,ws,to,rl,mu,fx,df,wg⟩))/\Bw w w':=by
 have hlt:=(gES hr).1
 by_cases h1:kd=1
 ·subst h1
  have h:=zdD r 209 263 271 273 272 (jq 1 ls ms ws.length to rl wg) (qE ss ⟨nm,1,ls,ms,ws,to,rl,mu,fx,df,wg⟩) (fits 1 ls ms ws df) nm 1 ls ms a cap ws to rl mu fx df wg a0 cap0 ss w
   (fun o=>qR Tryz.underlying225 Tryz.underlying3 (.i 1) _ rfl jg 4 0 rfl (w.alloc o) r ((Below.heap_alloc w o r hlt).trans hr)) zoq zlT zhl (by intros;go_simp) (by intros;go_simp) (by intros;go_simp) (by intros;go_simp)
   (fun W=>zmC _ _ _ _ _ _ _ _ _ _ _ _ _ _) (fun W=>zkN _ _ _ _ _ _ _ _ _ _ _ _ _ _) (fun W hb=>zjo _ _ _ _ _ _ _ _ _ _ _ _ _ _ _ _ hwg)
   (fun hd W hb=>by rw[zqL ls ms ws df (by intro h;rw[zu]at hd;simp[h]at hd)];exact zfQ _ _ _ _ _ _ _ _ _ _ _ _ _ hdf)
  exact h
 by_cases h2:kd=2
 ·subst h2
  have h:=zdD r 210 265 274 276 275 (jq 2 ls ms ws.length to rl wg) (qE ss ⟨nm,2,ls,ms,ws,to,rl,mu,fx,df,wg⟩) (fits 2 ls ms ws df) nm 2 ls ms a cap ws to rl mu fx df wg a0 cap0 ss w
   (fun o=>qR Tryz.underlying225 Tryz.underlying3 (.i 2) _ rfl jg 4 1 rfl (w.alloc o) r ((Below.heap_alloc w o r hlt).trans hr)) znC zl7 zhf (by intros;go_simp) (by intros;go_simp) (by intros;go_simp) (by intros;go_simp)
   (fun W=>zm4 _ _ _ _ _ _ _ _ _ _ _ _ _ _) (fun W=>zoi _ _ _ _ _ _ _ _ _ _ _ _ _ _) (fun W hb=>zlX _ _ _ _ _ _ _ _ _ _ _ _ _ _ _ _ (hws.mono hb))
   (fun hd W hb=>by rw[zqX ls ms ws df (by intro h;rw[zu]at hd;simp[h]at hd)];exact zhj _ _ _ _ _ _ _ _ _ _ _ _ _ _ _ (hws.mono hb))
  exact h
 by_cases h3:kd=3
 ·subst h3
  have h:=zdD r 211 266 279 281 280 (jq 3 ls ms ws.length to rl wg) (qE ss ⟨nm,3,ls,ms,ws,to,rl,mu,fx,df,wg⟩) (fits 3 ls ms ws df) nm 3 ls ms a cap ws to rl mu fx df wg a0 cap0 ss w
   (fun o=>qR Tryz.underlying225 Tryz.underlying3 (.i 3) _ rfl jg 4 2 rfl (w.alloc o) r ((Below.heap_alloc w o r hlt).trans hr)) zoj zl2 zhO (by intros;go_simp) (by intros;go_simp) (by intros;go_simp) (by intros;go_simp)
   (fun W=>znd _ _ _ _ _ _ _ _ _ _ _ _ _ _) (fun W=>znU _ _ _ _ _ _ _ _ _ _ _ _ _ _) (fun W hb=>zme _ _ _ _ _ _ _ _ _ _ _ _ _ _ _ _)
   (fun hd W hb=>by rw[zno ls ms ws df (by intro h;rw[zu]at hd;simp[h]at hd)];exact zg7 _ _ _ _ _ _ _ _ _ _ _ _ _ hdf)
  exact h
 by_cases h4:kd=4
 ·subst h4
  have h:=zdD r 212 267 282 284 283 (jq 4 ls ms ws.length to rl wg) (qE ss ⟨nm,4,ls,ms,ws,to,rl,mu,fx,df,wg⟩) (fits 4 ls ms ws df) nm 4 ls ms a cap ws to rl mu fx df wg a0 cap0 ss w
   (fun o=>qR Tryz.underlying225 Tryz.underlying3 (.i 4) _ rfl jg 4 3 rfl (w.alloc o) r ((Below.heap_alloc w o r hlt).trans hr)) znN zmd zg4 (by intros;go_simp) (by intros;go_simp) (by intros;go_simp) (by intros;go_simp)
   (fun W=>zmz _ _ _ _ _ _ _ _ _ _ _ _ _ _) (fun W=>zov _ _ _ _ _ _ _ _ _ _ _ _ _ _) (fun W hb=>zl9 _ _ _ _ _ _ _ _ _ _ _ _ _ _ _ _ (hss.mono hb))
   (fun hd W hb=>by rw[zro ls ms ws df (by intro h;rw[zu]at hd;simp[h]at hd)];exact zhp _ _ _ _ _ _ _ _ _ _ _ _ _ hdf)
  exact h
 exact zlZ r nm kd ls ms a cap ws to rl mu fx df wg a0 cap0 ss w hr h1 h2 h3 h4
theorem ztC (h:k<fs.length)(hh:hasName (fs.take k) fs[k].nm=true):(yh fs fs[k].nm != (k:Int))=true:=by
 obtain⟨j,hj,e⟩:=zl1 fs _ k h hh;rw[e,bne_iff_ne];omega
theorem ztI (h:k<fs.length)(hh:hasName (fs.take k) fs[k].nm=false):(yh fs fs[k].nm != (k:Int))=false:=by
 rw[zeO fs _ k h hh rfl];simp
theorem zcL (r:Nat)(a0:OA)(cap0:Nat)(ss:List Shp)(a:OA)(cap:Nat)(fs:List Fld)(w:World)(hr:w.heap[r]?=some (.map jg 4))(hss:yU w a0 ss)(hw:yw w a fs) :
 Calls Tryz.prog 208 #[.map (some r),.l a0 ss.length cap0,.l a fs.length cap] w fun e w'=>e=.returned (.bool (yS ss fs))/\Bw w w':=by
 have hl:=hw.len;unfold maxLen at hl;have hrlt:=(gES hr).1
 by_cases h6:fs.length<=6
 rotate_left
 ·have HF:Hid (yS ss fs=false):=by simp[Hid,yS,h6]
  clear hw hr hss;go_in
  go_wp2
  go_ret;exact⟨ze HF.o.symm,bRf _ _⟩
 have HG:Hid (yS ss fs=up (zfw ss fs) fs.length):=by simp[Hid,yS,h6]
 have h6I:(fs.length:Int)<=6:=by omega
 go_in
 go_wp2
 go_loopw [14] (fun i wr=>∃k:Nat,k<=fs.length/\i=.i k/\up (zfw ss fs) k=true/\Bw w wr) (fun i _=>fs.length-(intOf i).toNat)
 case atStart=>exact⟨0,Nat.zero_le _,rfl,rfl,bRf _ _⟩
 case round=>
  obtain⟨k,hk,rfl,hup,hB⟩:=hrel;have hsz:=hB.size
  by_cases hlt:k<fs.length
  ·obtain⟨b,off,rfl,hb,hrw⟩:=hw.rows (by rintro rfl;simp at hlt)
   obtain⟨wa,wcap,hf⟩:=hrw k hlt;obtain⟨c0,c1,c2,c3,c4,c5,c6,c7,c8,c9,c10⟩:=(hf.mono hb hB).load;have hsm:=hf.small;have hst:=hf.strs.mono hB;have hfa:=hw.mono hB;have hsa:=hss.mono hB;have hra:=(hB.block r hrlt).trans hr;have HO:=hid (zhn ss fs k hlt);have HS:Hid (zfw ss fs k=true->up (zfw ss fs) (k+1)=true):=fun h=>by rw[zab,hup,h];rfl
   have HN:Hid (zfw ss fs k=false->yS ss fs=false):=fun h=>by rw[HG.o];exact zbL hlt h
   clear hw hrw hf hup hss hr
   by_cases hn:zC fs[k].nm=true
   rotate_left
   ·have HNm:Hid (zC fs[k].nm=false):=by simpa[Hid] using hn
    clear hn;go_wp2_with fail
    refine(zw HNm.o (zZ _ _ hsm.nm)).mono ?_;rintro e w1⟨rfl,rfl⟩;go_wp2
    go_ret;exact⟨ze (HN.o (by rw[HO.o,HNm.o];rfl)).symm,hB.alloc hsz _⟩
   have HNm:=hid hn;clear hn
   by_cases hh:hasName (fs.take k) fs[k].nm=true
   ·have HH:=hid hh
    have hpl:=ztC hlt hh;clear hh;go_wp2_with fail
    refine(zw HNm.o (zZ _ _ hsm.nm)).mono ?_;rintro e w1⟨rfl,rfl⟩;go_wp2_with fail
    refine(jd _ _ _ _ _ (hfa.mono (bAl _ _))).mono ?_;rintro e w2⟨rfl,hb2⟩;have hB2:Bw w w2:=(hB.alloc hsz _).trans (hb2.mono (by simp;omega));clear hb2;go_wp2
    go_ret;exact⟨ze (HN.o (by rw[HO.o,HNm.o,HH.o];rfl)).symm,hB2⟩
   ·have HH:Hid (hasName (fs.take k) fs[k].nm=false):=by simpa[Hid] using hh
    have hpl:=ztI hlt HH.o;clear hh
    by_cases hok:zau ss fs[k]=true
    all_goals
     first
      | (have HK:Hid (zau ss fs[k]=true):=hok)
      | (have HK:Hid (zau ss fs[k]=false):=by simpa[Hid] using hok)
     clear hok;go_wp2_with fail
     refine(zw HNm.o (zZ _ _ hsm.nm)).mono ?_;rintro e w1⟨rfl,rfl⟩;go_wp2_with fail
     refine(jd _ _ _ _ _ (hfa.mono (bAl _ _))).mono ?_;rintro e w2⟨rfl,hb2⟩;have hX2:=za (zI wr _ _) (by simp) hb2;have hz2:wr.heap.size<w2.heap.size:=by have:=hb2.size;simp at this;omega
     have hbr2:Bw wr w2:=(bAl _ _).trans (hb2.mono (by simp));have hB2:=hB.trans (hbr2.mono hsz);have hra2:w2.heap[r]?=some (.map jg 4):=(hbr2.block r (by omega)).trans hra;clear hb2;go_wp2_with fail
     refine(zw HK.o (zqh _ _ _ _ _ _ _ _ _ _ _ _ _ _ _ _ _ _ hra2 hsm.df hsm.wg (hst.mono hbr2) (hsa.mono hbr2))).mono ?_;rintro e w3⟨rfl,hb3⟩;have hB3:Bw w w3:=hB2.trans (hb3.mono (by omega));clear hb3 hX2;go_wp2
    ·exact⟨⟨k+1,by omega,by go_num,HS.o (by rw[HO.o,HNm.o,HH.o,HK.o];rfl),hB3⟩,by simp[intOf];omega⟩
    ·go_ret
     exact⟨ze (HN.o (by rw[HO.o,HNm.o,HH.o,HK.o];rfl)).symm,hB3⟩
  ·have HF:Hid (yS ss fs=true):=by
    have e:k=fs.length:=by omega
    subst e;rw[HG.o];exact hup
   clear hup hw
   go_wp2
   go_ret;exact⟨ze HF.o.symm,hB⟩
def zo8 (a:OA)(ws:List BA):Prop:=(a=none/\ws=[]) \/ ∃b off,a=some (aD b off)
theorem zk.zuf {a:OA}{ws:List BA}(h:zk lo w a ws):zo8 a ws:=by
 rcases h with⟨h0,h1⟩|⟨g,C,h0,_⟩
 ·exact Or.inl ⟨h0,h1⟩
 ·exact Or.inr ⟨g,0,h0⟩
theorem zfg (cap:Nat)(w:World) :
 Calls Tryz.prog 146 #[.l none 0 cap] w fun e w'=>∃v,e=.returned v/\w'.ownsRow w.heap.size 9 1 v 0 []/\Bw w w':=by
 go_in;go_wp2
 go_ret;exact⟨_,rfl,World.ownsRow_nil _ _ _ _,bRf _ _⟩
theorem zgd (a:OA)(cap:Nat)(ws:List BA)(w:World)(hw:zD w a ws)(hA:zo8 a ws)(hl:ws.length<=1048576) :
 Calls Tryz.prog 146 #[.l a ws.length cap] w
  fun e w'=>∃v,e=.returned v/\w'.ownsRow w.heap.size 9 1 v ws.length (ws.map Value.string)/\Bw w w':=by
 rcases hA with⟨rfl,rfl⟩|⟨b,off,rfl⟩
 ·exact zfg cap w
 ·exact zgf b off cap ws w hw hl
theorem zkH (o:Ob)(va ha:OA)(cap cap':Nat)(w:World)(ho:qY w o va ha)(hA:zo8 va o.vs)(hA':zo8 ha o.hs)(hl:o.vs.length<=1048576)(hl':o.hs.length<=1048576) :
 Calls Tryz.prog 87 #[.agg (oC o va ha cap cap')] w
  fun e w'=>∃a dap a' dap' m,e=.returned (.agg (oC o a a' dap dap'))/\zk w.heap.size w' a o.vs/\(∀g,a=some g->g.block<m)/\w.heap.size<=m/\zk m w' a' o.hs/\Bw w w':=by
 go_in;go_wp2_with fail
 refine(zgd _ _ _ _ (ho.vals.mono (zo _ _ _)) hA hl).mono ?_;rintro e w1⟨v,rfl,hown1,hb1⟩;obtain⟨a,dap,rfl,ht1⟩:=zk.zbC hown1;have hk1:=(hb1.block w.heap.size (by simp;omega)).trans (zK _ _ _).1;have hr1:=(hb1.block (w.heap.size+1) (by simp)).trans (zK _ _ _).2;have HT:Hid (zk (w.heap.size+1+1) w1 a o.vs):=by unfold Hid;simpa using ht1
 have hz1:w.heap.size+1<w1.heap.size:=by have:=hb1.size;simp at this;omega
 have hB1:=(zo _ _ _).trans (hb1.mono (by simp;omega));have HK:=hid hk1;have HRR:=hid hr1;have hX1:∀j,w1.cell? (aD w.heap.size j)=(oC o va ha cap cap')[j]?:=fun j=>cell_of_block hk1
 have hF1:∀j,w1.frozen? (aD w.heap.size j)=false:=fun j=>zf hk1
 clear hb1 hown1 ht1 hk1 hr1;go_wp2_with fail
 have hB1':=hB1.setCell (p:=(aD w.heap.size 3)) (Nat.le_refl _) (.l a o.vs.length dap);refine(zgd _ _ _ _ (ho.holds.mono hB1') hA' hl').mono ?_;rintro e w2⟨v,rfl,hown2,hb2⟩;obtain⟨a',dap',rfl,ht2⟩:=zk.zbC hown2;have hk2:=(hb2.block w.heap.size (by simp[World.setCell];omega)).trans (zh HK.o _);have hr2:=(hb2.block (w.heap.size+1) (by simp[World.setCell];omega)).trans ((Below.heap_setCell _ _ _ _ (by simp)).trans HRR.o);have HT2:=hid ((HT.o.setCell _ (by simp;omega) _).mono hb2);have HU2:Hid (zk w1.heap.size w2 a' o.hs):=by unfold Hid;simpa[World.setCell] using ht2
 have HM:Hid (∀g,a=some g->g.block<w1.heap.size):=by
  intro g hg
  rcases HT.o with⟨h0,_⟩|⟨g',C,h0,_,hh,_⟩
  ·rw[h0]at hg;cases hg
  ·rw[h0]at hg;cases hg;exact(gES hh).1
 have hz2:w.heap.size+1<w2.heap.size:=by have:=hb2.size;simp[World.setCell]at this;omega
 have hB2:=hB1'.trans (hb2.mono hB1'.size);have hX2:∀j,w2.cell? (aD w.heap.size j)=(oC o a ha dap cap')[j]?:=fun j=>cell_of_block hk2
 have hF2:∀j,w2.frozen? (aD w.heap.size j)=false:=fun j=>zf hk2
 have hY2:∀j,w2.cell? (aD (w.heap.size+1) j)=oZ[j]?:=fun j=>cell_of_block hr2
 have hG2:∀j,w2.frozen? (aD (w.heap.size+1) j)=false:=fun j=>zf hr2
 have hzz:w.heap.size<=w1.heap.size:=by omega
 clear hb2 hown2 ht2 hX1 hF1 hB1 hB1' hk2 hr2;go_wp2
 refine bodyPost_ret (v:=(.agg (oC o a a' dap dap'))) (by simp[results,Tryz.results87,go_sem,hY2]) rfl ⟨a,dap,a',dap',w1.heap.size,rfl,((((((((HT2.o.setCell _ (by simp;omega) _).setCell _ (by simp) _).setCell _ (by simp) _).setCell _ (by simp) _).setCell _ (by simp) _).setCell _ (by simp) _).setCell _ (by simp) _).setCell _ (by simp) _).low (by omega),HM.o,hzz,((((((((HU2.o.setCell _ (by simp;omega) _).setCell _ (by simp;omega) _).setCell _ (by simp;omega) _).setCell _ (by simp;omega) _).setCell _ (by simp;omega) _).setCell _ (by simp;omega) _).setCell _ (by simp;omega) _).setCell _ (by simp;omega) _),((((((((hB2.setCell (Nat.le_refl _) _).setCell (by simp) _).setCell (by simp) _).setCell (by simp) _).setCell (by simp) _).setCell (by simp) _).setCell (by simp) _).setCell (by simp) _)⟩
structure Marked (lo hi:Nat)(w w':World):Prop where
 os:w'.os=w.os
 tape:w'.tape=w.tape
 output:w'.output=w.output
 size:w.heap.size<=w'.heap.size
 out:∀k,k<w.heap.size->(k<lo \/ hi<=k)->w'.heap[k]?=w.heap[k]?
 inn:∀(k:Nat) (C:AV) (t:TypeId),lo<=k->k<hi->w.heap[k]?=some (.cells C t)->∃C':AV,w'.heap[k]?=some (.cells C' t)/\C'.size=C.size/\∀(j:Nat) a n c,C'[j]?=some (Value.slice a n c)↔C[j]?=some (Value.slice a n c)
theorem Marked.refl (lo hi:Nat)(w:World):Marked lo hi w w:=⟨rfl,rfl,rfl,Nat.le_refl _,fun _ _ _=>rfl,fun _ C _ _ _ h=>⟨C,h,rfl,fun _ _ _ _=>Iff.rfl⟩⟩
theorem Marked.trans {a b c:World}(h:Marked lo hi a b)(k:Marked lo hi b c):Marked lo hi a c:=
 ⟨k.os.trans h.os,k.tape.trans h.tape,k.output.trans h.output,Nat.le_trans h.size k.size,
  fun i hi ho=>(k.out i (nLt hi h.size) ho).trans (h.out i hi ho),
  fun i C t h1 h2 hC=>by
   obtain⟨C1,hC1,hs1,hk1⟩:=h.inn i C t h1 h2 hC;obtain⟨C2,hC2,hs2,hk2⟩:=k.inn i C1 t h1 h2 hC1;exact⟨C2,hC2,hs2.trans hs1,fun j a n c=>(hk2 j a n c).trans (hk1 j a n c)⟩⟩
theorem Marked.of_below (h:Bw w w'):Marked lo hi w w':=
 ⟨h.os,h.tape,h.output,h.size,fun k hk _=>h.block k hk,fun k C _ _ _ hC=>⟨C,(h.block k (gES hC).1).trans hC,rfl,fun _ _ _ _=>Iff.rfl⟩⟩
theorem Marked.wide {lo' hi':Nat}(h:Marked lo hi w w')(h1:lo'<=lo)(h2:hi<=hi'):Marked lo' hi' w w':=
 ⟨h.os,h.tape,h.output,h.size,fun k hk ho=>h.out k hk (by omega),fun k C t g1 g2 hC=>by
  by_cases hin:lo<=k/\k<hi
  ·exact h.inn k C t hin.1 hin.2 hC
  ·exact⟨C,(h.out k (gES hC).1 (by omega)).trans hC,rfl,fun _ _ _ _=>Iff.rfl⟩⟩
theorem Marked.put {j:Nat}{w1:World}{C:AV}{t:TypeId}(h:Marked lo hi w w1)(hlo:lo<=b)(hhi:b<hi)(hC:w.heap[b]?=some (.cells C t))(hj:∀a n c,C[j]?≠some (Value.slice a n c))(v:Value)(hv:∀a n c,v≠Value.slice a n c):Marked lo hi w (w1.setCell (aD b j) v):=by
 refine⟨h.os,h.tape,h.output,by have:=h.size;simpa[World.setCell] using this,fun k hk ho=>?_,fun k C0 t0 g1 g2 hC0=>?_⟩
 ·rw[Below.heap_setCell _ _ _ _ (by show k≠b;omega)];exact h.out k hk ho
 ·obtain⟨C1,hC1,hs1,hk1⟩:=h.inn k C0 t0 g1 g2 hC0
  by_cases hkb:k=b
  ·subst hkb
   rw[hC]at hC0;simp only[Option.some.injEq,Obj.cells.injEq]at hC0;obtain⟨rfl,rfl,_⟩:=hC0;refine⟨C1.setIfInBounds j v,zh hC1 _,by simpa using hs1,fun i a n c=>?_⟩
   by_cases hij:j=i
   ·subst hij
    refine⟨fun h=>?_,fun h=>absurd h (hj a n c)⟩
    exfalso
    rw[Array.getElem?_setIfInBounds]at h;simp only[if_true]at h
    split at h
    ·exact hv a n c (Option.some.inj h)
    ·cases h
   ·rw[Array.getElem?_setIfInBounds_ne hij];exact hk1 i a n c
  ·exact⟨C1,(Below.heap_setCell _ _ _ _ (by show k≠b;exact hkb)).trans hC1,hs1,hk1⟩
theorem Marked.cell (h:Marked lo hi w w'){p:Addr}(hp:p.block<w.heap.size)(ho:p.block<lo \/ hi<=p.block):w'.cell? p=w.cell? p:=by
 unfold World.cell?;rw[h.out p.block hp ho]
theorem Marked.box {X:AV}(h:Marked lo hi w w')(hX:∀o,w.cell? (aD b o)=X[o]?)(hb:b<w.heap.size)(ho:b<lo \/ hi<=b):∀o,w'.cell? (aD b o)=X[o]?:=
 fun o=>(h.cell (p:=(aD b o)) hb ho).trans (hX o)
theorem Marked.below {B:Nat}(h:Marked lo hi w w')(h1:B<=lo)(h2:B<=w.heap.size):Below B w w':=
 ⟨h.os,h.tape,h.output,h.size,fun k hk=>h.out k (by omega) (Or.inl (by omega))⟩
def zc1 (n:Nat):BA:=⟨#[UInt8.ofNat (48+n)]⟩
def digits (n:Nat)(acc:BA):BA:=if n=0 then acc else digits (n / 10) (zc1 (n % 10)++acc)
termination_by n
decreasing_by omega
theorem zfF (acc:BA):digits 0 acc=acc:=by rw[digits];rfl
theorem zkm (h:0<n)(acc:BA):digits n acc=digits (n / 10) (zc1 (n % 10)++acc):=by
 conv=>lhs;rw[digits]
 rw[if_neg (by omega)]
def zaJ (k:Nat):BA:=⟨#[109]⟩++digits k ByteArray.empty
theorem zoF (n:Nat)(h:n<9000000000000000000):wrap64 ((n:Int) / 10)=((n / 10:Nat):Int):=by
 rw[zx _ ⟨by omega,by omega⟩];omega
theorem zrN (h:k<9000000000000000000):k<10 ^ 19:=Nat.lt_trans h (by decide)
theorem zqG (n:Nat)(hn:0<n)(h:n<9000000000000000000):(intOf (.i (wrap64 ((n:Int) / 10)))).toNat<(intOf (.i (n:Int))).toNat:=by
 rw[zoF n h]
 show(((n / 10:Nat):Int)).toNat<((n:Nat):Int).toNat
 rw[Int.toNat_natCast,Int.toNat_natCast];omega
theorem zr1 (n:Nat):((UInt8.ofNat (48+n % 10)).toNat:Int)=48+(n:Int) % 10:=by
 rw[UInt8.toNat_ofNat',Nat.mod_eq_of_lt (by omega)];omega
theorem zrq (w:World)(n:Nat):(convert 208 9 (.l (some (aD w.heap.size 0)) 1 1)).run Tryz.prog (w.alloc (.cells #[.int .u8 (48+(n:Int) % 10)] 5))=.ok (.s (zc1 (n % 10))) (w.alloc (.cells #[.int .u8 (48+(n:Int) % 10)] 5)):=by
 refine run_convert_bytes_back _ _ _ 5 (aD w.heap.size 0) 1 [UInt8.ofNat (48+n % 10)] Tryz.underlying208 Tryz.underlying5 Tryz.underlying9 (fun j hj=>?_);have e:j=0:=by simp at hj;omega
 subst e;rw[List.getElem_cons_zero,zr1];have e2:((aD w.heap.size 0):Addr).add 0=(aD w.heap.size 0):=rfl;rw[e2,World.cell?_alloc_at (hn:=rfl)]
 rfl
theorem zcJ (k:Nat)(w:World)(hk:0<k)(hk2:k<9000000000000000000) :
 Calls Tryz.prog 104 #[.i k] w fun e w'=>e=.returned (.s (zaJ k))/\Bw w w':=by
 have hk0:decide ((k:Int)<=0)=false:=by simp;omega
 go_in;go_wp2
 go_loopw [0,3] (fun kv ov wr=>∃(n:Nat) (acc:BA) (d:Nat),kv=.i n/\ov=.s acc/\n<=k/\n<10 ^ d/\acc.size+d<=19/\digits n acc=digits k ByteArray.empty/\Bw w wr) (fun kv _ _=>(intOf kv).toNat)
 case atStart=>exact⟨k,ByteArray.empty,19,rfl,rfl,Nat.le_refl _,zrN hk2,by simp,rfl,bRf _ _⟩
 case round=>
  obtain⟨n,acc,d,rfl,rfl,hnk,hnd,had,hdig,hB⟩:=hrel;have HF:Hid (n<=k/\n<10 ^ d/\acc.size+d<=19/\digits n acc=digits k ByteArray.empty/\Bw w wr):=⟨hnk,hnd,had,hdig,hB⟩
  have HK:Hid (k<9000000000000000000):=hk2;have hacc:acc.size<=19:=by omega
  clear hnk hnd had hdig hB hk2
  by_cases hn:0<n
  ·have hn0:decide ((n:Int) > 0)=true:=by simp;omega
   have hcv:=zrq wr n;have hds:(zc1 (n % 10)).size=1:=rfl;go_wp2
   go_roundw
   case rel=>
    obtain⟨hnk,hnd,had,hdig,hB⟩:=HF.o;have hk2:=HK.o;have hd0:d≠0:=by rintro rfl;simp at hnd;omega
    obtain⟨e,rfl⟩:∃e,d=e+1:=⟨d-1,by omega⟩
    exact⟨n / 10,zc1 (n % 10)++acc,e,by rw[zoF n (by omega)],rfl,by omega,by rw[Nat.pow_succ]at hnd;omega,by rw[ByteArray.size_append,hds];omega,by rw[<- zkm hn];exact hdig,hB.alloc hB.size _⟩
   case measure=>
    have hnk:=HF.o.1;have hk2:=HK.o;exact zqG n hn (by omega)
  ·have hn0:decide ((n:Int) > 0)=false:=by simp;omega
   go_wp2
   go_ret;have e0:n=0:=by omega
   obtain⟨_,_,_,hdig,hB⟩:=HF.o;subst e0;rw[zfF]at hdig;exact⟨by unfold zaJ;rw[<- hdig];rfl,hB⟩
theorem ze1 (g n cap:Nat)(C:AV)(k:Nat)(w:World)(hC:w.heap[g]?=some (.cells C 9))(hn:n<=C.size)(hns:∀i,i<n->∀a m c,C[i]?≠some (Value.slice a m c))(hk:0<k)(hkn:k+n<9000000000000000000) :
 Calls Tryz.prog 106 #[.l (some (aD g 0)) n cap,.i k] w fun e w'=>e=.returned (.i ((k+n:Nat):Int))/\Marked g (g+1) w w'/\∃C',w'.heap[g]?=some (.cells C' 9)/\C'.size=C.size/\∀i,i<n->C'[i]?=some (.s (zaJ (k+i))):=by
 have HS:=hid hns;have HC:=hid hC;have HN:=hid hn;have HKN:=hid hkn;clear hns hC hn hkn;go_in;go_wp2
 go_loopw [1,5] (fun kv iv wr=>∃i:Nat,i<=n/\kv=.i ((k+i:Nat):Int)/\iv=.i i/\Marked g (g+1) w wr/\∃C',wr.heap[g]?=some (.cells C' 9)/\C'.size=C.size/\∀j,j<i->C'[j]?=some (.s (zaJ (k+j)))) (fun _ iv _=>n-(intOf iv).toNat)
 case atStart=>exact⟨0,Nat.zero_le _,by simp,rfl,Marked.refl _ _ _,C,HC.o,rfl,fun j h=>absurd h (by omega)⟩
 case round=>
  obtain⟨i,hi,rfl,rfl,hM,C',hC',hs',hc'⟩:=hrel
  by_cases hlt:i<n
  ·have hkn:=HKN.o
   have hltI:(i:Int)<(n:Int):=by omega
   have HX:=j3 hM hC' hs' hc';have hglt:=(gES hC').1;clear hM hC' hs' hc' hkn;go_wp2_with fail
   rw[<- Int.natCast_add];refine(zcJ (k+i) _ (by omega) (by have:=HKN.o;omega)).mono ?_;rintro e w1⟨rfl,hb1⟩;have hC1:w1.heap[g]?=some (.cells C' 9):=(hb1.block g hglt).trans HX.o.2.1;have hi1:i<C'.size:=by have h1:=HX.o.2.2.1;have h2:=HN.o;omega
   have hcell:w1.cell? (aD g i)=some C'[i]:=by rw[cell_of_block hC1];exact Array.getElem?_eq_getElem hi1
   have hfz:w1.frozen? (aD g i)=false:=zf hC1;have HC1:=hid hC1;have HM1:=hid (HX.o.1.trans (Marked.of_below hb1));have HR:Hid (wrap64 ((k:Int)+i+1)=((k+(i+1):Nat):Int)):=by have:=HKN.o;rw[Hid,zx _ ⟨by omega,by omega⟩];omega
   clear hb1 hC1;go_wp2
   go_roundw
   case rel=>
    refine⟨i+1,by omega,?_,by rw[wrap_one (by have:=HKN.o;omega)],?_,C'.setIfInBounds i (.s (zaJ (k+i))),zh HC1.o _,by simp[HX.o.2.2.1],fun j hj=>?_⟩
    ·rw[HR.o]
    ·exact HM1.o.put (Nat.le_refl _) (Nat.lt_succ_self _) HC.o (HS.o i hlt) _ (fun _ _ _ h=>by cases h)
    ·by_cases e:j=i
     ·subst e;rw[Array.getElem?_setIfInBounds_self_of_lt hi1]
     ·rw[Array.getElem?_setIfInBounds_ne (fun h=>e h.symm)];exact HX.o.2.2.2 j (by omega)
   case measure=>
    have hkn:=HKN.o;exact yO hlt (by omega)
  ·have e:i=n:=by omega
   have HX:Hid (Marked g (g+1) w wr/\∃C',wr.heap[g]?=some (.cells C' 9)/\C'.size=C.size/\∀j,j<n->C'[j]?=some (.s (zaJ (k+j)))):=⟨hM,C',hC',hs',by rw[<- e];exact hc'⟩
   clear hM hC' hs' hc';subst e;go_wp2
   go_ret;exact⟨rfl,HX.o⟩
theorem zib (k:Int)(a:OA)(cap:Nat)(w:World) :
 Calls Tryz.prog 106 #[.l a 0 cap,.i k] w fun e w'=>e=.returned (.i k)/\w'=w:=by
 go_in;go_wp2
 go_loopw [1,5] (fun kv iv wr=>kv=.i k/\iv=.i 0/\wr=w) (fun _ _ _=>0)
 case atStart=>exact⟨rfl,rfl,rfl⟩
 case round=>
  obtain⟨rfl,rfl,rfl⟩:=hrel;go_wp2
  go_ret;exact⟨rfl,rfl⟩
def zaZ (C:AV)(j:Nat):Prop:=∀a n c,C[j]?≠some (Value.slice a n c)
structure jL (lo hi:Nat)(w:World)(b n:Nat):Prop where
 low:lo<=b
 high:b<hi
 rows:∃C,w.heap[b]?=some (.cells C 9)/\n<=C.size/\∀j,j<n->zaZ C j
structure jm (lo hi:Nat)(w:World)(bo:Nat)(fs:List Fld):Prop where
 low:lo<=bo
 high:bo<hi
 rows:∃C,w.heap[bo]?=some (.cells C 183)/\C.size=fs.length*11 /\
  ∀i (h:i<fs.length),∃bk cap,jL lo hi w bk fs[i].ws.length/\C[i*11+4]?=some (.l (some (aD bk 0)) fs[i].ws.length cap)/\∀j,j<11->j≠4->zaZ C (i*11+j)
structure jI (lo hi:Nat)(w:World)(bo:Nat)(ss:List Shp):Prop where
 low:lo<=bo
 high:bo<hi
 rows:∃C,w.heap[bo]?=some (.cells C 130)/\C.size=ss.length*2 /\
  ∀i (h:i<ss.length),∃bf cap,jm lo hi w bf ss[i].fs/\C[i*2+1]?=some (.l (some (aD bf 0)) ss[i].fs.length cap)/\zaZ C (i*2)
theorem jL.mono (h:jL lo hi w b n)(hM:Marked lo hi w w'):jL lo hi w' b n:=by
 obtain⟨C,hC,hs,hn⟩:=h.rows;obtain⟨C',hC',hs',hk⟩:=hM.inn b C _ h.low h.high hC;exact⟨h.low,h.high,C',hC',by omega,fun j hj a m c he=>hn j hj a m c ((hk j a m c).1 he)⟩
theorem jm.mono (h:jm lo hi w b fs)(hM:Marked lo hi w w'):jm lo hi w' b fs:=by
 obtain⟨C,hC,hs,hn⟩:=h.rows;obtain⟨C',hC',hs',hk⟩:=hM.inn b C _ h.low h.high hC;refine⟨h.low,h.high,C',hC',by omega,fun i hi=>?_⟩;obtain⟨bk,cap,h1,h2,h3⟩:=hn i hi;exact⟨bk,cap,h1.mono hM,(hk _ _ _ _).2 h2,fun j hj hj4 a m c he=>h3 j hj hj4 a m c ((hk _ a m c).1 he)⟩
theorem jI.mono (h:jI lo hi w b ss)(hM:Marked lo hi w w'):jI lo hi w' b ss:=by
 obtain⟨C,hC,hs,hn⟩:=h.rows;obtain⟨C',hC',hs',hk⟩:=hM.inn b C _ h.low h.high hC;refine⟨h.low,h.high,C',hC',by omega,fun i hi=>?_⟩;obtain⟨bk,cap,h1,h2,h3⟩:=hn i hi;exact⟨bk,cap,h1.mono hM,(hk _ _ _ _).2 h2,fun a m c he=>h3 a m c ((hk _ a m c).1 he)⟩
theorem zdf (ws:List BA)(j:Nat):zaZ (jS ws) j:=by
 intro a n c h;simp only[jS,List.getElem?_toArray,List.getElem?_map,Option.map_eq_some_iff]at h;obtain⟨_,_,h⟩:=h
 cases h
theorem qF.form (h:qF lo w bo fs fs.length):jm lo w.heap.size w bo fs:=by
 obtain⟨C,hC,hsz,hr⟩:=h.rows;refine⟨h.low,(gES hC).1,C,hC,hsz,fun i hi=>?_⟩;obtain⟨bk,h1,_,hk,hc⟩:=hr i hi hi;refine⟨bk,fs[i].ws.length,⟨h1,(gES hk).1,jS fs[i].ws,hk,by simp[jS],fun j _=>zdf _ _⟩,by rw[hc 4 (by omega)];rfl,fun j hj hj4 a n c he=>?_⟩;rw[hc j hj]at he
 rcases j with _|_|_|_|_|_|_|_|_|_|_|j <;> first|omega|(simp[Fld.cells]at he)
theorem jP.form (h:jP lo w bo ss ss.length):jI lo w.heap.size w bo ss:=by
 obtain⟨C,hC,hsz,hr⟩:=h.rows;refine⟨h.low,(gES hC).1,C,hC,hsz,fun i hi=>?_⟩;obtain⟨bf,h1,h2,hf,hk,hl⟩:=hr i hi hi;have hf':=hf.form;have hlow:lo<=bo:=h.low;refine⟨bf,ss[i].fs.length,⟨h1,hf'.high,?_⟩,hl,fun a n c he=>by rw[hk]at he;cases he⟩;obtain⟨C',hC',hs',hr'⟩:=hf'.rows;refine⟨C',hC',hs',fun j hj=>?_⟩;obtain⟨bk,cap,g1,g2,g3⟩:=hr' j hj;exact⟨bk,cap,⟨by have:=g1.low;omega,g1.high,g1.rows⟩,g2,g3⟩
theorem zP (k:Int)(w:World)(hk:0<k)(hk2:k<9000000000000000000) :
 Calls Tryz.prog 104 #[.i k] w fun e w'=>∃s,e=.returned (.s s)/\Bw w w':=by
 obtain⟨n,rfl⟩:∃n:Nat,k=n:=⟨k.toNat,by omega⟩
 exact(zcJ n w (by omega) (by omega)).mono fun e w' ⟨h1,h2⟩=>⟨_,h1,h2⟩
theorem zb7 (lo hi b n cap:Nat)(k:Int)(w:World)(h:jL lo hi w b n)(hn:n<=1048576)(hk:0<k)(hk2:k<8000000000000000000) :
 Calls Tryz.prog 106 #[.l (some (aD b 0)) n cap,.i k] w fun e w'=>∃k',e=.returned (.i k')/\k'=k+n/\Marked lo hi w w':=by
 obtain⟨m,rfl⟩:∃m:Nat,k=m:=⟨k.toNat,by omega⟩
 obtain⟨C,hC,hs,hns⟩:=h.rows;refine(ze1 b n cap C m w hC hs hns (by omega) (by omega)).mono fun e w' ⟨h1,h2,_⟩=>⟨_,h1,Int.natCast_add _ _,h2.wide h.low h.high⟩
theorem jm.ready (h:jm lo hi w bo fs)(hM:Marked lo hi w W)(i:Nat)(hi':i<fs.length) :
 (∀j,j<11->∃v,W.cell? (aD bo (i*11+j))=some v)/\(∀o,W.frozen? (aD bo o)=false):=by
 have h':=h.mono hM;obtain⟨C,hC,hs,hn⟩:=h'.rows;exact⟨fun j hj=>⟨C[i*11+j]'(by omega),by rw[cell_of_block hC];exact Array.getElem?_eq_getElem (by omega)⟩,fun o=>zf hC⟩
theorem jm.words (h:jm lo hi w bo fs)(i:Nat)(hi':i<fs.length) :
 ∃bk cap,jL lo hi w bk fs[i].ws.length/\∀W,Marked lo hi w W->W.cell? (aD bo (i*11+4))=some (.l (some (aD bk 0)) fs[i].ws.length cap):=by
 obtain⟨C,hC,hs,hn⟩:=h.rows;obtain⟨bk,cap,h1,h2,_⟩:=hn i hi';refine⟨bk,cap,h1,fun W hM=>?_⟩;obtain⟨C',hC',_,hk⟩:=hM.inn bo C _ h.low h.high hC;rw[cell_of_block hC'];exact(hk _ _ _ _).2 h2
theorem jm.put (h:jm lo hi w bo fs)(hM:Marked lo hi w W)(i j:Nat)(hi':i<fs.length)(hj:j<11)(hj4:j≠4)(v:Value)(hv:∀a n c,v≠Value.slice a n c):Marked lo hi w (W.setCell (aD bo (i*11+j)) v):=by
 obtain⟨C,hC,_,hn⟩:=h.rows;obtain⟨_,_,_,_,h3⟩:=hn i hi';exact hM.put h.low h.high hC (h3 j hj hj4) v hv
theorem zgK (lo hi bo cap:Nat)(fs:List Fld)(k:Int)(w:World)(h:jm lo hi w bo fs)(hl:fs.length<=1048576)(hls:∀i (h:i<fs.length),fs[i].ws.length<=1048576)(hk:0<k)(hk2:k<4000000000000000000) :
 Calls Tryz.prog 105 #[.l (some (aD bo 0)) fs.length cap,.i k] w fun e w'=>∃k',e=.returned (.i k')/\k<=k'/\k'<=k+fs.length*1048586/\Marked lo hi w w':=by
 have HF:=hid h;have HL:=yB hl hls;have HK:=yB hk hk2;clear h hl hls hk hk2;go_in;go_wp2
 go_loopw [1,5] (fun kv iv wr=>∃(i:Nat) (kk:Int),i<=fs.length/\kv=.i kk/\iv=.i i/\k<=kk/\kk<=k+i*1048586/\Marked lo hi w wr) (fun _ iv _=>fs.length-(intOf iv).toNat)
 case atStart=>exact⟨0,k,Nat.zero_le _,rfl,rfl,Int.le_refl _,by simp,Marked.refl _ _ _⟩
 case round=>
  obtain⟨i,kk,hile,rfl,rfl,h1,h2,hM⟩:=hrel
  by_cases hlt:i<fs.length
  ·have hltI:(i:Int)<(fs.length:Int):=by omega
   have HB:Hid (0<kk/\kk<7000000000000000000/\kk<=k+i*1048586/\k<=kk):=by have a:=HK.o;have b:=HL.o.1;exact⟨by omega,by omega,h2,h1⟩
   have HM:=hid hM;clear h1 h2 hM;obtain⟨bk,bcap,hT,hsl⟩:=HF.o.words i hlt;have HT:=yB hT hsl;clear hT hsl;go_wp2_with fail
   refine(zP _ _ HB.o.1 (by have:=HB.o;omega)).mono ?_;rintro e w1⟨s1,rfl,hb1⟩;have HM1:=hid (HM.o.trans (Marked.of_below hb1));clear hb1;have hsl:=HT.o.2 _ HM1.o;obtain⟨hex,hfz⟩:=HF.o.ready HM1.o i hlt;obtain⟨v0,hv0⟩:=hex 0 (by omega);obtain⟨v1,hv1⟩:=hex 1 (by omega);obtain⟨v2,hv2⟩:=hex 2 (by omega);obtain⟨v3,hv3⟩:=hex 3 (by omega);rw[Nat.add_zero]at hv0;have hwkk1:wrap64 (kk+1)=kk+1:=by have:=HB.o;exact zx _ ⟨by omega,by omega⟩
   have hwkk2:wrap64 (kk+1+1)=kk+1+1:=by have:=HB.o;exact zx _ ⟨by omega,by omega⟩
   have hwkk3:wrap64 (kk+1+1+1)=kk+1+1+1:=by have:=HB.o;exact zx _ ⟨by omega,by omega⟩
   have hwkk4:wrap64 (kk+1+1+1+1)=kk+1+1+1+1:=by have:=HB.o;exact zx _ ⟨by omega,by omega⟩
   clear hex;go_wp2_with fail
   have HMW:=HF.o.put (HF.o.put (HF.o.put (HF.o.put HM1.o i 0 hlt (by omega) (by omega) (.s s1) (fun _ _ _ h=>by cases h)) i 1 hlt (by omega) (by omega) (.i (kk+1)) (fun _ _ _ h=>by cases h)) i 2 hlt (by omega) (by omega) (.i (kk+1+1)) (fun _ _ _ h=>by cases h)) i 3 hlt (by omega) (by omega) (.i (kk+1+1+1)) (fun _ _ _ h=>by cases h);refine(zb7 lo hi bk _ bcap _ _ (HT.o.1.mono HMW) (HL.o.2 i hlt) (by have:=HB.o;omega) (by have:=HB.o;omega)).mono ?_;rintro e w2⟨k2,rfl,hk2,hM2⟩;have HM2:=hid (HMW.trans hM2);have HB2:Hid (kk<k2/\k2<=kk+4+1048576/\0<k2):=by have a:=HL.o.2 i hlt;have b:=HB.o;exact⟨by omega,by omega,by omega⟩
   clear HMW hM2 hk2 hv0 hv1 hv2 hv3 hfz hsl;go_wp2_with fail
   refine(zP _ _ HB2.o.2.2 (by have:=HB.o;have:=HB2.o;omega)).mono ?_;rintro e w3⟨s3,rfl,hb3⟩;have HM3:=hid (HM2.o.trans (Marked.of_below hb3));clear hb3;obtain⟨hex,hfz⟩:=HF.o.ready HM3.o i hlt;obtain⟨v5,hv5⟩:=hex 5 (by omega);obtain⟨v6,hv6⟩:=hex 6 (by omega);obtain⟨v7,hv7⟩:=hex 7 (by omega);obtain⟨v8,hv8⟩:=hex 8 (by omega);have hwk21:wrap64 (k2+1)=k2+1:=by have:=HB.o;have:=HB2.o;exact zx _ ⟨by omega,by omega⟩
   have hwk22:wrap64 (k2+1+1)=k2+1+1:=by have:=HB.o;have:=HB2.o;exact zx _ ⟨by omega,by omega⟩
   have hwk23:wrap64 (k2+1+1+1)=k2+1+1+1:=by have:=HB.o;have:=HB2.o;exact zx _ ⟨by omega,by omega⟩
   have hwk24:wrap64 (k2+1+1+1+1)=k2+1+1+1+1:=by have:=HB.o;have:=HB2.o;exact zx _ ⟨by omega,by omega⟩
   have hwk25:wrap64 (k2+1+1+1+1+1)=k2+1+1+1+1+1:=by have:=HB.o;have:=HB2.o;exact zx _ ⟨by omega,by omega⟩
   have hwk26:wrap64 (k2+1+1+1+1+1+1)=k2+1+1+1+1+1+1:=by have:=HB.o;have:=HB2.o;exact zx _ ⟨by omega,by omega⟩
   clear hex;go_wp2_with fail
   have HMW:=HF.o.put (HF.o.put (HF.o.put (HF.o.put HM3.o i 5 hlt (by omega) (by omega) (.s s3) (fun _ _ _ h=>by cases h)) i 6 hlt (by omega) (by omega) (.i (k2+1)) (fun _ _ _ h=>by cases h)) i 7 hlt (by omega) (by omega) (.bool ((k2+1+1).tmod 3 == 0)) (fun _ _ _ h=>by cases h)) i 8 hlt (by omega) (by omega) (.bool ((k2+1+1+1).tmod 3 == 0)) (fun _ _ _ h=>by cases h);refine(zP _ _ (by have:=HB2.o;omega) (by have:=HB.o;have:=HB2.o;omega)).mono ?_;rintro e w4⟨s4,rfl,hb4⟩;have HM4:=hid (HMW.trans (Marked.of_below hb4));clear HMW hb4 hv5 hv6 hv7 hv8 hfz;obtain⟨hex,hfz⟩:=HF.o.ready HM4.o i hlt;obtain⟨v9,hv9⟩:=hex 9 (by omega);clear hex;go_wp2_with fail
   have HMW:=HF.o.put HM4.o i 9 hlt (by omega) (by omega) (.s s4) (fun _ _ _ h=>by cases h);refine(zP _ _ (by have:=HB2.o;omega) (by have:=HB.o;have:=HB2.o;omega)).mono ?_;rintro e w5⟨s5,rfl,hb5⟩;have HM5:=hid (HMW.trans (Marked.of_below hb5));clear HMW hb5 hv9 hfz;obtain⟨hex,hfz⟩:=HF.o.ready HM5.o i hlt;obtain⟨v10,hv10⟩:=hex 10 (by omega);clear hex;go_wp2
   go_roundw
   case rel=>exact⟨i+1,k2+1+1+1+1+1+1,by omega,by rw[hwk26],by rw[wrap_one (by have:=HL.o.1;omega)],by have a:=HB.o;have b:=HB2.o;omega,by have a:=HB.o;have b:=HB2.o;omega,HF.o.put HM5.o i 10 hlt (by omega) (by omega) (.s s5) (fun _ _ _ h=>by cases h)⟩
   case measure=>exact yO hlt (by have:=HL.o.1;omega)
  ·have e:i=fs.length:=by omega
   subst e;go_wp2
   go_ret;exact⟨kk,rfl,h1,h2,hM⟩
theorem jI.ready (h:jI lo hi w bo ss)(hM:Marked lo hi w W)(i:Nat)(hi':i<ss.length) :
 (∀j,j<2->∃v,W.cell? (aD bo (i*2+j))=some v)/\(∀o,W.frozen? (aD bo o)=false):=by
 have h':=h.mono hM;obtain⟨C,hC,hs,hn⟩:=h'.rows;exact⟨fun j hj=>⟨C[i*2+j]'(by omega),by rw[cell_of_block hC];exact Array.getElem?_eq_getElem (by omega)⟩,fun o=>zf hC⟩
theorem jI.zdE (h:jI lo hi w bo ss)(i:Nat)(hi':i<ss.length) :
 ∃bf cap,jm lo hi w bf ss[i].fs/\∀W,Marked lo hi w W->W.cell? (aD bo (i*2+1))=some (.l (some (aD bf 0)) ss[i].fs.length cap):=by
 obtain⟨C,hC,hs,hn⟩:=h.rows;obtain⟨bk,cap,h1,h2,_⟩:=hn i hi';refine⟨bk,cap,h1,fun W hM=>?_⟩;obtain⟨C',hC',_,hk⟩:=hM.inn bo C _ h.low h.high hC;rw[cell_of_block hC'];exact(hk _ _ _ _).2 h2
theorem jI.put (h:jI lo hi w bo ss)(hM:Marked lo hi w W)(i:Nat)(hi':i<ss.length)(v:Value)(hv:∀a n c,v≠Value.slice a n c):Marked lo hi w (W.setCell (aD bo (i*2)) v):=by
 obtain⟨C,hC,_,hn⟩:=h.rows;obtain⟨_,_,_,_,h3⟩:=hn i hi';exact hM.put h.low h.high hC h3 v hv
theorem zgI (lo hi bo cap:Nat)(ss:List Shp)(k:Int)(w:World)(h:jI lo hi w bo ss)(hl:ss.length<=1048576)(hls:∀i (h:i<ss.length),ss[i].fs.length<=1048576/\∀j (h':j<ss[i].fs.length),ss[i].fs[j].ws.length<=1048576)(hk:0<k)(hk2:k<1000000000000000000) :
 Calls Tryz.prog 44 #[.l (some (aD bo 0)) ss.length cap,.i k] w fun e w'=>∃k',e=.returned (.i k')/\k<=k'/\k'<=k+ss.length*1099522113537/\Marked lo hi w w':=by
 have HF:=hid h;have HL:=yB hl hls;have HK:=yB hk hk2;clear h hl hls hk hk2;go_in;go_wp2
 go_loopw [1,5] (fun kv iv wr=>∃(i:Nat) (kk:Int),i<=ss.length/\kv=.i kk/\iv=.i i/\k<=kk/\kk<=k+i*1099522113537/\Marked lo hi w wr) (fun _ iv _=>ss.length-(intOf iv).toNat)
 case atStart=>exact⟨0,k,Nat.zero_le _,rfl,rfl,Int.le_refl _,by simp,Marked.refl _ _ _⟩
 case round=>
  obtain⟨i,kk,hile,rfl,rfl,h1,h2,hM⟩:=hrel
  by_cases hlt:i<ss.length
  ·have hltI:(i:Int)<(ss.length:Int):=by omega
   have HB:Hid (0<kk/\kk<3000000000000000000/\kk<=k+i*1099522113537/\k<=kk):=by have a:=HK.o;have b:=HL.o.1;exact⟨by omega,by omega,h2,h1⟩
   have HM:=hid hM;clear h1 h2 hM;obtain⟨bf,bcap,hT,hsl⟩:=HF.o.zdE i hlt;have HT:=yB hT hsl;clear hT hsl;go_wp2_with fail
   refine(zP _ _ HB.o.1 (by have:=HB.o;omega)).mono ?_;rintro e w1⟨s1,rfl,hb1⟩;have HM1:=hid (HM.o.trans (Marked.of_below hb1));clear hb1;have hsl:=HT.o.2 _ HM1.o;obtain⟨hex,hfz⟩:=HF.o.ready HM1.o i hlt;obtain⟨v0,hv0⟩:=hex 0 (by omega);rw[Nat.add_zero]at hv0;have hw1:wrap64 (kk+1)=kk+1:=by have:=HB.o;exact zx _ ⟨by omega,by omega⟩
   clear hex;go_wp2_with fail
   have HMW:=HF.o.put HM1.o i hlt (.s s1) (fun _ _ _ h=>by cases h);refine(zgK lo hi bf bcap _ _ _ (HT.o.1.mono HMW) (HL.o.2 i hlt).1 (HL.o.2 i hlt).2 (by have:=HB.o;omega) (by have:=HB.o;omega)).mono ?_;rintro e w2⟨k2,rfl,h3,h4,hM2⟩;have HM2:=hid (HMW.trans hM2);have HB2:Hid (kk<k2/\k2<=kk+1099522113537):=by have a:=(HL.o.2 i hlt).1;exact⟨by omega,by omega⟩
   clear HMW hM2 h3 h4 hv0 hfz hsl;go_wp2
   go_roundw
   case rel=>exact⟨i+1,k2,by omega,rfl,by rw[wrap_one (by have:=HL.o.1;omega)],by have a:=HB.o;have b:=HB2.o;omega,by have a:=HB.o;have b:=HB2.o;omega,HM2.o⟩
   case measure=>exact yO hlt (by have:=HL.o.1;omega)
  ·have e:i=ss.length:=by omega
   subst e;go_wp2
   go_ret;exact⟨kk,rfl,h1,h2,hM⟩
structure za4 (lo hi:Nat)(w:World)(b n:Nat):Prop where
 low:lo<=b
 high:b<hi
 rows:∃C,w.heap[b]?=some (.cells C 3)/\n<=C.size/\∀j,j<n->zaZ C j
theorem za4.mono (h:za4 lo hi w b n)(hM:Marked lo hi w w'):za4 lo hi w' b n:=by
 obtain⟨C,hC,hs,hn⟩:=h.rows;obtain⟨C',hC',hs',hk⟩:=hM.inn b C _ h.low h.high hC;exact⟨h.low,h.high,C',hC',by omega,fun j hj a m c he=>hn j hj a m c ((hk j a m c).1 he)⟩
theorem zhx (g n cap:Nat)(C:AV)(k:Nat)(w:World)(hC:w.heap[g]?=some (.cells C 3))(hn:n<=C.size)(hns:∀i,i<n->∀a m c,C[i]?≠some (Value.slice a m c))(hk:0<k)(hkn:k+n<9000000000000000000) :
 Calls Tryz.prog 107 #[.l (some (aD g 0)) n cap,.i k] w fun e w'=>e=.returned (.i ((k+n:Nat):Int))/\Marked g (g+1) w w'/\∃C',w'.heap[g]?=some (.cells C' 3)/\C'.size=C.size/\∀i,i<n->C'[i]?=some (.i ((k+i:Nat):Int)):=by
 have HS:=hid hns;have HC:=hid hC;have HN:=hid hn;have HKN:=hid hkn;clear hC hn hns hkn;go_in;go_wp2
 go_loopw [1,5] (fun kv iv wr=>∃i:Nat,i<=n/\kv=.i ((k+i:Nat):Int)/\iv=.i i/\Hid (Marked g (g+1) w wr/\∃C',wr.heap[g]?=some (.cells C' 3)/\C'.size=C.size/\∀j,j<i->C'[j]?=some (.i ((k+j:Nat):Int)))) (fun _ iv _=>n-(intOf iv).toNat)
 case atStart=>exact⟨0,Nat.zero_le _,rfl,rfl,Marked.refl _ _ _,C,HC.o,rfl,fun j h=>absurd h (Nat.not_lt_zero _)⟩
 case round=>
  obtain⟨i,hi,rfl,rfl,HQ⟩:=hrel;obtain⟨hM,C',hC',hs',hc'⟩:=HQ.o
  by_cases hlt:i<n
  ·have hltI:(i:Int)<(n:Int):=by omega
   have hgw:=(gES hC').1;obtain⟨cv,hce⟩:∃cv,wr.cell? (aD g i)=some cv:=⟨C'[i]'(by have:=HN.o;omega),by rw[cell_of_block hC'];exact Array.getElem?_eq_getElem (by have:=HN.o;omega)⟩
   have hfz:∀o,wr.frozen? (aD g o)=false:=fun o=>zf hC'
   have HE:Hid (Marked g (g+1) w (wr.setCell (aD g i) (.i ((k+i:Nat):Int)))/\∃C',(wr.setCell (aD g i) (.i ((k+i:Nat):Int))).heap[g]?=some (.cells C' 3)/\C'.size=C.size/\∀j,j<i+1->C'[j]?=some (.i ((k+j:Nat):Int))):=by
    refine⟨hM.put (Nat.le_refl _) (Nat.lt_succ_self _) HC.o (HS.o i hlt) _ (fun _ _ _ h=>by cases h),_,zh hC' _,by simpa using hs',fun j hj=>?_⟩
    by_cases e:j=i
    ·subst e;rw[Array.getElem?_setIfInBounds_self_of_lt (by have:=HN.o;omega)]
    ·rw[Array.getElem?_setIfInBounds_ne (by omega)];exact hc' j (by omega)
   have hw1:wrap64 ((k+i:Nat)+1:Int)=((k+(i+1):Nat):Int):=by rw[zx _ ⟨by omega,by have:=HKN.o;omega⟩];omega
   clear HQ hM hC' hs' hc';obtain⟨kk,hkk⟩:∃kk:Int,kk=((k+i:Nat):Int):=⟨_,rfl⟩
   rw[<- hkk]at HE hw1 ⊢;clear hkk;go_wp2
   go_roundw
   case rel=>exact⟨i+1,by omega,by rw[hw1],by rw[wrap_one (by have:=HKN.o;omega)],HE.o⟩
   case measure=>exact yO hlt (by have:=HKN.o;omega)
  ·have e:i=n:=by omega
   subst e;have HE:=hid HQ.o;clear HQ hM hC' hs' hc';go_wp2
   go_ret;exact⟨rfl,HE.o⟩
theorem zlO (lo hi b n cap:Nat)(k:Int)(w:World)(h:za4 lo hi w b n)(hn:n<=1048576)(hk:0<k)(hk2:k<8000000000000000000) :
 Calls Tryz.prog 107 #[.l (some (aD b 0)) n cap,.i k] w fun e w'=>∃k',e=.returned (.i k')/\k'=k+n/\Marked lo hi w w':=by
 obtain⟨m,rfl⟩:∃m:Nat,k=m:=⟨k.toNat,by omega⟩
 obtain⟨C,hC,hs,hns⟩:=h.rows;refine(zhx b n cap C m w hC hs hns (by omega) (by omega)).mono fun e w' ⟨h1,h2,_⟩=>⟨_,h1,Int.natCast_add _ _,h2.wide h.low h.high⟩
theorem zjx (a:OA)(cap:Nat)(ws:List BA)(k:Nat)(w:World)(hw:zD w a ws)(hk:0<k)(hkn:k+ws.length<9000000000000000000)(hws:∀i (h:i<ws.length),ws[i]=zaJ (k+i)) :
 Calls Tryz.prog 108 #[.l a ws.length cap,.i k] w fun e w'=>e=.returned (.i ((k+ws.length:Nat):Int))/\Bw w w':=by
 have HS:Hid (∀i (h:i<ws.length),ws[i]=zaJ (k+i)):=hws;have HKN:Hid (k+ws.length<9000000000000000000):=hkn;clear hws hkn;go_in;go_wp2
 go_loopw [1,5] (fun kv iv wr=>∃i:Nat,i<=ws.length/\kv=.i ((k+i:Nat):Int)/\iv=.i i/\Bw w wr) (fun _ iv _=>ws.length-(intOf iv).toNat)
 case atStart=>exact⟨0,Nat.zero_le _,by simp,rfl,bRf _ _⟩
 case round=>
  obtain⟨i,hi,rfl,rfl,hB⟩:=hrel
  by_cases hlt:i<ws.length
  ·obtain⟨b,off,rfl,hb,hc⟩:=hw.cells (by rintro rfl;simp at hlt)
   have hltI:(i:Int)<(ws.length:Int):=by omega
   have hckd:wr.drew.cell? (aD b (off+i))=some (.s (zaJ (k+i))):=by
    rw[<- HS.o i hlt];exact(hB.cell (p:=(aD b (off+i))) hb).trans (hc i hlt)
   have hBd:=hB.drew;have hbd:b<wr.drew.heap.size:=nLt hb hB.size;have HR:Hid (wrap64 ((k:Int)+i+1)=((k+(i+1):Nat):Int)):=by have:=HKN.o;rw[Hid,zx _ ⟨by omega,by omega⟩];omega
   clear hw hc;go_wp2_with fail
   go_region_held3 (fun w'=>w'.cell? (aD b (off+i))=some (.s (zaJ (k+i)))) (exact hckd) (first
    | (go_at_call 104;(try rw[<- Int.natCast_add]);refine(zcJ (k+i) _ (by omega) (by have:=HKN.o;omega)).mono ?_;rintro e w1⟨rfl,hb1⟩;have hckd:=(hb1.cell (p:=(aD b (off+i))) hbd).trans hckd;have hBd:=hBd.trans (hb1.mono hBd.size);clear hb1))
   go_wp2
   exact⟨⟨i+1,by omega,by rw[HR.o],by rw[wrap_one (by have:=HKN.o;omega)],hBd⟩,yO hlt (by have:=HKN.o;omega)⟩
  ·have e:i=ws.length:=by omega
   subst e;clear hw;go_wp2
   go_ret;exact⟨rfl,hB⟩
def zcu (k n:Nat):List BA:=(List.range n).map fun i=>zaJ (k+i)
theorem ze7 (k n:Nat):(zcu k n).length=n:=by simp[zcu]
theorem ziZ (k n i:Nat)(h:i<(zcu k n).length):(zcu k n)[i]=zaJ (k+i):=by simp[zcu]
theorem zk.form {g:Addr}{ws:List BA}(h:zk lo w (some g) ws):∃b C,g=(aD b 0)/\lo<=b/\w.heap[b]?=some (.cells C 9)/\ws.length<=C.size/\∀j,j<ws.length->zaZ C j:=by
 rcases h with⟨h0,_⟩|⟨b,C,h0,hg,hh,hc⟩
 ·cases h0
 ·cases h0
  refine⟨b,C,rfl,hg,hh,?_,fun j hj a n c he=>by rw[hc j hj]at he;cases he⟩
  rcases Nat.lt_or_ge C.size ws.length with hlt|hge
  ·have:=hc C.size hlt
   rw[Array.getElem?_eq_none (Nat.le_refl _)]at this;cases this
  ·exact hge
theorem zjs (lo cap:Nat)(a:OA)(vs:List BA)(k:Nat)(w:World)(h:zk lo w a vs)(hk:0<k)(hkn:k+vs.length<9000000000000000000) :
 Calls Tryz.prog 106 #[.l a vs.length cap,.i k] w fun e w'=>e=.returned (.i ((k+vs.length:Nat):Int))/\zk lo w' a (zcu k vs.length)/\Marked lo w.heap.size w w'/\(a=none->w'=w)/\∀g,a=some g->Marked g.block (g.block+1) w w':=by
 rcases a with _|g
 ·rcases h with⟨_,rfl⟩|⟨_,_,h0,_⟩
  ·exact(zib (k:Int) none cap w).mono fun e w' ⟨h1,h2⟩=>⟨by simpa using h1,by subst h2;exact Or.inl ⟨rfl,rfl⟩,by subst h2;exact Marked.refl _ _ _,fun _=>h2,fun g hg=>by cases hg⟩
  ·cases h0
 ·obtain⟨b,C,rfl,hlo,hC,hs,hns⟩:=h.form
  refine(ze1 b vs.length cap C k w hC hs hns hk hkn).mono fun e w' ⟨h1,h2,C',hC',hs',hc'⟩=>⟨h1,Or.inr ⟨b,C',rfl,hlo,hC',fun i hi=>?_⟩,h2.wide hlo (gES hC).1,fun h0=>(by cases h0),fun g hg=>by cases hg;exact h2⟩
  rw[ze7]at hi;rw[hc' i hi,ziZ]
end Go.Proofs.YtjnpjkigofldlaaGreat
