import Derived.Test.YtkficnallnpjnaaGreatM41
set_option maxHeartbeats 8000000
namespace Go.Proofs.YtkficnallnpjnaaGreat
open Go.RowKit
set_option maxRecDepth 20000 in
theorem zoB (b:Bk)(a0 a1 a2 a3:Option Addr)(c0 c1 c2 c3:Nat)(w:World)(hl:q8 w b a0 a1 a2 a3)(ho:zcj w a0 b.os)(hf:b.Few) :
 Calls Tryz.prog 23 #[.agg #[.int .i64 b.now,.int .i64 b.tick,.int .i64 b.given,.slice a0 b.os.length c0,.slice a1 b.gs.length c1,.slice a2 b.ls.length c2,.slice a3 b.ps.length c3]] w fun e w'=>∃own d0 d1 d2 d3 e0 e1 e2 e3,e=.returned (.agg #[.int .i64 b.now,.int .i64 b.tick,.int .i64 b.given,.slice d0 b.os.length e0,.slice d1 b.gs.length e1,.slice d2 b.ls.length e2,.slice d3 b.ps.length e3])/\BkL (w.heap.size+1+1+1) w'.heap.size w' own b d0 d1 d2 d3/\(zeJ (w.heap.size+1+1+1) w' own (.slice d2 b.ls.length e2) b.ls/\zbT (w.heap.size+1+1+1) w' own (.slice d3 b.ps.length e3) b.ps)/\Below w.heap.size w w':=by
 obtain⟨i0,hi0,hzi0,hsi0,hbi0⟩:=info_parts Tryz.zqn;obtain⟨i1,hi1,hzi1,hsi1,hbi1⟩:=info_parts Tryz.zqM;obtain⟨i2,hi2,hzi2,hsi2,hbi2⟩:=info_parts Tryz.zqL;obtain⟨i3,hi3,hzi3,hsi3,hbi3⟩:=info_parts Tryz.zjN;have HI0:=zbJ hi0 hzi0 hsi0 hbi0;have HI1:=zbJ hi1 hzi1 hsi1 hbi1;have HI2:=zbJ hi2 hzi2 hsi2 hbi2;have HI3:=zbJ hi3 hzi3 hsi3 hbi3;have HL:=hid hl;have HO:=hid ho;have HF:=hid hf;have hno:=hf.os.1;clear hl hf ho hi0 hzi0 hsi0 hbi0 hi1 hzi1 hsi1 hbi1 hi2 hzi2 hsi2 hbi2 hi3 hzi3 hsi3 hbi3;have k0:=znu w (.cells (bC b a0 a1 a2 a3 c0 c1 c2 c3) 40) (.cells bZ 40) (.cells #[.int .i64 b.now,.int .i64 b.tick,.int .i64 b.given,.slice none 0 0,.slice none 0 0,.slice none 0 0,.slice none 0 0] 40);have hB0:=below3' w (.cells (bC b a0 a1 a2 a3 c0 c1 c2 c3) 40) (.cells bZ 40) (.cells #[.int .i64 b.now,.int .i64 b.tick,.int .i64 b.given,.slice none 0 0,.slice none 0 0,.slice none 0 0,.slice none 0 0] 40);obtain⟨W0,hW0⟩:∃W0,W0=((w.alloc (.cells (bC b a0 a1 a2 a3 c0 c1 c2 c3) 40)).alloc (.cells bZ 40)).alloc (.cells #[.int .i64 b.now,.int .i64 b.tick,.int .i64 b.given,.slice none 0 0,.slice none 0 0,.slice none 0 0,.slice none 0 0] 40):=⟨_,rfl⟩
 have hz0:W0.heap.size=w.heap.size+1+1+1:=by rw[hW0];simp
 go_enter Tryz.func23,Tryz.ntmps23;go_wp2_with fail
 rw[<- hW0]at k0 hB0 ⊢;clear hW0;have HB0:=hid hB0;have HK0:=qE k0.1 k0.2.1;have HX0:=hid k0.2.2;clear hB0 k0
 go_loopw [4] (fun iv wr=>∃(k:Nat) (v:Value) (own:Nat->Lb),k<=b.os.length/\iv=.int .i64 k/\Hid (wr.heap[w.heap.size+1+1]?=some (.cells #[.int .i64 b.now,.int .i64 b.tick,.int .i64 b.given,v,.slice none 0 0,.slice none 0 0,.slice none 0 0] 40)/\zhu (w.heap.size+1+1+1) wr own v (b.os.take k)/\(∀q,q<(w.heap.size+1+1+1)->own q=(9,0,0))/\Below (w.heap.size+1+1) W0 wr)) (fun iv _=>b.os.length-(intOf iv).toNat)
 case atStart=>exact⟨0,_,fun _=>(9,0,0),Nat.zero_le _,rfl,HX0.out,⟨[],by simp,World.ownsRow_nil _ _ _ _,fun k hk=>by simp[Value.ownBlock]at hk,fun i hi=>absurd hi (by simp)⟩,fun _ _=>rfl,bRf _ _⟩
 case round=>
  obtain⟨k,v,own,hk,rfl,HQ⟩:=hrel;have hBr:Below w.heap.size w wr:=HB0.out.trans (HQ.out.2.2.2.mono (by omega));have hzr:w.heap.size+1+1<wr.heap.size:=(gES HQ.out.1).1;have kP:=(HQ.out.2.2.2.block w.heap.size (by omega)).trans HK0.out.1;have cP:=fun j=>cell_of_block (o:=j) kP
  by_cases hlt:k<b.os.length
  ·obtain⟨ob,off,g0,g1,vc0,vc1,rfl,hob,hsm,hi0,hi1,d0,d1,d2,d3,d4,d5,d6⟩:=HO.out.load hBr k hlt
   have hltI:(k:Int)<(b.os.length:Int):=by omega
   have cX:=fun j=>cell_of_block (o:=j) HQ.out.1
   have fX:=fun j=>zh (o:=j) HQ.out.1
   have hS0:(fun w':World=>(∀j,w'.cell? ⟨w.heap.size,j,none⟩=((bC b (some ⟨ob,off,none⟩) a1 a2 a3 c0 c1 c2 c3):Array Value)[j]?)/\w'.cell? ⟨ob,off+k*7,none⟩=some (.string b.os[k].kd)/\w'.cell? ⟨ob,off+k*7+1,none⟩=some (.string b.os[k].nm)/\w'.cell? ⟨ob,off+k*7+2,none⟩=some (.string b.os[k].tm)/\w'.cell? ⟨ob,off+k*7+3,none⟩=some (.slice (some ⟨g0,0,none⟩) b.os[k].vs.length vc0)/\w'.cell? ⟨ob,off+k*7+4,none⟩=some (.bool b.os[k].en)/\w'.cell? ⟨ob,off+k*7+5,none⟩=some (.slice (some ⟨g1,0,none⟩) b.os[k].hs.length vc1)/\w'.cell? ⟨ob,off+k*7+6,none⟩=some (.int .i64 b.os[k].vr)) wr.drew:=⟨cP,d0,d1,d2,d3,d4,d5,d6⟩
   have HSS:Hid (∀W,Below (w.heap.size+1) wr W->(fun w':World=>(∀j,w'.cell? ⟨w.heap.size,j,none⟩=((bC b (some ⟨ob,off,none⟩) a1 a2 a3 c0 c1 c2 c3):Array Value)[j]?)/\w'.cell? ⟨ob,off+k*7,none⟩=some (.string b.os[k].kd)/\w'.cell? ⟨ob,off+k*7+1,none⟩=some (.string b.os[k].nm)/\w'.cell? ⟨ob,off+k*7+2,none⟩=some (.string b.os[k].tm)/\w'.cell? ⟨ob,off+k*7+3,none⟩=some (.slice (some ⟨g0,0,none⟩) b.os[k].vs.length vc0)/\w'.cell? ⟨ob,off+k*7+4,none⟩=some (.bool b.os[k].en)/\w'.cell? ⟨ob,off+k*7+5,none⟩=some (.slice (some ⟨g1,0,none⟩) b.os[k].hs.length vc1)/\w'.cell? ⟨ob,off+k*7+6,none⟩=some (.int .i64 b.os[k].vr)) W):=fun W hW=>⟨fun j=>(hW.cell (p:=⟨w.heap.size,j,none⟩) (by show w.heap.size<_;omega)).trans (cP j),by
    have hob2:ob<w.heap.size+1:=by omega
    exact⟨(hW.cell (p:=⟨ob,_,none⟩) hob2).trans d0,(hW.cell (p:=⟨ob,_,none⟩) hob2).trans d1,(hW.cell (p:=⟨ob,_,none⟩) hob2).trans d2,(hW.cell (p:=⟨ob,_,none⟩) hob2).trans d3,(hW.cell (p:=⟨ob,_,none⟩) hob2).trans d4,(hW.cell (p:=⟨ob,_,none⟩) hob2).trans d5,(hW.cell (p:=⟨ob,_,none⟩) hob2).trans d6⟩⟩
   have HII:=zdp hsm hi0 hi1;have hob2:ob<wr.heap.size:=nLt hob hBr.size;clear hsm hi0 hi1;go_wp2_with fail
   clear cP d0 d1 d2 d3 d4 d5 d6;have cXd:wr.drew.cell? ⟨w.heap.size+1+1,3,none⟩=some v:=cX 3;have hBd:Below (w.heap.size+1+1) W0 wr.drew:=HQ.out.2.2.2.drew;have hBdd:Below wr.heap.size wr wr.drew:=(bRf _ _).drew;refine zbO (fun A A' w'=>∃u21 u22 u23 u24 u25 u26 u27 u28 u29 u30 u31 v' own',A'=(((((((((((A.put (some 21) u21).put (some 22) u22).put (some 23) u23).put (some 24) u24).put (some 25) u25).put (some 26) u26).put (some 27) u27).put (some 28) u28).put (some 29) u29).put (some 30) u30).put (some 31) u31)/\w'.heap[w.heap.size+1+1]?=some (.cells #[.int .i64 b.now,.int .i64 b.tick,.int .i64 b.given,v',.slice none 0 0,.slice none 0 0,.slice none 0 0] 40)/\zhu (w.heap.size+1+1+1) w' own' v' (b.os.take (k+1))/\(∀q,q<(w.heap.size+1+1+1)->own' q=(9,0,0))/\Below (w.heap.size+1+1) W0 w') ?_ ?_
   ·refine wp_region_held_drew (S:=fun w'=>(∀j,w'.cell? ⟨w.heap.size,j,none⟩=((bC b (some ⟨ob,off,none⟩) a1 a2 a3 c0 c1 c2 c3):Array Value)[j]?)/\w'.cell? ⟨ob,off+k*7,none⟩=some (.string b.os[k].kd)/\w'.cell? ⟨ob,off+k*7+1,none⟩=some (.string b.os[k].nm)/\w'.cell? ⟨ob,off+k*7+2,none⟩=some (.string b.os[k].tm)/\w'.cell? ⟨ob,off+k*7+3,none⟩=some (.slice (some ⟨g0,0,none⟩) b.os[k].vs.length vc0)/\w'.cell? ⟨ob,off+k*7+4,none⟩=some (.bool b.os[k].en)/\w'.cell? ⟨ob,off+k*7+5,none⟩=some (.slice (some ⟨g1,0,none⟩) b.os[k].hs.length vc1)/\w'.cell? ⟨ob,off+k*7+6,none⟩=some (.int .i64 b.os[k].vr)) (by kernel_rfl) hS0 (fun H_=>?_)
    refine tG 0 ?_ (hQ:=fun _ _ _ h=>by cases h.1);refine tG 2 ?_ (hQ:=fun _ _ _ h=>by cases h.1);refine tG 3 ?_ (hQ:=fun _ _ _ h=>by cases h.1);refine tG 4 ?_ (hQ:=fun _ _ _ h=>by cases h.1);refine tG 5 ?_ (hQ:=fun _ _ _ h=>by cases h.1);refine tG 6 ?_ (hQ:=fun _ _ _ h=>by cases h.1);refine zqT (i:=1) (j:=7) rfl rfl (fun K hK=>?_) (fun K hK=>?_)
    focus
     go_simp
     refine hK.out _ _ hS0 (fun H_=>?_);clear hK K
     (try simp only[Act.put,sA,s0,sS])
     refine cH 7 rfl fun K hK=>?_
     go_simp
     refine(zd2 b.os[k] g0 0 g1 0 vc0 vc1 wr.drew ⟨HII.out.1,HII.out.2.1.mono hBdd,HII.out.2.2.mono hBdd⟩ (HF.out.os.2 k hlt).1 (HF.out.os.2 k hlt).2).mono ?_;rintro e w1⟨f0,h0,f1,h1,m,rfl,ht0,hm,hsm1,ht1,hb1d⟩;have hb1:Below wr.heap.size wr w1:=hBdd.trans hb1d;have hS1:=HSS.out w1 (hb1.mono (by omega));have hS2:=HSS.out _ ((hb1.alloc hb1.size (.cells #[.string b.os[k].kd,.string b.os[k].nm,.string b.os[k].tm,.slice f0 b.os[k].vs.length h0,.bool b.os[k].en,.slice f1 b.os[k].hs.length h1,.int .i64 b.os[k].vr] 117)).mono (by omega));have cX1:w1.cell? ⟨w.heap.size+1+1,3,none⟩=some v:=(hb1.cell (p:=⟨w.heap.size+1+1,3,none⟩) hzr).trans cXd;have cX2:(w1.alloc (.cells #[.string b.os[k].kd,.string b.os[k].nm,.string b.os[k].tm,.slice f0 b.os[k].vs.length h0,.bool b.os[k].en,.slice f1 b.os[k].hs.length h1,.int .i64 b.os[k].vr] 117)).cell? ⟨w.heap.size+1+1,3,none⟩=some v:=((hb1.alloc hb1.size _).cell (p:=⟨w.heap.size+1+1,3,none⟩) hzr).trans cXd
     (try go_wp2_with fail)
     refine hK.out _ _ hS1 (fun H_=>?_);clear hK K
     (try simp only[Act.put,sA,s0,sS])
     refine cH 8 rfl fun K hK=>?_
     go_simp
     refine hK.out _ _ hS2 (fun H_=>?_);clear hK K
     (try simp only[Act.put,sA,s0,sS])
    rotate_left
    focus
     go_simp
     refine(zd2 b.os[k] g0 0 g1 0 vc0 vc1 wr.drew ⟨HII.out.1,HII.out.2.1.mono hBdd,HII.out.2.2.mono hBdd⟩ (HF.out.os.2 k hlt).1 (HF.out.os.2 k hlt).2).mono ?_;rintro e w1⟨f0,h0,f1,h1,m,rfl,ht0,hm,hsm1,ht1,hb1d⟩;have hb1:Below wr.heap.size wr w1:=hBdd.trans hb1d;have hS1:=HSS.out w1 (hb1.mono (by omega));have hS2:=HSS.out _ ((hb1.alloc hb1.size (.cells #[.string b.os[k].kd,.string b.os[k].nm,.string b.os[k].tm,.slice f0 b.os[k].vs.length h0,.bool b.os[k].en,.slice f1 b.os[k].hs.length h1,.int .i64 b.os[k].vr] 117)).mono (by omega));have cX1:w1.cell? ⟨w.heap.size+1+1,3,none⟩=some v:=(hb1.cell (p:=⟨w.heap.size+1+1,3,none⟩) hzr).trans cXd;have cX2:(w1.alloc (.cells #[.string b.os[k].kd,.string b.os[k].nm,.string b.os[k].tm,.slice f0 b.os[k].vs.length h0,.bool b.os[k].en,.slice f1 b.os[k].hs.length h1,.int .i64 b.os[k].vr] 117)).cell? ⟨w.heap.size+1+1,3,none⟩=some v:=((hb1.alloc hb1.size _).cell (p:=⟨w.heap.size+1+1,3,none⟩) hzr).trans cXd
     (try go_wp2_with fail)
     refine hK.out _ _ hS1 (fun H_=>?_);clear hK K
     (try simp only[Act.put,sA,s0,sS])
     refine zqT (i:=1) (j:=8) rfl rfl (fun K hK=>?_) (fun K hK=>?_)
     focus
      go_simp
      refine hK.out _ _ hS1 (fun H_=>?_);clear hK K
      (try simp only[Act.put,sA,s0,sS])
      refine cH 8 rfl fun K hK=>?_
      go_simp
      refine hK.out _ _ hS2 (fun H_=>?_);clear hK K
      (try simp only[Act.put,sA,s0,sS])
     rotate_left
     focus
      go_simp
      refine hK.out _ _ hS2 (fun H_=>?_);clear hK K
      (try simp only[Act.put,sA,s0,sS])
      refine cH 1 rfl fun K hK=>?_
      go_simp
      refine hK.out _ _ hS2 (fun H_=>?_);clear hK K
      (try simp only[Act.put,sA,s0,sS])
    all_goals
     refine cH 9 rfl fun K hK=>?_
     obtain⟨ps,hps,hown,hlab,hent⟩:=HQ.out.2.1;have hown1:w1.ownsRow (w.heap.size+1+1+1) 117 7 v ps.length (ps.flatMap ObP.row):=yS hown hb1;have hpl:ps.length=(b.os.take k).length:=by rw[<- hps,List.length_map]
     rw[List.length_take]at hpl;have HPL:Hid (ps.length<=1048576):=by show _<=_;omega
     clear hpl;have hz1:=hb1.size;refine zho _ (.tmp 22) (.tmp 29) 35 rfl (w.heap.size+1+1+1) 117 i0 (.agg #[.string ByteArray.empty,.string ByteArray.empty,.string ByteArray.empty,.slice none 0 0,.bool false,.slice none 0 0,.int .i64 0]) 7 112 Tryz.underlying35 HI0.out.1 HI0.out.2.1 HI0.out.2.2.1 HI0.out.2.2.2 rfl (by decide) _ _ _ rfl (hown1.alloc _) ⟨w1.heap.size,0,none⟩ 1 1 [.string b.os[k].kd,.string b.os[k].nm,.string b.os[k].tm,.slice f0 b.os[k].vs.length h0,.bool b.os[k].en,.slice f1 b.os[k].hs.length h1,.int .i64 b.os[k].vr] rfl rfl (zeW _ _ _) (by intro u hu;simp at hu;rcases hu with rfl|rfl|rfl|rfl|rfl|rfl|rfl <;> rfl) (by have:=HPL.out;unfold maxLen;omega) (by have:=HPL.out;omega) (by simp;omega) ?_;intro v' w4 hown' hgr hat;obtain⟨va,vc,rfl⟩:=q9 hown';obtain⟨own',ho1,ho2⟩:=zhu.snoc hps hown hlab hent (by omega) hb1 ht0 hm hsm1 ht1 hgr hown' hat;have hvb:∀z,v.ownBlock=some z->(w.heap.size+1+1+1)<=z:=fun z hz=>(hown.lt z hz).1
     have kX4:w4.heap[w.heap.size+1+1]?=some (.cells #[.int .i64 b.now,.int .i64 b.tick,.int .i64 b.given,v,.slice none 0 0,.slice none 0 0,.slice none 0 0] 40):=(hgr.block _ (by simp;omega) (fun e=>by have h9:=hlab _ e.symm;rw[HQ.out.2.2.1 _ (by omega)]at h9;simp at h9)).trans (((hb1.alloc hb1.size _).block _ hzr).trans HQ.out.1);have hB4:Below (w.heap.size+1+1) wr w4:=(((hb1.alloc hb1.size _).mono (by omega))).grown hgr (by simp;omega) (fun z hz=>by have:=hvb z hz;omega);have hS4:=HSS.out w4 (hB4.mono (by omega));have cX4:=fun j=>cell_of_block (o:=j) kX4
     have fX4:=fun j=>zh (o:=j) kX4
     have hz4:w.heap.size+1+1<w4.heap.size:=(gES kX4).1;have hS5:=HSS.out (w4.setCell ⟨w.heap.size+1+1,3,none⟩ (.slice va (ps.length+1) vc)) ((hB4.setCell (Nat.le_refl _) (.slice va (ps.length+1) vc)).mono (by omega));refine hK.out _ _ hS4 (fun H_=>?_);clear hK K
     (try simp only[Act.put,sA,s0,sS])
     refine tG 10 ?_ (hQ:=fun _ _ _ h=>by cases h.1);refine cH 11 rfl fun K hK=>?_
     go_simp
     refine hK.out _ _ hS5 (fun H_=>?_);clear hK K
     (try simp only[Act.put,sA,s0,sS])
     refine wpAnyH_done (by kernel_rfl) ?_ _;refine⟨rfl,_,_,_,_,_,_,_,_,_,_,_,_,own',rfl,zi kX4 _,?_,fun z hz=>(ho1 z (by omega)).trans (HQ.out.2.2.1 z hz),HQ.out.2.2.2.trans (hB4.setCell (Nat.le_refl _) (.slice va (ps.length+1) vc))⟩;rw[tSe hlt];exact ho2.left ((Left.refl (fun z=>z=w.heap.size+1+1) w4).set rfl 3 (.slice va (ps.length+1) vc)) (fun z h1 h2=>by subst h2;rw[ho1 _ (by omega),HQ.out.2.2.1 _ (by omega)]at h1;simp at h1)
   ·rintro A' w'⟨u21,u22,u23,u24,u25,u26,u27,u28,u29,u30,u31,v',own',rfl,hx',hr',hw',hB'⟩
    have HQ':=zbJ hx' hr' hw' hB';clear hx' hr' hw' hB' HQ HSS HII hS0 cX fX cXd hBd hBdd
    (try simp only[Act.put,sA,s0,sS])
    go_wp2_with fail
    exact⟨⟨k+1,v',own',by omega,by go_num,HQ'.out⟩,zq hlt⟩
  ·have e:k=b.os.length:=by omega
   subst e;obtain⟨hx,hr,hw,hB⟩:=HQ.out;rw[tOl (Nat.le_refl _)]at hr;obtain⟨d0,e0,rfl,hn⟩:=hr.lie;have HE:=zbJ hx hn hw hB;clear HQ hx hr hn hw hB hlt hk;go_wp2_with fail
   go_loopw [5] (fun iv wr=>∃(k:Nat) (v:Value) (own:Nat->Lb),k<=b.gs.length/\iv=.int .i64 k/\Hid (wr.heap[w.heap.size+1+1]?=some (.cells #[.int .i64 b.now,.int .i64 b.tick,.int .i64 b.given,.slice d0 b.os.length e0,v,.slice none 0 0,.slice none 0 0] 40)/\zat (w.heap.size+1+1+1) wr own d0 b.os.length (zac b.os)/\zg2 (w.heap.size+1+1+1) wr own v (b.gs.take k)/\(∀q,q<(w.heap.size+1+1+1)->own q=(9,0,0))/\Below (w.heap.size+1+1) W0 wr)) (fun iv _=>b.gs.length-(intOf iv).toNat)
   case atStart=>exact⟨0,_,own,Nat.zero_le _,rfl,HE.out.1,HE.out.2.1,⟨[],by simp,World.ownsRow_nil _ _ _ _,fun k hk=>by simp[Value.ownBlock]at hk,fun i hi=>absurd hi (by simp)⟩,HE.out.2.2.1,HE.out.2.2.2⟩
   case round=>
    clear HE;obtain⟨k,v,own,hk,rfl,HQ⟩:=hrel;have hBr:Below w.heap.size w wr:=HB0.out.trans (HQ.out.2.2.2.2.mono (by omega));have hzr:w.heap.size+1+1<wr.heap.size:=(gES HQ.out.1).1;have kP:=(HQ.out.2.2.2.2.block w.heap.size (by omega)).trans HK0.out.1;have cP:=fun j=>cell_of_block (o:=j) kP
    have hng:=HF.out.gs.1
    by_cases hlt:k<b.gs.length
    ·obtain⟨ob,off,va,vc,rfl,hob,hsm,hi0,d0',d1,d2,d3,d4,d5,d6⟩:=HL.out.gs.load hBr k hlt
     have hltI:(k:Int)<(b.gs.length:Int):=by omega
     have hob2:ob<wr.heap.size:=nLt hob hBr.size;have HI:=hid hi0;have HBa:=hid ((bRf wr.heap.size wr).alloc (Nat.le_refl _) (.cells #[.int .i64 b.gs[k].no,.string b.gs[k].to,.string b.gs[k].gb,.slice va b.gs[k].r.vs.length vc,.string b.gs[k].r.kd,.string b.gs[k].r.tm,.string b.gs[k].r.px] 121));clear hi0 hsm;go_wp2_with fail
     clear d0' d1 d2 d3 d4 d5 d6 cP;refine(znN b.gs[k].r va vc _ (HI.out.mono HBa.out) (HF.out.gs.2 k hlt)).mono ?_;rintro e w1⟨f0,h0,rfl,ht0,hb1⟩;have kG:=(hb1.block wr.heap.size (by simp)).trans (alloc_at wr (.cells #[.int .i64 b.gs[k].no,.string b.gs[k].to,.string b.gs[k].gb,.slice va b.gs[k].r.vs.length vc,.string b.gs[k].r.kd,.string b.gs[k].r.tm,.string b.gs[k].r.px] 121));have hz1:wr.heap.size<w1.heap.size:=(gES kG).1;have hB1:Below wr.heap.size wr w1:=HBa.out.trans (hb1.mono (by simp));have hBW:Below wr.heap.size wr ((((w1.setCell ⟨wr.heap.size,3,none⟩ (.slice f0 b.gs[k].r.vs.length h0)).setCell ⟨wr.heap.size,4,none⟩ (.string b.gs[k].r.kd)).setCell ⟨wr.heap.size,5,none⟩ (.string b.gs[k].r.tm)).setCell ⟨wr.heap.size,6,none⟩ (.string b.gs[k].r.px)):=(((hB1.setCell (Nat.le_refl _) _).setCell (Nat.le_refl _) _).setCell (Nat.le_refl _) _).setCell (Nat.le_refl _) _
     have htW:yt (wr.heap.size+1) ((((w1.setCell ⟨wr.heap.size,3,none⟩ (.slice f0 b.gs[k].r.vs.length h0)).setCell ⟨wr.heap.size,4,none⟩ (.string b.gs[k].r.kd)).setCell ⟨wr.heap.size,5,none⟩ (.string b.gs[k].r.tm)).setCell ⟨wr.heap.size,6,none⟩ (.string b.gs[k].r.px)) f0 b.gs[k].r.vs:=by
      have ht1:yt (wr.heap.size+1) w1 f0 b.gs[k].r.vs:=by simpa using ht0
      exact(((ht1.setCell _ (Nat.lt_succ_self _) _).setCell _ (Nat.lt_succ_self _) _).setCell _ (Nat.lt_succ_self _) _).setCell _ (Nat.lt_succ_self _) _
     have kGW:=zi (o:=6) (zi (o:=5) (zi (o:=4) (zi (o:=3) kG (.slice f0 b.gs[k].r.vs.length h0)) (.string b.gs[k].r.kd)) (.string b.gs[k].r.tm)) (.string b.gs[k].r.px);have cG:=fun j=>cell_of_block (o:=j) kG
     have fG:=fun j=>zh (o:=j) kG
     have cX1:∀j,w1.cell? ⟨w.heap.size+1+1,j,none⟩=(#[.int .i64 b.now,.int .i64 b.tick,.int .i64 b.given,.slice d0 b.os.length e0,v,.slice none 0 0,.slice none 0 0]:Array Value)[j]?:=fun j=>(hB1.cell (p:=⟨w.heap.size+1+1,j,none⟩) hzr).trans (cell_of_block HQ.out.1)
     have hxg:wr.heap.size≠w.heap.size+1+1:=by omega
     have HBW:=zdp hBW htW kGW;have hzw:((((w1.setCell ⟨wr.heap.size,3,none⟩ (.slice f0 b.gs[k].r.vs.length h0)).setCell ⟨wr.heap.size,4,none⟩ (.string b.gs[k].r.kd)).setCell ⟨wr.heap.size,5,none⟩ (.string b.gs[k].r.tm)).setCell ⟨wr.heap.size,6,none⟩ (.string b.gs[k].r.px)).heap.size=w1.heap.size:=by simp[World.setCell]
     have kXW:((((w1.setCell ⟨wr.heap.size,3,none⟩ (.slice f0 b.gs[k].r.vs.length h0)).setCell ⟨wr.heap.size,4,none⟩ (.string b.gs[k].r.kd)).setCell ⟨wr.heap.size,5,none⟩ (.string b.gs[k].r.tm)).setCell ⟨wr.heap.size,6,none⟩ (.string b.gs[k].r.px)).heap[w.heap.size+1+1]?=some (.cells #[.int .i64 b.now,.int .i64 b.tick,.int .i64 b.given,.slice d0 b.os.length e0,v,.slice none 0 0,.slice none 0 0] 40):=(hBW.block _ hzr).trans HQ.out.1;have HXW:=hid kXW;clear ht0 hb1 hB1 hBW htW kG kGW kXW HBa HI;obtain⟨W1,hW1⟩:∃W1,W1=(((w1.setCell ⟨wr.heap.size,3,none⟩ (.slice f0 b.gs[k].r.vs.length h0)).setCell ⟨wr.heap.size,4,none⟩ (.string b.gs[k].r.kd)).setCell ⟨wr.heap.size,5,none⟩ (.string b.gs[k].r.tm)).setCell ⟨wr.heap.size,6,none⟩ (.string b.gs[k].r.px):=⟨_,rfl⟩
     rw[<- hW1]at HBW hzw HXW
     go_wp2_with (at_builtin;refine zce ?_)
     rw[<- hW1];clear hW1 cG fG cX1
     show wpList _ _ _ _ _ _
     obtain⟨ps,hps,hown,hlab,hent⟩:=HQ.out.2.2.1;have HPS:=zbJ hps hown hlab hent;have hpl:ps.length=(b.gs.take k).length:=by rw[<- hps,List.length_map]
     rw[List.length_take]at hpl;have HPL:Hid (ps.length<=1048576):=by show _<=_;omega
     have hownW:=yS hown HBW.out.1;clear hpl hps hown hlab hent;refine wpList_append_own_at _ rfl (.tmp 49) (.tmp 51) 36 rfl (w.heap.size+1+1+1) 121 i1 (.agg #[.int .i64 0,.string ByteArray.empty,.string ByteArray.empty,.slice none 0 0,.string ByteArray.empty,.string ByteArray.empty,.string ByteArray.empty]) 7 112 Tryz.underlying36 HI1.out.1 HI1.out.2.1 HI1.out.2.2.1 HI1.out.2.2.2 rfl (by decide) _ _ _ rfl (hownW.alloc _) ⟨w1.heap.size,0,none⟩ 1 1 [.int .i64 b.gs[k].no,.string b.gs[k].to,.string b.gs[k].gb,.slice f0 b.gs[k].r.vs.length h0,.string b.gs[k].r.kd,.string b.gs[k].r.tm,.string b.gs[k].r.px] rfl rfl (by rw[<- hzw];exact zeW _ _ _) (by intro u hu;simp at hu;rcases hu with rfl|rfl|rfl|rfl|rfl|rfl|rfl <;> rfl) (by have:=HPL.out;unfold maxLen;omega) (by have:=HPL.out;omega) (by simp;omega) ?_;intro v' w4 hown' hgr _ hat;obtain⟨va',vc',rfl⟩:=q9 hown';obtain⟨own',ho1,ho2⟩:=zg2.snoc HPS.out.1 HPS.out.2.1 HPS.out.2.2.1 HPS.out.2.2.2 (by omega) HBW.out.1 (HBW.out.2.1.low (by omega)) hgr hown' hat;have hvb:∀z,v.ownBlock=some z->(w.heap.size+1+1+1)<=z/\z<wr.heap.size:=fun z hz=>HPS.out.2.1.lt z hz
     have hL4:Left (fun z=>v.ownBlock=some z) wr w4:=(Left.of_below _ (HBW.out.1.alloc HBW.out.1.size _)).grown hgr (fun _ h=>h);have hwo:∀z,z<(w.heap.size+1+1+1)->own' z=(9,0,0):=fun z hz=>(ho1 z (by omega)).trans (HQ.out.2.2.2.1 z hz)
     have hob4:zat (w.heap.size+1+1+1) w4 own' d0 b.os.length (zac b.os):=(HQ.out.2.1.own (fun z hz _=>ho1 z hz)).left hL4 (fun z h1 h2=>by rw[ho1 z (hvb z h2).2,HPS.out.2.2.1 z h2]at h1;simp at h1);have kX4:w4.heap[w.heap.size+1+1]?=some (.cells #[.int .i64 b.now,.int .i64 b.tick,.int .i64 b.given,.slice d0 b.os.length e0,v,.slice none 0 0,.slice none 0 0] 40):=(hL4.out _ hzr (fun h2=>by have:=(hvb _ h2).1;omega)).trans HQ.out.1;have hB4:Below (w.heap.size+1+1) wr w4:=hL4.below (fun z hz h2=>by have:=(hvb z h2).1;omega) (by omega);have hsx:=(Left.refl (fun z=>z=w.heap.size+1+1) w4).set (b:=w.heap.size+1+1) rfl 4 (.slice va' (ps.length+1) vc')
     have HE4:Hid ((w4.setCell ⟨w.heap.size+1+1,4,none⟩ (.slice va' (ps.length+1) vc')).heap[w.heap.size+1+1]?=some (.cells #[.int .i64 b.now,.int .i64 b.tick,.int .i64 b.given,.slice d0 b.os.length e0,.slice va' (ps.length+1) vc',.slice none 0 0,.slice none 0 0] 40)/\zat (w.heap.size+1+1+1) (w4.setCell ⟨w.heap.size+1+1,4,none⟩ (.slice va' (ps.length+1) vc')) own' d0 b.os.length (zac b.os)/\zg2 (w.heap.size+1+1+1) (w4.setCell ⟨w.heap.size+1+1,4,none⟩ (.slice va' (ps.length+1) vc')) own' (.slice va' (ps.length+1) vc') (b.gs.take (k+1))/\(∀q,q<(w.heap.size+1+1+1)->own' q=(9,0,0))/\Below (w.heap.size+1+1) W0 (w4.setCell ⟨w.heap.size+1+1,4,none⟩ (.slice va' (ps.length+1) vc'))):=by
      refine⟨zi kX4 _,hob4.left hsx (fun z h1 h2=>by subst h2;rw[hwo _ (by omega)]at h1;simp at h1),?_,hwo,HQ.out.2.2.2.2.trans (hB4.setCell (Nat.le_refl _) _)⟩;rw[tSe hlt];exact ho2.left hsx (fun z h1 h2=>by subst h2;rw[hwo _ (by omega)]at h1;simp at h1)
     have cX4:=fun j=>cell_of_block (o:=j) kX4
     have fX4:=fun j=>zh (o:=j) kX4
     have hz4:w.heap.size+1+1<w4.heap.size:=(gES kX4).1;clear ho1 ho2 hL4 hwo hob4 kX4 hB4 hsx hown' hgr hat hownW HPS HBW HXW hzw HQ;go_wp2_with fail
     exact⟨⟨k+1,_,own',by omega,by go_num,HE4.out⟩,zq hlt⟩
    ·have e:k=b.gs.length:=by omega
     subst e;obtain⟨hx,hno1,hr,hw,hB⟩:=HQ.out;rw[tOl (Nat.le_refl _)]at hr;obtain⟨d1,e1,rfl,hn⟩:=hr.lie;have HN2:=zbJ hno1 hn hw hB;have HW2:=hid hw;have kR:=(hB.block (w.heap.size+1) (by omega)).trans HK0.out.2;have HX2:=qE hx kR;have cX:=fun j=>cell_of_block (o:=j) hx
     have HBr:=hid hBr;clear HQ hr hn hno1 hw hB hlt hk kP kR hx hBr hng
     go_wp2_with (at_builtin;refine zce ?_)
     clear cX cP
     show wpList _ _ _ _ _ _
     refine zdY rfl (.tmp 55) (.tmp 57) 37 rfl 124 i2 (.agg #[.string ByteArray.empty,.string ByteArray.empty,.int .i64 0,.int .i64 0]) 4 48 Tryz.underlying37 HI2.out.1 HI2.out.2.1 HI2.out.2.2.1 HI2.out.2.2.2 rfl (by decide) rfl a2 b.ls.length c2 (b.ls.flatMap Lg.row) rfl (za6 _ 4 (fun _=>rfl) _) (fun h=>(HL.out.ls.mono HBr.out).from h) zo0 (by have:=HF.out.ls;unfold maxLen;omega) (by have:=HF.out.ls;omega) ?_;intro v2 w3 hown hb3;obtain⟨d2,e2,rfl⟩:=q9 hown;obtain⟨own3,he3⟩:∃own3:Nat->Lb,own3=fun k=>if k<wr.heap.size then own k else (2,0,0):=⟨_,rfl⟩
     have hw3:∀k,k<wr.heap.size->own3 k=own k:=fun k hk=>by rw[he3];exact if_pos hk
     have hR3:zeJ wr.heap.size w3 own3 (.slice d2 b.ls.length e2) b.ls:=⟨hown,fun k hk=>by rw[he3];exact if_neg (by have:=(hown.lt k hk).1;omega)⟩
     obtain⟨d2',e2',h9,hn3⟩:=hR3.lie
     cases h9
     have HRL:=hid (hR3.low (lo':=(w.heap.size+1+1+1)) (by omega));have HW3:Hid (∀k,k<(w.heap.size+1+1+1)->own3 k=(9,0,0)):=fun k hk=>(hw3 k (by omega)).trans (HW2.out k hk)
     have hz3:=hb3.size;have HN3:Hid (zat (w.heap.size+1+1+1) w3 own3 d0 b.os.length (zac b.os)/\zaT (w.heap.size+1+1+1) w3 own3 d1 b.gs.length (zaS b.gs)/\jy (w.heap.size+1+1+1) w3 own3 d2 b.ls.length (zab b.ls)):=⟨(HN2.out.1.own (fun k hk _=>hw3 k hk)).mono hb3,(HN2.out.2.1.own (fun k hk _=>hw3 k hk)).mono hb3,hn3.low (by omega)⟩
     have kX:=(hb3.block _ hzr).trans HX2.out.1;have kR:=(hb3.block (w.heap.size+1) (by omega)).trans HX2.out.2;have kP:=(hb3.block w.heap.size (by omega)).trans ((HN2.out.2.2.2.block w.heap.size (by omega)).trans HK0.out.1);have HB3:=hid (HBr.out.trans (hb3.mono HBr.out.size));clear hR3 hn3 hw3 he3 hown hb3 HN2 HW2 HX2;have cX:=fun j=>cell_of_block (o:=j) kX
     have fX:=fun j=>zh (o:=j) kX
     have hzz3:w.heap.size+1+1<w3.heap.size:=by omega
     have kX1:=zi (o:=5) kX (.slice d2 b.ls.length e2);have kR1:=(zG (w:=w3) (o:=5) (v:=.slice d2 b.ls.length e2) (show w.heap.size+1≠w.heap.size+1+1 by omega)).trans kR;have kP1:=(zG (w:=w3) (o:=5) (v:=.slice d2 b.ls.length e2) (show w.heap.size≠w.heap.size+1+1 by omega)).trans kP;have HB3':=hid (HB3.out.setCell (p:=⟨w.heap.size+1+1,5,none⟩) (by show w.heap.size<=w.heap.size+1+1;omega) (.slice d2 b.ls.length e2));have HK3:=qE kX1 kR1;have hLs:=(Left.refl (fun k=>k=w.heap.size+1+1) w3).set (b:=w.heap.size+1+1) rfl 5 (.slice d2 b.ls.length e2);have HN3':=zdp (HN3.out.1.left hLs (fun k h1 h2=>by subst h2;rw[HW3.out _ (by omega)]at h1;simp at h1)) (HN3.out.2.1.left hLs (fun k h1 h2=>by subst h2;rw[HW3.out _ (by omega)]at h1;simp at h1)) (HN3.out.2.2.left hLs (fun k h1 h2=>by subst h2;rw[HW3.out _ (by omega)]at h1;simp at h1));have HRL':=hid (HRL.out.left hLs (fun k h1 h2=>by subst h2;rw[HW3.out _ (by omega)]at h1;simp at h1));have hsz3:(w3.setCell ⟨w.heap.size+1+1,5,none⟩ (.slice d2 b.ls.length e2)).heap.size=w3.heap.size:=World.size_setCell _ _ _;have cXX:=fun j=>cell_of_block (o:=j) kX1
     have cPP:=fun j=>cell_of_block (o:=j) kP1
     clear kX kR kX1 kR1 hLs kP kP1
     go_wp2_with (at_builtin;refine zce ?_)
     generalize w3.setCell ⟨w.heap.size+1+1,5,none⟩ (.slice d2 b.ls.length e2)=W3 at *
     clear cX fX HB3 HN3 cXX cPP
     show wpList _ _ _ _ _ _
     refine zdY rfl (.tmp 61) (.tmp 63) 38 rfl 65 i3 (.agg #[.string ByteArray.empty,.string ByteArray.empty,.string ByteArray.empty,.int .i64 0,.int .i64 0]) 5 64 Tryz.underlying38 HI3.out.1 HI3.out.2.1 HI3.out.2.2.1 HI3.out.2.2.2 rfl (by decide) rfl a3 b.ps.length c3 (b.ps.flatMap Pu.row) rfl (za6 _ 5 (fun _=>rfl) _) (fun h=>(HL.out.ps.mono HB3'.out).from h) zi1 (by have:=HF.out.ps;unfold maxLen;omega) (by have:=HF.out.ps;omega) ?_;intro v3 w4 hown hb4;obtain⟨d3,e3,rfl⟩:=q9 hown;obtain⟨own4,he4⟩:∃own4:Nat->Lb,own4=fun k=>if k<W3.heap.size then own3 k else if k<w4.heap.size then (3,0,0) else (9,0,0):=⟨_,rfl⟩
     have hw4:∀k,k<W3.heap.size->own4 k=own3 k:=fun k hk=>by rw[he4];exact if_pos hk
     have hR4:zbT W3.heap.size w4 own4 (.slice d3 b.ps.length e3) b.ps:=⟨hown,fun k hk=>by have h8:=hown.lt k hk;rw[he4];show(if _ then _ else _)=_;rw[if_neg (by omega),if_pos h8.2]⟩
     obtain⟨d3',e3',h9,hn4⟩:=hR4.lie
     cases h9
     have hz4:=hb4.size
     have HW4:Hid (∀k,(k<(w.heap.size+1+1+1) \/ w4.heap.size<=k)->own4 k=(9,0,0)):=by
      rintro k (hk|hk)
      ·exact(hw4 k (by omega)).trans (HW3.out k hk)
      ·rw[he4];show(if _ then _ else _)=_;rw[if_neg (by omega),if_neg (by omega)]
     have HRR:Hid (zeJ (w.heap.size+1+1+1) w4 own4 (.slice d2 b.ls.length e2) b.ls/\zbT (w.heap.size+1+1+1) w4 own4 (.slice d3 b.ps.length e3) b.ps):=⟨(HRL'.out.own (fun k hk _=>hw4 k hk)).left (Left.of_below (fun _=>False) hb4) (fun _ _ h=>h),hR4.low (by omega)⟩
     have HN4:Hid (BkL (w.heap.size+1+1+1) w4.heap.size w4 own4 b d0 d1 d2 d3):=⟨(HN3'.out.1.own (fun k hk _=>hw4 k hk)).mono hb4,(HN3'.out.2.1.own (fun k hk _=>hw4 k hk)).mono hb4,(HN3'.out.2.2.own (fun k hk _=>hw4 k hk)).mono hb4,hn4.low (by omega),fun k hk=>by rw[HW4.out k hk],by omega,Nat.le_refl _⟩
     have kX:=(hb4.block (w.heap.size+1+1) (by omega)).trans HK3.out.1;have kR:=(hb4.block (w.heap.size+1) (by omega)).trans HK3.out.2;have HB4:=hid (HB3'.out.trans (hb4.mono HB3'.out.size));clear hR4 hn4 hw4 he4 hown hb4 HN3' HK3 HB3' HW3;have cX:=fun j=>cell_of_block (o:=j) kX
     have fX:=fun j=>zh (o:=j) kX
     have cR:=fun j=>cell_of_block (o:=j) kR
     have fR:=fun j=>zh (o:=j) kR
     have hzz4:w.heap.size+1+1<w4.heap.size:=by omega
     have hzz5:w.heap.size+1<w4.heap.size:=by omega
     clear kX kR;go_wp2_with fail
     refine bodyPost_ret (v:=.agg #[.int .i64 b.now,.int .i64 b.tick,.int .i64 b.given,.slice d0 b.os.length e0,.slice d1 b.gs.length e1,.slice d2 b.ls.length e2,.slice d3 b.ps.length e3]) (by simp[results,Tryz.results23,go_sem,cR]) rfl ⟨own4,d0,d1,d2,d3,e0,e1,e2,e3,rfl,?_⟩
     ·have hL0:=Left.refl (fun k=>k=w.heap.size+1+1 \/ k=w.heap.size+1) w4
      have hL:=(((((((hL0.set (b:=w.heap.size+1+1) (Or.inl rfl) 6 (.slice d3 b.ps.length e3)).set (b:=w.heap.size+1) (Or.inr rfl) 0 (.int .i64 b.now)).set (b:=w.heap.size+1) (Or.inr rfl) 1 (.int .i64 b.tick)).set (b:=w.heap.size+1) (Or.inr rfl) 2 (.int .i64 b.given)).set (b:=w.heap.size+1) (Or.inr rfl) 3 (.slice d0 b.os.length e0)).set (b:=w.heap.size+1) (Or.inr rfl) 4 (.slice d1 b.gs.length e1)).set (b:=w.heap.size+1) (Or.inr rfl) 5 (.slice d2 b.ls.length e2)).set (b:=w.heap.size+1) (Or.inr rfl) 6 (.slice d3 b.ps.length e3);have h8:=BkF.left HN4.out hL (fun k hk h2=>by rw[HW4.out k (Or.inl (by omega))]at hk;simp at hk);simp only[World.size_setCell];refine⟨h8,⟨HRR.out.1.left hL (fun k hk h2=>by rw[HW4.out k (Or.inl (by omega))]at hk;simp at hk),HRR.out.2.left hL (fun k hk h2=>by rw[HW4.out k (Or.inl (by omega))]at hk;simp at hk)⟩,?_⟩;have h0:w.heap.size<=w.heap.size+1+1:=by omega
      have h1:w.heap.size<=w.heap.size+1:=Nat.le_succ _
      iterate 7 refine Below.setCell ?_ h1 _
      refine Below.setCell ?_ h0 _;exact HB4.out
end Go.Proofs.YtkficnallnpjnaaGreat
namespace Go.Proofs.YtkficnallnpjnaaGreat
def qM (fs:List Fld)(vs:List ByteArray)(v:ByteArray):ByteArray:=match fs.findIdx? (fun f=>decide (f.nm=v)) with|some j=>vs.getD j ByteArray.empty|none=>ByteArray.empty
def gives (s:Shp)(vs:List ByteArray)(p:Nat)(m:Mnd):Option ByteArray:=
 if turns m s p=true/\¬(isSet m.wh=true/\qM s.fs vs m.wh≠m.wi) then
  if isSet m.fr=true then (if isSet (qM s.fs vs m.fr)=true then some (qM s.fs vs m.fr) else none) else some m.pt
 else none
def decided (s:Shp)(ms:List Mnd)(p:Nat)(vs:List ByteArray):ByteArray:=(ms.findSome? (gives s vs p)).getD (vs.getD p ByteArray.empty)
theorem zds {fs:List Fld}{vs:List ByteArray}{v:ByteArray}{j:Nat}(h:zR fs v=(j:Int)):qM fs vs v=vs.getD j ByteArray.empty:=by
 unfold zR at h;unfold qM
 cases hf:fs.findIdx? (fun f=>decide (f.nm=v)) with
 | none=>rw[hf]at h;simp at h
 | some k=>
  rw[hf]at h
  have:k=j:=by simp only at h;omega
  rw[this]
theorem zfO {fs:List Fld}{vs:List ByteArray}{v:ByteArray}(h:zR fs v=-1):qM fs vs v=ByteArray.empty:=by
 unfold zR at h;unfold qM
 cases hf:fs.findIdx? (fun f=>decide (f.nm=v)) with
 | none=>rfl
 | some k=>rw[hf]at h;simp only at h;omega
theorem ze9 {α β:Type}{f g:α->Option β}:∀ {l:List α},(∀x∈l,f x=g x)->l.findSome? f=l.findSome? g
 | [],_=>rfl
 | a :: l,h=>by
  have h1:=h a (by simp);have h2:=ze9 (f:=f) (g:=g) (l:=l) (fun x hx=>h x (by simp[hx]));rw[List.findSome?_cons,List.findSome?_cons,h1,h2]
theorem zlk {us vs:List ByteArray}{q:Nat}(e:us[q]?=vs[q]?):us.getD q ByteArray.empty=vs.getD q ByteArray.empty:=by
 rw[List.getD_eq_getElem?_getD,List.getD_eq_getElem?_getD,e]
theorem zns (s:Shp)(ms:List Mnd)(p:Nat)(us vs:List ByteArray)(hr:∀q∈zm s ms p,us[q]?=vs[q]?):ms.findSome? (gives s us p)=ms.findSome? (gives s vs p):=by
 apply ze9
 intro m hmm;unfold gives
 by_cases ht:turns m s p=true
 ·have hread:∀v∈zP m,qM s.fs us v=qM s.fs vs v:=by
   intro v hv'
   rcases jC s.fs v with⟨h1,_⟩|⟨k,_,h1,_⟩
   ·rw[zfO h1,zfO h1]
   ·rw[zds h1,zds h1]
    apply zlk
    apply hr
    unfold zm;rw[List.mem_map];refine⟨(k:Int),?_,Int.toNat_natCast _⟩;unfold yw;rw[List.mem_flatMap];refine⟨m,hmm,?_⟩;rw[if_pos ht,List.mem_map];exact⟨v,hv',h1⟩
  have hw:isSet m.wh=true->qM s.fs us m.wh=qM s.fs vs m.wh:=fun hs=>hread _ (by unfold zP;rw[List.mem_filter];exact⟨by simp,hs⟩)
  have hf:isSet m.fr=true->qM s.fs us m.fr=qM s.fs vs m.fr:=fun hs=>hread _ (by unfold zP;rw[List.mem_filter];exact⟨by simp,hs⟩)
  have c1:(isSet m.wh=true/\qM s.fs us m.wh≠m.wi)↔(isSet m.wh=true/\qM s.fs vs m.wh≠m.wi):=by
   constructor
   ·rintro⟨a,b⟩;exact⟨a,by rw[<- hw a];exact b⟩
   ·rintro⟨a,b⟩;exact⟨a,by rw[hw a];exact b⟩
  have c2:(if isSet m.fr=true then (if isSet (qM s.fs us m.fr)=true then some (qM s.fs us m.fr) else none) else some m.pt)=(if isSet m.fr=true then (if isSet (qM s.fs vs m.fr)=true then some (qM s.fs vs m.fr) else none) else some m.pt):=by
   by_cases hsf:isSet m.fr=true
   ·rw[hf hsf]
   ·rw[if_neg hsf,if_neg hsf]
  rw[c2]
  by_cases hc:turns m s p=true/\¬(isSet m.wh=true/\qM s.fs us m.wh≠m.wi)
  ·have hc':turns m s p=true/\¬(isSet m.wh=true/\qM s.fs vs m.wh≠m.wi):=⟨hc.1,fun h'=>hc.2 (c1.2 h')⟩
   rw[if_pos hc,if_pos hc']
  ·have hc':¬(turns m s p=true/\¬(isSet m.wh=true/\qM s.fs vs m.wh≠m.wi)):=fun h'=>hc ⟨h'.1,fun h''=>h'.2 (c1.1 h'')⟩
   rw[if_neg hc,if_neg hc']
 ·simp[ht]
theorem zkw (s:Shp)(ms:List Mnd):zrb (zm s ms) s.fs.length (decided s ms):=by
 intro p _ us vs _ _ hr hown;unfold decided;rw[zns s ms p us vs hr,zlk hown]
end Go.Proofs.YtkficnallnpjnaaGreat
namespace Go.Proofs.YtkficnallnpjnaaGreat
open Go.RowKit
def zcq (l:Lw):Bool:=yA l.ss l.ms&&zbH l.ts
theorem zkF (l:Lw)(a b c:Option Addr)(ca cb cc:Nat)(w:World)(hl:jr w l a b c)(hf:l.Few) :
 Calls Tryz.prog 76 #[.agg (l.cells a b c ca cb cc)] w fun e w'=>e=.returned (.bool (zcq l))/\Below w.heap.size w w':=by
 have HL:Hid (jr w l a b c):=hl;have HF:Hid l.Few:=hf;clear hl hf;unfold Lw.cells
 by_cases h1:yA l.ss l.ms=true
 ·have HQ:Hid (zcq l=zbH l.ts):=by unfold Hid zcq;rw[h1];rfl
  have HM:Hid (yA l.ss l.ms=true):=h1;clear h1;go_enter Tryz.func76,Tryz.ntmps76;go_wp2_with fail
  refine(zf HM.out (zey _ _ _ _ l.ss l.ms _ (HL.out.ss.mono (bAl _ _)) (HL.out.ms.mono (bAl _ _)) HF.out.ms)).mono ?_;rintro e w1⟨rfl,hb⟩;have hX1:=za (zl w #[.slice a l.ss.length ca,.slice b l.ms.length cb,.slice c l.ts.length cc] 47) (by simp) hb;have hz1:w.heap.size<w1.heap.size:=by have:=hb.size;simp at this;omega
  have hB1:Below w.heap.size w w1:=(bAl _ _).trans (hb.mono (by simp));clear hb;go_wp2_with fail
  refine(ziA _ _ l.ts _ (HL.out.ts.mono hB1)).mono ?_;rintro e w2⟨rfl,hb⟩;have hB2:=hB1.trans (hb.mono hB1.size);clear hb hX1 hz1 hB1;go_wp2_with fail
  go_ret;exact⟨ze HQ.out.symm,hB2⟩
 ·have h1':yA l.ss l.ms=false:=by simpa using h1
  have HQ:Hid (zcq l=false):=by unfold Hid zcq;rw[h1'];rfl
  have HM:Hid (yA l.ss l.ms=false):=h1';clear h1 h1';go_enter Tryz.func76,Tryz.ntmps76;go_wp2_with fail
  refine(zf HM.out (zey _ _ _ _ l.ss l.ms _ (HL.out.ss.mono (bAl _ _)) (HL.out.ms.mono (bAl _ _)) HF.out.ms)).mono ?_;rintro e w1⟨rfl,hb⟩;have hB1:Below w.heap.size w w1:=(bAl _ _).trans (hb.mono (by simp));clear hb;go_wp2_with fail
  go_ret;exact⟨ze HQ.out.symm,hB1⟩
theorem zky (l:Lw)(a b c:Option Addr)(ca cb cc:Nat)(w:World)(hl:jr w l a b c) :
 Calls Tryz.prog 60 #[.agg (l.cells a b c ca cb cc)] w fun e w'=>e=.returned (.bool (zcq l))/\Below w.heap.size w w':=by
 have HL:Hid (jr w l a b c):=hl;clear hl;unfold Lw.cells
 by_cases h1:yA l.ss l.ms=true
 ·have HQ:Hid (zcq l=zaH l.ts):=by unfold Hid zcq;rw[h1,zl9];rfl
  have HM:Hid (jq l.ss l.ms=true):=by unfold Hid;rw[<- zgx];exact h1
  clear h1;go_enter Tryz.func60,Tryz.ntmps60;go_wp2_with fail
  refine(zf HM.out (zer _ _ _ _ l.ss l.ms _ (HL.out.ss.mono (bAl _ _)) (HL.out.ms.mono (bAl _ _)))).mono ?_;rintro e w1⟨rfl,hb⟩;have hX1:=za (zl w #[.slice a l.ss.length ca,.slice b l.ms.length cb,.slice c l.ts.length cc] 47) (by simp) hb;have hz1:w.heap.size<w1.heap.size:=by have:=hb.size;simp at this;omega
  have hB1:Below w.heap.size w w1:=(bAl _ _).trans (hb.mono (by simp));clear hb;go_wp2_with fail
  refine(ziV _ _ l.ts _ (HL.out.ts.mono hB1)).mono ?_;rintro e w2⟨rfl,hb⟩;have hB2:=hB1.trans (hb.mono hB1.size);clear hb hX1 hz1 hB1;go_wp2_with fail
  go_ret;exact⟨ze HQ.out.symm,hB2⟩
 ·have h1':yA l.ss l.ms=false:=by simpa using h1
  have HQ:Hid (zcq l=false):=by unfold Hid zcq;rw[h1'];rfl
  have HM:Hid (jq l.ss l.ms=false):=by unfold Hid;rw[<- zgx];exact h1'
  clear h1 h1';go_enter Tryz.func60,Tryz.ntmps60;go_wp2_with fail
  refine(zf HM.out (zer _ _ _ _ l.ss l.ms _ (HL.out.ss.mono (bAl _ _)) (HL.out.ms.mono (bAl _ _)))).mono ?_;rintro e w1⟨rfl,hb⟩;have hB1:Below w.heap.size w w1:=(bAl _ _).trans (hb.mono (by simp));clear hb;go_wp2_with fail
  go_ret;exact⟨ze HQ.out.symm,hB1⟩
end Go.Proofs.YtkficnallnpjnaaGreat
