import Derived.Test.YtjnpjkigofldlaaGreatM49
set_option maxRecDepth 20000
set_option maxHeartbeats 8000000
namespace Go.Proofs.YtjnpjkigofldlaaGreat
open Go.RowKit
theorem zmO (lo hi x g:Nat)(own:Nat->Lb)(b:Bk)(d1 d2 d3:OA)(e0 e1 e2 e3:Nat)(i:Nat)(w:World)(h:BkB lo hi x w own b (some (aD g 0)) d1 d2 d3 e0 e1 e2 e3)(hil:i<b.os.length)(hn:0<=b.now/\b.now<=2000000) :
 Calls Tryz.prog 90 #[.pointer (some (aD x 0)),.i i] w fun e w'=>e=.returned (.tuple #[])/\BkB lo hi x w' own { b with now:=b.now+1,os:=b.os.set i { b.os[i] with vr:=b.now+1 } } (some (aD g 0)) d1 d2 d3 e0 e1 e2 e3/\Left (fun q=>q=x \/ (own q).1=0) w w':=by
 have HB:=hid h;have cX:=fun j=>cell_of_block (o:=j) h.box
 have fX:=fun j=>zf (o:=j) h.box
 have hxw:=h.lt;have hw1:wrap64 (b.now+1)=b.now+1:=zx _ ⟨by omega,by omega⟩;have hw2:IntKind.i64.wrap (b.now+1)=b.now+1:=by rw[IntKind.wrap_i64];omega
 clear h hn;go_in;go_wp2_with fail
 have hB1:=HB.o.now (b.now+1);have hL1:Left (fun q=>q=x \/ (own q).1=0) w (w.setCell (aD x 0) (.i (b.now+1))):=(Left.one _ _ _ _).wide (fun k hk=>Or.inl hk);obtain⟨W,hW⟩:=xN (w.setCell (aD x 0) (.i (b.now+1)));rw[<- hW]at hB1 hL1 ⊢;clear hW cX fX HB;have HB1:=yB hB1 hL1;obtain⟨_,C,ha,hlo,hgo,hC,hs,hr⟩:=hB1.bk.os.rows (by show 0<b.os.length;omega)
 cases ha
 have hgx:g≠x:=by rintro rfl;have:=hB1.out;rw[hgo]at this;cases this
 have cG:W.drew.cell? (aD g (i*7+6))=some (.i b.os[i].vr):=by
  obtain⟨a0,a1,c0,c1,hx⟩:=hr i hil;have h1:=hx.cell 6 (by omega);rw[qW hil]at h1;exact(cell_of_block (w:=W.drew) hC).trans h1
 have fG:W.drew.frozen? (aD g (i*7+6))=false:=zf (w:=W.drew) hC;have hS:∀j,W.drew.cell? (aD x j)=(bC { b with now:=b.now+1 } (some (aD g 0)) d1 d2 d3 e0 e1 e2 e3)[j]?:=fun j=>cell_of_block hB1.box
 have hSe:∀v j,(W.drew.setCell (aD g (i*7+6)) v).cell? (aD x j)=(bC { b with now:=b.now+1 } (some (aD g 0)) d1 d2 d3 e0 e1 e2 e3)[j]?:=fun v j=>(World.cell?_setCell_far _ _ _ _ hgx).trans (hS j)
 have hgw:g<W.drew.heap.size:=(gES hC).1;have hiI:(i:Int)<(b.os.length:Int):=by omega
 have HE:=yB ((hB1.mono (bRf _ _).drew).cell i 6 hil (by omega) (.i (b.now+1)) { b.os[i] with vr:=b.now+1 } rfl rfl (fun a0 a1 c0 c1 k hk=>by
  by_cases e:k=6
  ·subst e;rfl
  ·rw[if_neg e]
   have:k=0 \/ k=1 \/ k=2 \/ k=3 \/ k=4 \/ k=5:=by omega
   rcases this with rfl|rfl|rfl|rfl|rfl|rfl <;> rfl)) ((hL1.trans (Left.of_below _ (bRf _ _).drew)).set (b:=g) (Or.inr (by rw[hgo])) (i*7+6) (.i (b.now+1)))
 clear hB1 hL1 hC hr hs hlo hgo;refine wp_region_held_drew (S:=fun w'=>∀j,w'.cell? (aD x j)=(bC { b with now:=b.now+1 } (some (aD g 0)) d1 d2 d3 e0 e1 e2 e3)[j]?) (by kernel_rfl) hS (fun H_=>?_);refine tG 0 ?_;refine tG 1 ?_;refine tG 2 ?_;refine tG 3 ?_;refine tG 4 ?_;refine tG 5 ?_;refine tG 6 ?_;refine tG 7 ?_;refine tG 8 ?_;refine cH 9 rfl fun K hK=>?_
 go_simp
 refine hK.out _ _ hS (fun H_=>?_);clear hK K
 (try simp only[Act.put,sA,s0,sS])
 refine tG 10 ?_;refine cH 11 rfl fun K hK=>?_
 go_simp
 refine hK.out _ _ (hSe _) (fun H_=>?_);clear hK K
 (try simp only[Act.put,sA,s0,sS])
 refine wpAnyH_done (by kernel_rfl) ?_ _;exact bodyPost_end (results_none rfl _ _ _) rfl ⟨rfl,HE.o⟩
def zbT (l:Lw)(o:Ob)(ls:List Lg)(k i:Nat):Lg:=if i<k then ze0 l o (zdl ls i) else zdl ls i
theorem zm8 (l:Lw)(o:Ob)(ls:List Lg)(i:Nat)(h:i<ls.length):zdl (ls.map (ze0 l o)) i=zbT l o ls ls.length i:=by
 unfold zbT;rw[if_pos h,zdu (by simpa using h),zdu h,List.getElem_map]
theorem zpQ {l:Lw}{o:Ob}{ls:List Lg}{k:Nat}(h:k<ls.length)(hu:under l.ts 4 o.tm ls[k].tm=false)(i:Nat):zbT l o ls (k+1) i=zbT l o ls k i:=by
 unfold zbT
 by_cases e:i=k
 ·subst e
  rw[if_pos (by omega),if_neg (by omega),zdu h];unfold ze0;rw[hu];rfl
 ·by_cases h2:i<k
  ·rw[if_pos (by omega),if_pos h2]
  ·rw[if_neg (by omega),if_neg h2]
theorem zmG {l:Lw}{o:Ob}{ls:List Lg}{k:Nat}(h:k<ls.length)(hu:under l.ts 4 o.tm ls[k].tm=true)(i:Nat):zbT l o ls (k+1) i=if i=k then { zbT l o ls k k with fr:=wrap64 (ls[k].fr+qm l.ss o ls[k].rs) } else zbT l o ls k i:=by
 unfold zbT
 by_cases e:i=k
 ·subst e
  rw[if_pos (Nat.lt_succ_self i),if_pos rfl,if_neg (Nat.lt_irrefl i),zdu h];unfold ze0;rw[if_pos hu]
 ·rw[if_neg e]
  by_cases h2:i<k
  ·rw[if_pos (by omega),if_pos h2]
  ·rw[if_neg (by omega),if_neg h2]
theorem zqr (lo hi x:Nat)(own:Nat->Lb)(b:Bk)(d0 d1 d2 d3:OA)(e0 e1 e2 e3:Nat)(l:Lw)(la lb lc:OA)(lca lcb lcc:Nat)(o:Ob)(va ha:OA)(cap cap':Nat)(w:World)(h:BkB lo hi x w own b d0 d1 d2 d3 e0 e1 e2 e3)(hL:∀W,Left (fun q=>(own q).1=2) w W->qp W l la lb lc/\qY W o va ha)(hlen:o.vs.length<=1048576)(hln:b.ls.length<=10) :
 Calls Tryz.prog 92 #[.pointer (some (aD x 0)),.agg (lC l la lb lc lca lcb lcc),.agg (oC o va ha cap cap')] w fun e w'=>e=.returned (.tuple #[])/\BkB lo hi x w' own { b with ls:=b.ls.map (ze0 l o) } d0 d1 d2 d3 e0 e1 e2 e3/\Left (fun q=>(own q).1=2) w w':=by
 have HB:=hid h;have HL:=yB hL hlen;have hxw:=h.lt;have h9:=h.bk.out w.heap.size (Or.inr h.bk.hi);have h9':=h.bk.out (w.heap.size+1) (Or.inr (Nat.le_succ_of_le h.bk.hi));have hba:=zo w (.cells (lC l la lb lc lca lcb lcc) 47) (.cells (oC o va ha cap cap') 116);obtain⟨k0,k1⟩:=zK w (.cells (lC l la lb lc lca lcb lcc) 47) (.cells (oC o va ha cap cap') 116);obtain⟨W0,hW0⟩:=xN ((w.alloc (.cells (lC l la lb lc lca lcb lcc) 47)).alloc (.cells (oC o va ha cap cap') 116));have hz0:W0.heap.size=w.heap.size+1+1:=by rw[hW0];simp
 clear h hL hlen;go_in
 go_upto_region 1 with fail
 rw[<- hW0]at k0 k1 hba ⊢;clear hW0;have kX:=(hba.block x hxw).trans HB.o.box;have cX:=fun j=>cell_of_block (o:=j) kX
 have HB0:=yB (HB.o.mono hba) hba;have hx2:(own x).1≠2:=by have:=HB.o.out;omega
 have HKK:=zao k0 k1 kX;clear hba k0 k1 kX;go_wp2_with fail
 clear cX
 go_loopw [13] (fun iv wr=>∃k:Nat,k<=b.ls.length/\iv=.i k/\Hid (zaR lo wr own d2 b.ls.length (zbT l o b.ls k)/\Left (fun q=>(own q).1=2) W0 wr)) (fun iv _=>b.ls.length-(intOf iv).toNat)
 case atStart=>exact⟨0,Nat.zero_le _,rfl,HB0.o.1.bk.ls,Left.refl _ _⟩
 case round=>
  obtain⟨k,hk,rfl,HQ⟩:=hrel;have cX:∀j,wr.cell? (aD x j)=(bC b d0 d1 d2 d3 e0 e1 e2 e3)[j]?:=fun j=>cell_of_block ((HQ.o.2.out x (by omega) hx2).trans HKK.o.2.2)
  have cL:∀j,wr.cell? (aD w.heap.size j)=(lC l la lb lc lca lcb lcc)[j]?:=fun j=>cell_of_block ((HQ.o.2.out w.heap.size (by omega) (by omega)).trans HKK.o.1)
  have cO:∀j,wr.cell? (aD (w.heap.size+1) j)=(oC o va ha cap cap')[j]?:=fun j=>cell_of_block ((HQ.o.2.out (w.heap.size+1) (by omega) (by omega)).trans HKK.o.2.1)
  have hzr:=HQ.o.2.size;have hxr:x<wr.heap.size:=by omega
  by_cases hlt:k<b.ls.length
  ·obtain⟨g,C,rfl,hlo,hgo,hC,hs,hr⟩:=HQ.o.1.rows (by omega)
   have hgr:=(gES hC).1;have hx:=(hr k hlt).cell;have e:zbT l o b.ls k k=b.ls[k]:=by unfold zbT;rw[if_neg (by omega),zdu hlt]
   rw[e]at hx;have c0:wr.cell? (aD g (k*4))=some (.s b.ls[k].tm):=(cell_of_block hC).trans (hx 0 (by omega));have c1:wr.cell? (aD g (k*4+1))=some (.s b.ls[k].rs):=(cell_of_block hC).trans (hx 1 (by omega));have c2:wr.cell? (aD g (k*4+2))=some (.i b.ls[k].mo):=(cell_of_block hC).trans (hx 2 (by omega));have c3:wr.cell? (aD g (k*4+3))=some (.i b.ls[k].fr):=(cell_of_block hC).trans (hx 3 (by omega));have hltI:(k:Int)<(b.ls.length:Int):=by omega
   have HC:=j3 hC hgo hr hs;have hba:=(bRf wr.heap.size wr).alloc (Nat.le_refl _) (.cells #[.s b.ls[k].tm,.s b.ls[k].rs,.i b.ls[k].mo,.i b.ls[k].fr] 138);have HBa:=yB hba (alloc_at wr (.cells #[.s b.ls[k].tm,.s b.ls[k].rs,.i b.ls[k].mo,.i b.ls[k].fr] 138));clear hC hr hs hx hlo hgo e hba
   go_upto_region 4 with fail
   obtain⟨W1,hW1⟩:=xN (wr.alloc (.cells #[.s b.ls[k].tm,.s b.ls[k].rs,.i b.ls[k].mo,.i b.ls[k].fr] 138));have hz1:W1.heap.size=wr.heap.size+1:=by rw[hW1];simp
   rw[<- hW1]at HBa ⊢;clear hW1
   have HS:Hid (∀W,Bw W1 W->(∀j,W.cell? (aD w.heap.size j)=(lC l la lb lc lca lcb lcc)[j]?)/\(∀j,W.cell? (aD (w.heap.size+1) j)=(oC o va ha cap cap')[j]?)/\(∀j,W.cell? (aD wr.heap.size j)=(#[.s b.ls[k].tm,.s b.ls[k].rs,.i b.ls[k].mo,.i b.ls[k].fr]:AV)[j]?)/\(∀j,W.cell? (aD x j)=(bC b d0 d1 (some (aD g 0)) d3 e0 e1 e2 e3)[j]?)):=fun W hW=>by
    have hB:=HBa.o.1.trans (hW.mono (by omega));exact⟨fun j=>(hB.cell (p:=(aD w.heap.size j)) (show w.heap.size<wr.heap.size by omega)).trans (cL j),fun j=>(hB.cell (p:=(aD (w.heap.size+1) j)) (show w.heap.size+1<wr.heap.size by omega)).trans (cO j),fun j=>cell_of_block ((hW.block _ (by omega)).trans HBa.o.2),fun j=>(hB.cell (p:=(aD x j)) hxr).trans (cX j)⟩
   have HG:Hid (∀W,Bw W1 W->W.cell? (aD g (k*4+3))=some (.i b.ls[k].fr)):=fun W hW=>((HBa.o.1.trans (hW.mono (by omega))).cell (p:=(aD g (k*4+3))) hgr).trans c3
   have HLw:Hid (∀W,Bw W1 W->Left (fun q=>(own q).1=2) w W):=fun W hW=>((Left.of_below _ HB0.o.2).trans HQ.o.2).trans (Left.of_below _ (HBa.o.1.trans (hW.mono (by omega))))
   clear cL cO cX c0 c1 c2 c3;have hS:=HS.o W1 (bRf _ _);go_wp2_with fail
   refine(zf8 lc lcc l.ts o.tm b.ls[k].tm W1 (HL.o.1 W1 (HLw.o W1 (bRf _ _))).1.ts).mono ?_;rintro e w2⟨rfl,hb2⟩;clear hS;have HBb:=hid hb2;clear hb2
   cases hu:under l.ts 4 o.tm b.ls[k].tm with
   | false=>
    have HE:Hid (zaR lo w2 own (some (aD g 0)) b.ls.length (zbT l o b.ls (k+1))/\Left (fun q=>(own q).1=2) W0 w2):=by
     have hB:=HBa.o.1.trans (HBb.o.mono (by omega));exact⟨(HQ.o.1.mono hB).same (fun i _=>zpQ hlt hu i),HQ.o.2.trans (Left.of_below _ hB)⟩
    go_wp2
    exact⟨⟨k+1,by omega,by go_num,HE.o⟩,zi hlt⟩
   | true=>
    have hS:=HS.o w2.drew (HBb.o.trans (bRf _ _).drew);have hcall:=zfs l la lb lc lca lcb lcc o va ha cap cap' b.ls[k].rs w2.drew (HL.o.1 _ (HLw.o _ (HBb.o.trans (bRf _ _).drew))).1 (HL.o.1 _ (HLw.o _ (HBb.o.trans (bRf _ _).drew))).2 HL.o.2;unfold Lw.cells at hcall;have hgx:g≠x:=by rintro rfl;exact hx2 (by rw[HC.o.2.1])
    have hg1:g≠w.heap.size:=by rintro rfl;have:=HC.o.2.1;rw[this]at h9;cases h9
    have hg2:g≠w.heap.size+1:=by rintro rfl;have:=HC.o.2.1;rw[this]at h9';cases h9'
    have hg3:g≠wr.heap.size:=by omega
    have HGG:=j3 hgx hg1 hg2 hg3;clear hgx hg1 hg2 hg3 hgr;go_wp2_with fail
    refine zfK (fun W=>((∀j,W.cell? (aD w.heap.size j)=(lC l la lb lc lca lcb lcc)[j]?)/\(∀j,W.cell? (aD (w.heap.size+1) j)=(oC o va ha cap cap')[j]?)/\(∀j,W.cell? (aD wr.heap.size j)=(#[.s b.ls[k].tm,.s b.ls[k].rs,.i b.ls[k].mo,.i b.ls[k].fr]:AV)[j]?)/\(∀j,W.cell? (aD x j)=(bC b d0 d1 (some (aD g 0)) d3 e0 e1 e2 e3)[j]?))/\W.cell? (aD g (k*4+3))=some (.i b.ls[k].fr)) [16] (by kernel_rfl) ⟨hS,HG.o _ (HBb.o.trans (bRf _ _).drew)⟩ (fun H_=>?_);refine tD 0 ?_;refine tD 1 ?_;refine tD 2 ?_;refine tD 3 ?_;refine tD 4 ?_;refine tD 5 ?_;refine tD 6 ?_;refine tD 7 ?_;refine tD 8 ?_;refine tD 9 ?_;refine tD 10 ?_;refine tD 11 ?_;refine cD 12 fun K hK=>?_
    go_simp
    refine hcall.mono ?_;rintro e w3⟨rfl,hb3⟩;have HB3:=hid (HBb.o.trans (((bRf _ _).drew.trans hb3).mono HBb.o.size));have hS3:=HS.o w3 HB3.o;have hG3:=HG.o w3 HB3.o
    (try go_wp2_with fail)
    refine hK.out _ _ (fun _=>⟨hS3,hG3⟩) (fun H_=>?_);clear hK K hcall
    (try simp only[Act.put,sA,s0,sS])
    replace H_:=H_ (by decide)
    refine tD 13 ?_;refine cD 14 fun K hK=>?_
    go_simp
    refine hK.out _ _ (fun _=>⟨hS3,hG3⟩) (fun _=>?_);clear hK K
    (try simp only[Act.put,sA,s0,sS])
    refine tD 15 ?_;have hgC:=((HBa.o.1.trans (HB3.o.mono (by omega))).block g (gES HC.o.1).1).trans HC.o.1;have fG:w3.frozen? (aD g (k*4+3))=false:=zf hgC
    have HE:Hid (zaR lo (w3.setCell (aD g (k*4+3)) (.i (wrap64 (b.ls[k].fr+qm l.ss o b.ls[k].rs)))) own (some (aD g 0)) b.ls.length (zbT l o b.ls (k+1))/\Left (fun q=>(own q).1=2) W0 (w3.setCell (aD g (k*4+3)) (.i (wrap64 (b.ls[k].fr+qm l.ss o b.ls[k].rs))))):=by
     have hB:=HBa.o.1.trans (HB3.o.mono (by omega));exact⟨((HQ.o.1.mono hB).cell k hlt _).same (fun i _=>zmG hlt hu i),(HQ.o.2.trans (Left.of_below _ hB)).set (by rw[HC.o.2.1]) _ _⟩
    refine cD 16 fun K hK=>?_
    go_simp
    refine hK.out _ _ (fun h=>absurd (by decide) h) (fun H_=>?_);clear hK K
    (try simp only[Act.put,sA,s0,sS])
    refine zfy (by kernel_rfl) ?_ _;go_wp2
    exact⟨⟨k+1,by omega,by go_num,HE.o⟩,zi hlt⟩
  ·obtain rfl:k=b.ls.length:=by omega
   have HE:Hid (BkB lo hi x wr own { b with ls:=b.ls.map (ze0 l o) } d0 d1 d2 d3 e0 e1 e2 e3/\Left (fun q=>(own q).1=2) w wr):=by
    refine⟨⟨?_,⟨HB0.o.1.bk.os.left HQ.o.2 (fun k hk=>by omega),HB0.o.1.bk.gs.left HQ.o.2 (fun k hk=>by omega),?_,HB0.o.1.bk.ps.left HQ.o.2 (fun k hk=>by omega),HB0.o.1.bk.out,HB0.o.1.bk.le,Nat.le_trans HB0.o.1.bk.hi hzr⟩,HB0.o.1.out⟩,(Left.of_below _ HB0.o.2).trans HQ.o.2⟩
    ·rw[(HQ.o.2.out x (by omega) hx2).trans HKK.o.2.2];simp[bC]
    ·show zaR lo wr own d2 (b.ls.map _).length _
     rw[List.length_map];exact HQ.o.1.same (fun i hi=>zm8 l o b.ls i hi)
   go_wp2_with fail
   exact bodyPost_end (results_none rfl _ _ _) rfl ⟨rfl,HE.o⟩
theorem zsg (lo hi x:Nat)(own:Nat->Lb)(b:Bk)(d0 d1 d2 d3:OA)(e0 e1 e2 e3:Nat)(l:Lw)(la lb lc:OA)(lca lcb lcc:Nat)(o:Ob)(va ha:OA)(cap cap':Nat)(w:World)(h:BkB lo hi x w own b d0 d1 d2 d3 e0 e1 e2 e3)(hL:∀W,Left (fun q=>(own q).1=2) w W->qp W l la lb lc/\qY W o va ha)(hlen:o.vs.length<=1048576)(hln:b.ls.length<=10) :
 Calls Tryz.prog 70 #[.agg (lC l la lb lc lca lcb lcc),.agg (bC b d0 d1 d2 d3 e0 e1 e2 e3),.agg (oC o va ha cap cap')] w fun e w'=>e=.returned (.tuple #[])/\BkB lo hi x w' own { b with ls:=b.ls.map (ze0 l o) } d0 d1 d2 d3 e0 e1 e2 e3/\Left (fun q=>(own q).1=2) w w':=by
 have HB:=hid h;have HL:=yB hL hlen;have hxw:=h.lt;have h9:=h.bk.out w.heap.size (Or.inr h.bk.hi);have h9a:=h.bk.out (w.heap.size+1) (Or.inr (Nat.le_succ_of_le h.bk.hi));have h9b:=h.bk.out (w.heap.size+1+1) (Or.inr (Nat.le_succ_of_le (Nat.le_succ_of_le h.bk.hi)));obtain⟨W0,hW0,⟨k0,k1,k2⟩,hba,hz0⟩:=zsc w (.cells (lC l la lb lc lca lcb lcc) 47) (.cells (bC b d0 d1 d2 d3 e0 e1 e2 e3) 40) (.cells (oC o va ha cap cap') 116);clear h hL hlen;go_in
 go_upto_region 1 with fail
 rw[<- hW0];clear hW0;have HB0:=yB (HB.o.mono hba) hba;have hx2:(own x).1≠2:=by have:=HB.o.out;omega
 have HKK:=j3 k0 k1 k2 ((hba.block x hxw).trans HB.o.box);clear hba k0 k1 k2;go_wp2
 go_loopw [6] (fun iv wr=>∃k:Nat,k<=b.ls.length/\iv=.i k/\Hid (zaR lo wr own d2 b.ls.length (zbT l o b.ls k)/\Left (fun q=>(own q).1=2) W0 wr)) (fun iv _=>b.ls.length-(intOf iv).toNat)
 case atStart=>exact⟨0,Nat.zero_le _,rfl,HB0.o.1.bk.ls,Left.refl _ _⟩
 case round=>
  obtain⟨k,hk,rfl,HQ⟩:=hrel;have cB:∀j,wr.cell? (aD (w.heap.size+1) j)=(bC b d0 d1 d2 d3 e0 e1 e2 e3)[j]?:=fun j=>cell_of_block ((HQ.o.2.out (w.heap.size+1) (by omega) (by omega)).trans HKK.o.2.1)
  have cL:∀j,wr.cell? (aD w.heap.size j)=(lC l la lb lc lca lcb lcc)[j]?:=fun j=>cell_of_block ((HQ.o.2.out w.heap.size (by omega) (by omega)).trans HKK.o.1)
  have cO:∀j,wr.cell? (aD (w.heap.size+1+1) j)=(oC o va ha cap cap')[j]?:=fun j=>cell_of_block ((HQ.o.2.out (w.heap.size+1+1) (by omega) (by omega)).trans HKK.o.2.2.1)
  have hzr:=HQ.o.2.size;have hzB:w.heap.size+1<wr.heap.size:=by omega
  by_cases hlt:k<b.ls.length
  ·obtain⟨g,C,rfl,hlo,hgo,hC,hs,hr⟩:=HQ.o.1.rows (by omega)
   have hgr:=(gES hC).1;have hx:=(hr k hlt).cell;have e:zbT l o b.ls k k=b.ls[k]:=by unfold zbT;rw[if_neg (by omega),zdu hlt]
   rw[e]at hx;have c0:wr.cell? (aD g (k*4))=some (.s b.ls[k].tm):=(cell_of_block hC).trans (hx 0 (by omega));have c1:wr.cell? (aD g (k*4+1))=some (.s b.ls[k].rs):=(cell_of_block hC).trans (hx 1 (by omega));have c3:wr.cell? (aD g (k*4+3))=some (.i b.ls[k].fr):=(cell_of_block hC).trans (hx 3 (by omega));have hltI:(k:Int)<(b.ls.length:Int):=by omega
   have HC:=j3 hC hgo hr hs;clear hC hr hs hx hlo hgo e
   go_upto_region 4 with fail
   have HS:Hid (∀W,Bw wr W->(∀j,W.cell? (aD w.heap.size j)=(lC l la lb lc lca lcb lcc)[j]?)/\(∀j,W.cell? (aD (w.heap.size+1) j)=(bC b d0 d1 (some (aD g 0)) d3 e0 e1 e2 e3)[j]?)/\(∀j,W.cell? (aD (w.heap.size+1+1) j)=(oC o va ha cap cap')[j]?)/\W.cell? (aD g (k*4))=some (.s b.ls[k].tm)/\W.cell? (aD g (k*4+1))=some (.s b.ls[k].rs)/\W.cell? (aD g (k*4+3))=some (.i b.ls[k].fr)):=fun W hW=>
    ⟨fun j=>(hW.cell (p:=(aD w.heap.size j)) (show w.heap.size<wr.heap.size by omega)).trans (cL j),fun j=>(hW.cell (p:=(aD (w.heap.size+1) j)) hzB).trans (cB j),fun j=>(hW.cell (p:=(aD (w.heap.size+1+1) j)) (show w.heap.size+1+1<wr.heap.size by omega)).trans (cO j),(hW.cell (p:=(aD g _)) hgr).trans c0,(hW.cell (p:=(aD g _)) hgr).trans c1,(hW.cell (p:=(aD g _)) hgr).trans c3⟩
   have HLw:Hid (∀W,Bw wr W->Left (fun q=>(own q).1=2) w W):=fun W hW=>((Left.of_below _ HB0.o.2).trans HQ.o.2).trans (Left.of_below _ hW)
   clear cL cO cB c0 c1 c3;have hBd:=(bRf wr.heap.size wr).drew;have hS:=HS.o _ hBd
   go_region_held3 (fun W=>(∀j,W.cell? (aD w.heap.size j)=(lC l la lb lc lca lcb lcc)[j]?)/\(∀j,W.cell? (aD (w.heap.size+1) j)=(bC b d0 d1 (some (aD g 0)) d3 e0 e1 e2 e3)[j]?)/\(∀j,W.cell? (aD (w.heap.size+1+1) j)=(oC o va ha cap cap')[j]?)/\W.cell? (aD g (k*4))=some (.s b.ls[k].tm)/\W.cell? (aD g (k*4+1))=some (.s b.ls[k].rs)/\W.cell? (aD g (k*4+3))=some (.i b.ls[k].fr)) (exact hS) (first
    | (go_at_call 130;refine(zgb lc lcc l.ts o.tm b.ls[k].tm _ (HL.o.1 _ (HLw.o _ hBd)).1.ts).mono ?_;rintro e w2⟨rfl,hw2⟩;rw[hw2];clear hw2 w2))
   clear hS
   cases hu:under l.ts 4 o.tm b.ls[k].tm with
   | false=>
    have HE:Hid (zaR lo wr.drew own (some (aD g 0)) b.ls.length (zbT l o b.ls (k+1))/\Left (fun q=>(own q).1=2) W0 wr.drew):=⟨(HQ.o.1.mono hBd).same (fun i _=>zpQ hlt hu i),HQ.o.2.trans (Left.of_below _ hBd)⟩
    go_wp2
    exact⟨⟨k+1,by omega,by go_num,HE.o⟩,zi hlt⟩
   | true=>
    have hBdd:=hBd.trans ((bRf wr.heap.size wr.drew).drew);have hS:=HS.o wr.drew.drew hBdd;have hcall:=zfO l la lb lc lca lcb lcc o va ha cap cap' b.ls[k].rs wr.drew.drew (HL.o.1 _ (HLw.o _ hBdd)).1 (HL.o.1 _ (HLw.o _ hBdd)).2 HL.o.2;unfold Lw.cells at hcall;have hg1:g≠w.heap.size:=by rintro rfl;have:=HC.o.2.1;rw[this]at h9;cases h9
    have hg2:g≠w.heap.size+1:=by rintro rfl;have:=HC.o.2.1;rw[this]at h9a;cases h9a
    have hg3:g≠w.heap.size+1+1:=by rintro rfl;have:=HC.o.2.1;rw[this]at h9b;cases h9b
    have HGG:=zao hg1 hg2 hg3;clear hg1 hg2 hg3;go_wp2_with fail
    refine zfK (fun W=>(∀j,W.cell? (aD w.heap.size j)=(lC l la lb lc lca lcb lcc)[j]?)/\(∀j,W.cell? (aD (w.heap.size+1) j)=(bC b d0 d1 (some (aD g 0)) d3 e0 e1 e2 e3)[j]?)/\(∀j,W.cell? (aD (w.heap.size+1+1) j)=(oC o va ha cap cap')[j]?)/\W.cell? (aD g (k*4))=some (.s b.ls[k].tm)/\W.cell? (aD g (k*4+1))=some (.s b.ls[k].rs)/\W.cell? (aD g (k*4+3))=some (.i b.ls[k].fr)) [21] (by kernel_rfl) hS (fun H_=>?_);refine tD 0 ?_;refine tD 1 ?_;refine tD 2 ?_;refine tD 3 ?_;refine tD 4 ?_;refine tD 5 ?_;refine tD 6 ?_;refine tD 7 ?_;refine tD 8 ?_;refine tD 9 ?_;refine tD 10 ?_;refine tD 11 ?_;refine tD 12 ?_;refine tD 13 ?_;refine tD 14 ?_;refine tD 15 ?_;refine tD 16 ?_;refine cD 17 fun K hK=>?_
    go_simp
    refine hcall.mono ?_;rintro e w3⟨rfl,hb3⟩;have HB3:=hid (hBdd.trans hb3);have hS3:=HS.o w3 HB3.o
    (try go_wp2_with fail)
    refine hK.out _ _ (fun _=>hS3) (fun H_=>?_);clear hK K hcall
    (try simp only[Act.put,sA,s0,sS])
    replace H_:=H_ (by decide)
    refine tD 18 ?_;refine cD 19 fun K hK=>?_
    go_simp
    refine hK.out _ _ (fun _=>hS3) (fun _=>?_);clear hK K
    (try simp only[Act.put,sA,s0,sS])
    refine tD 20 ?_;have hgC:=(HB3.o.block g hgr).trans HC.o.1;have fG:w3.frozen? (aD g (k*4+3))=false:=zf hgC
    have HE:Hid (zaR lo (w3.setCell (aD g (k*4+3)) (.i (wrap64 (b.ls[k].fr+qm l.ss o b.ls[k].rs)))) own (some (aD g 0)) b.ls.length (zbT l o b.ls (k+1))/\Left (fun q=>(own q).1=2) W0 (w3.setCell (aD g (k*4+3)) (.i (wrap64 (b.ls[k].fr+qm l.ss o b.ls[k].rs))))):=
     ⟨((HQ.o.1.mono HB3.o).cell k hlt _).same (fun i _=>zmG hlt hu i),(HQ.o.2.trans (Left.of_below _ HB3.o)).set (by rw[HC.o.2.1]) _ _⟩
    refine cD 21 fun K hK=>?_
    go_simp
    refine hK.out _ _ (fun h=>absurd (by decide) h) (fun H_=>?_);clear hK K
    (try simp only[Act.put,sA,s0,sS])
    refine zfy (by kernel_rfl) ?_ _;go_wp2
    exact⟨⟨k+1,by omega,by go_num,HE.o⟩,zi hlt⟩
  ·obtain rfl:k=b.ls.length:=by omega
   have HE:Hid (BkB lo hi x wr own { b with ls:=b.ls.map (ze0 l o) } d0 d1 d2 d3 e0 e1 e2 e3/\Left (fun q=>(own q).1=2) w wr):=by
    refine⟨⟨?_,⟨HB0.o.1.bk.os.left HQ.o.2 (fun k hk=>by omega),HB0.o.1.bk.gs.left HQ.o.2 (fun k hk=>by omega),?_,HB0.o.1.bk.ps.left HQ.o.2 (fun k hk=>by omega),HB0.o.1.bk.out,HB0.o.1.bk.le,Nat.le_trans HB0.o.1.bk.hi hzr⟩,HB0.o.1.out⟩,(Left.of_below _ HB0.o.2).trans HQ.o.2⟩
    ·rw[(HQ.o.2.out x (by omega) hx2).trans HKK.o.2.2.2];simp[bC]
    ·show zaR lo wr own d2 (b.ls.map _).length _
     rw[List.length_map];exact HQ.o.1.same (fun i hi=>zm8 l o b.ls i hi)
   go_wp2_with fail
   exact bodyPost_end (results_none rfl _ _ _) rfl ⟨rfl,HE.o⟩
theorem zoy (l:Lw)(os:List Ob)(o:Ob):(os.any fun p=>p.en&&names l o p 3)=zcd l os o:=by
 rw[Bool.eq_iff_iff];unfold names zaQ zcd;simp only[List.any_eq_true,Bool.and_eq_true,decide_eq_true_eq]
 constructor
 ·rintro⟨p,hp,he,x,hx,hr,ho⟩;exact⟨x,hx,hr,p,hp,he,ho⟩
 ·rintro⟨x,hx,hr,p,hp,he,ho⟩;exact⟨p,hp,he,x,hx,hr,ho⟩
theorem zq3 (l:Lw)(la lb lc:OA)(lca lcb lcc:Nat)(b:Bk)(a0 a1 a2 a3:OA)(c0 c1 c2 c3:Nat)(w:World)(hl:qp w l la lb lc)(hb:qj w b a0 a1 a2 a3)(hok:yj l.ss l.ms=true)(hob:zM l b=true)(hfw:∀i (h:i<b.os.length),b.os[i].vs.length<=1048576) :
 Calls Tryz.prog 67 #[.agg (lC l la lb lc lca lcb lcc),.agg (bC b a0 a1 a2 a3 c0 c1 c2 c3)] w fun e w'=>∃v,e=.returned v/\w'.ownsRow w.heap.size 3 1 v (marks l b.os).length (ints (marks l b.os))/\Bw w w':=by
 obtain⟨i0,hi,hzi0,hz1',hz2⟩:=info_parts Tryz.zdo;have HK:Hid (qj w b a0 a1 a2 a3):=hb;have HL:Hid (qp w l la lb lc):=hl;have HO:Hid (b.os.length<=40/\∀k (h:k<b.os.length),zq l.ss b.os[k]=true):=zdM hok hob;have HW:Hid (∀i (h:i<b.os.length),b.os[i].vs.length<=1048576):=hfw;clear hb hl hok hob hfw;go_in;go_wp2_with fail
 obtain⟨hA,hB,hC⟩:=zmi w (.cells (lC l la lb lc lca lcb lcc) 47) (.cells (bC b a0 a1 a2 a3 c0 c1 c2 c3) 40) (.cells #[] 3);have HB0:Hid (Bw w (((w.alloc (.cells (lC l la lb lc lca lcb lcc) 47)).alloc (.cells (bC b a0 a1 a2 a3 c0 c1 c2 c3) 40)).alloc (.cells #[] 3))):=below3' w _ _ _;obtain⟨W0,hW0⟩:=xN (((w.alloc (.cells (lC l la lb lc lca lcb lcc) 47)).alloc (.cells (bC b a0 a1 a2 a3 c0 c1 c2 c3) 40)).alloc (.cells #[] 3));have hz0:w.heap.size+1+1<W0.heap.size:=by rw[hW0];simp
 rw[<- hW0]at HB0 hA hB hC ⊢;clear hW0;have hL0:=yP hA;have hX0:=yP hB;have HR0:Hid (W0.ownsRow (w.heap.size+1+1) 3 1 (.l (some (aD (w.heap.size+1+1) 0)) 0 0) 0 (ints [])):=⟨rfl,.inr ⟨w.heap.size+1+1,0,#[],rfl,Nat.le_refl _,hC,Nat.le_refl _,by simp[maxLen],rfl,rfl⟩⟩
 clear hA hB hC
 go_loopw [5,6] (fun v0 iv wr=>∃(k:Nat) (v:Value),v=v0/\k<=b.os.length/\iv=.i k/\Hid (wr.ownsRow (w.heap.size+1+1) 3 1 v (yN l b.os k).length (ints (yN l b.os k))/\Below (w.heap.size+1+1) W0 wr)) (fun _ iv _=>b.os.length-(intOf iv).toNat)
 case atStart=>exact⟨0,_,rfl,Nat.zero_le _,rfl,HR0.o,bRf _ _⟩
 case round=>
  obtain⟨k,v,hv,hk,rfl,HQ⟩:=hrel;subst hv;have hkn:k<=40:=by have:=HO.o.1;omega
  have hX1:∀j,wr.cell? (aD (w.heap.size+1) j)=(bC b a0 a1 a2 a3 c0 c1 c2 c3)[j]?:=fun j=>(HQ.o.2.cell (p:=(aD (w.heap.size+1) j)) (Nat.lt_succ_self _)).trans (hX0 j)
  have hL1:∀j,wr.cell? (aD w.heap.size j)=(lC l la lb lc lca lcb lcc)[j]?:=fun j=>(HQ.o.2.cell (p:=(aD w.heap.size j)) (by show w.heap.size<_;omega)).trans (hL0 j)
  have hz1:w.heap.size+1+1<wr.heap.size:=nLt hz0 HQ.o.2.size;have hy1:=nSl hz1;have hq1:=nSl hy1;have HBr:Hid (Bw w wr):=HB0.o.trans (HQ.o.2.mono (by omega));obtain⟨W1,hW1⟩:=xN (wr);rw[<- hW1]at HQ hX1 hL1 hz1 hy1 hq1 HBr ⊢;clear hW1
  by_cases hlt:k<b.os.length
  ·have hltI:(k:Int)<(b.os.length:Int):=by omega
   go_wp2
   go_loopw [7,8] (fun f0 jv wi=>∃m:Nat,m<=b.os.length/\jv=.i m/\f0=.bool ((b.os.take m).any fun p=>p.en&&names l b.os[k] p 3)/\Bw W1 wi) (fun _ jv _=>b.os.length-(intOf jv).toNat)
   case atStart=>exact⟨0,Nat.zero_le _,rfl,rfl,bRf _ _⟩
   case round=>
    obtain⟨m,hm,rfl,rfl,hBm⟩:=hrel;have hmn:m<=40:=by have:=HO.o.1;omega
    have hX2:=za hX1 hy1 hBm;have hL2:=za hL1 hq1 hBm;have hy2:=nLt hy1 hBm.size;have hq2:=nLt hq1 hBm.size;have HBm:Hid (Bw W1 wr):=hBm;have HBw:Hid (Bw w wr):=HBr.o.trans (hBm.mono HBr.o.size);clear hBm
    by_cases hml:m<b.os.length
    ·have hmI:(m:Int)<(b.os.length:Int):=by omega
     have HSn:Hid (((b.os.take (m+1)).any fun p=>p.en&&names l b.os[k] p 3)=(((b.os.take m).any fun p=>p.en&&names l b.os[k] p 3)||(b.os[m].en&&names l b.os[k] b.os[m] 3))):=zdK _ b.os m hml;have hcall:=zfI l la lb lc lca lcb lcc b a0 a1 a2 a3 c0 c1 c2 c3 k m 3 wr (HL.o.mono HBw.o) (HK.o.mono HBw.o) hlt hml (HO.o.2 k hlt) (HW.o k hlt);obtain⟨ob,off,v0,v1,q0,q1,rfl,hob,_,_,_,d0,d1,d2,d3,d4,d5,d6⟩:=HK.o.os.load HBw.o m hml;have hob':ob<wr.heap.size:=nLt hob HBw.o.size;clear d0 d1 d2 d3 d5 d6 hX1 hL1;obtain⟨fl,hfl⟩:=xN (((b.os.take m).any fun p=>p.en&&names l b.os[k] p 3));rw[<- hfl]at HSn ⊢;clear hfl
     cases he:b.os[m].en with
     | false=>
      rw[he]at d4;have HS:Hid (((b.os.take (m+1)).any fun p=>p.en&&names l b.os[k] p 3)=fl):=by rw[Hid,HSn.o,he];simp
      clear hcall;go_wp2
      exact⟨⟨m+1,by omega,by go_num,by rw[HS.o],HBm.o⟩,by simp[intOf];omega⟩
     | true=>
      rw[he]at d4;go_wp2_with fail
      refine hcall.mono ?_;rintro e w3⟨rfl,hb3⟩;have HB3:Hid (Bw W1 w3):=HBm.o.trans (hb3.mono HBm.o.size);clear hb3 hcall d4 hob'
      cases hnm:names l b.os[k] b.os[m] 3 with
      | false=>
       have HS:Hid (((b.os.take (m+1)).any fun p=>p.en&&names l b.os[k] p 3)=fl):=by rw[Hid,HSn.o,hnm];simp
       go_wp2
       exact⟨⟨m+1,by omega,by go_num,by rw[HS.o],HB3.o⟩,by simp[intOf];omega⟩
      | true=>
       have HS:Hid (((b.os.take (m+1)).any fun p=>p.en&&names l b.os[k] p 3)=true):=by rw[Hid,HSn.o,hnm,he];simp
       go_wp2
       exact⟨⟨m+1,by omega,by go_num,by rw[HS.o],HB3.o⟩,by simp[intOf];omega⟩
    ·have e:m=b.os.length:=by omega
     subst e;have HOw:Hid (((b.os.take b.os.length).any fun p=>p.en&&names l b.os[k] p 3)=zcd l b.os b.os[k]):=by rw[Hid,tOl (Nat.le_refl _)];exact zoy l b.os b.os[k]
     rw[HOw.o];obtain⟨ob,off,v0,v1,q0,q1,rfl,hob,_,_,_,d0,d1,d2,d3,d4,d5,d6⟩:=HK.o.os.load HBw.o k hlt;have hob':ob<wr.heap.size:=nLt hob HBw.o.size;have HQ3:Hid (wr.ownsRow (w.heap.size+1+1) 3 1 v (yN l b.os k).length (ints (yN l b.os k))/\Below (w.heap.size+1+1) W0 wr):=⟨yc HQ.o.1 HBm.o,HQ.o.2.trans (HBm.o.mono (by omega))⟩
     have HLL:Hid ((yN l b.os k).length<=40):=by have:=zhY l b.os k;have:=HO.o.1;show _<=_;omega
     clear d0 d1 d2 d3 d5 d6 hX1 hL1
     cases he:b.os[k].en with
     | true=>
      rw[he]at d4;have HS:Hid (yN l b.os (k+1)=yN l b.os k):=zla hlt he;go_wp2
      exact⟨⟨k+1,_,rfl,by omega,by go_num,by rw[HS.o];exact HQ3.o.1,HQ3.o.2⟩,zi hlt⟩
     | false=>
      rw[he]at d4
      by_cases how:zcd l b.os b.os[k]=true
      rotate_left
      ·have HS:Hid (yN l b.os (k+1)=yN l b.os k):=znb hlt (by simpa using how)
       rw[bFi how];go_wp2
       exact⟨⟨k+1,_,rfl,by omega,by go_num,by rw[HS.o];exact HQ3.o.1,HQ3.o.2⟩,zi hlt⟩
      ·have HS:Hid (yN l b.os (k+1)=yN l b.os k++[(k:Int)]):=zk5 hlt he how
       rw[how]
       go_wp2_with (at_builtin;refine wpList_append_own _ rfl (.tmp 47) (.tmp 49) 71 rfl (w.heap.size+1+1) 3 i0 (.i 0) 1 8 Tryz.underlying71 hi hzi0 hz1' hz2 rfl (by decide) _ _ _ rfl (HQ3.o.1.alloc _) (aD wr.heap.size 0) 1 1 [.i (k:Int)] rfl rfl (zbA _ _ _) (by intro u hu;simp at hu;subst hu;rfl) (by have:=HLL.o;unfold maxLen;omega) (by have:=HLL.o;omega) (by have:=HQ3.o.2.size;simp;omega) ?_;intro v' w4 hown' hgr _)
       have hgb:∀g',v.ownBlock=some g'->w.heap.size+1+1<=g':=fun g' hg'=>(HQ3.o.1.lt g' hg').1
       refine⟨⟨k+1,_,rfl,by omega,by go_num,?_,zar HQ3.o.2 (by omega) hgr hgb⟩,zi hlt⟩;rw[HS.o,List.length_append];have e1:ints (yN l b.os k++[(k:Int)])=ints (yN l b.os k)++[.i (k:Int)]:=by simp[ints]
       rw[e1];exact hown'
  ·have e:k=b.os.length:=by omega
   subst e;have HV:Hid (W1.ownsRow w.heap.size 3 1 v (marks l b.os).length (ints (marks l b.os))/\Bw w W1):=⟨jU HQ.o.1 (by omega),HBr.o⟩
   clear HQ hlt hk;go_wp2
   go_ret;exact⟨v,rfl,HV.o⟩
end Go.Proofs.YtjnpjkigofldlaaGreat
