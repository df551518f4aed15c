import Derived.Test.YthdfpinbnncghaaGreatM23
set_option maxHeartbeats 4000000
namespace Go.Proofs.YthdfpinbnncghaaGreat
open Go.RowKit
def zsy:Ob:=⟨ByteArray.empty,ByteArray.empty,ByteArray.empty,[],false,[],0⟩
def zbS (l:Lw)(team res:BA)(o:Ob):Int:=if under l.ts 4 o.tm team=true then je l.ss o res else 0
def zaN (l:Lw)(os:List Ob)(team res:BA):Nat->Int
 | 0=>0
 | k+1=>zaN l os team res k+zbS l team res (os.getD k zsy)
def used (l:Lw)(os:List Ob)(team res:BA):Int:=zaN l os team res os.length
theorem zp8 (ss:List Shp)(o:Ob)(res:BA):0<=je ss o res/\je ss o res<=1+o.sz*10000000:=by
 have h0:o.vs.length<=o.sz:=by unfold Ob.sz zef yQ;omega
 unfold je
 split
 ·rename_i hc
  have hc1:=hc.1;unfold zH at hc1;simp only[Bool.and_eq_true,decide_eq_true_eq]at hc1
  have:=zc2 (shapeOf ss o.kd).fs o.vs res (shapeOf ss o.kd).fs.length
  have h3:=hc1.2
  split <;> omega
 ·omega
theorem zl8 (l:Lw)(team res:BA)(o:Ob):0<=zbS l team res o/\zbS l team res o<=1+o.sz*10000000:=by
 unfold zbS
 split
 ·exact zp8 _ _ _
 ·omega
theorem zgd (l:Lw)(os:List Ob)(team res:BA)(k:Nat)(h:k<os.length):zaN l os team res (k+1)=zaN l os team res k+zbS l team res os[k]:=by
 have e1:os.getD k zsy=os[k]:=by simp[List.getD,h]
 simp only[zaN];rw[e1]
theorem zcr (l:Lw)(os:List Ob)(team res:BA):∀k,k<=os.length->0<=zaN l os team res k/\zaN l os team res k<=k+zbm (os.take k)*10000000
 | 0,_=>by simp[zaN,zbm]
 | k+1,h=>by
  have h1:=zcr l os team res k (by omega);have h2:=zl8 l team res os[k];have h3:zbm (os.take (k+1))=zbm (os.take k)+os[k].sz:=zas Ob.sz os k h;rw[zgd l os team res k h,h3];omega
theorem zmi (l:Lw)(la lb lc:OA)(lca lcb lcc:Nat)(b:Bk)(a0 a1 a2 a3:OA)(c0 c1 c2 c3:Nat)(team res:BA)(w:World)(hl:yH w l la lb lc)(hb:jU w b a0 a1 a2 a3)(hz:qR b.os<=1048576) :
 Calls Tryz.prog 225 #[.agg (l.cells la lb lc lca lcb lcc),.agg (b.cells a0 a1 a2 a3 c0 c1 c2 c3),.s team,.s res] w fun e w'=>e=.returned (.i (used l b.os team res))/\Bw w w':=by
 have HL:Hid (yH w l la lb lc):=hl;have HK:Hid (jU w b a0 a1 a2 a3):=hb;have HZ:Hid (qR b.os<=1048576/\b.os.length<=1048576):=⟨hz,by unfold qR at hz;omega⟩
 clear hl hb hz;unfold Lw.cells Bk.cells;go_enter Tryz.func225,Tryz.ntmps225;go_wp2_with fail
 obtain⟨hX0,hY0⟩:=jC w #[.l la l.ss.length lca,.l lb l.ms.length lcb,.l lc l.ts.length lcc] (bC b a0 a1 a2 a3 c0 c1 c2 c3) 44 51;have HB0:Hid (Bw w ((w.alloc (.cells #[.l la l.ss.length lca,.l lb l.ms.length lcb,.l lc l.ts.length lcc] 44)).alloc (.cells (bC b a0 a1 a2 a3 c0 c1 c2 c3) 51))):=zx w _ _;obtain⟨W0,hW0⟩:=xN ((w.alloc (.cells #[.l la l.ss.length lca,.l lb l.ms.length lcb,.l lc l.ts.length lcc] 44)).alloc (.cells (bC b a0 a1 a2 a3 c0 c1 c2 c3) 51));have hz0:w.heap.size+1<W0.heap.size:=by rw[hW0];simp
 rw[<- hW0]at HB0 hX0 hY0 ⊢;clear hW0
 go_loopw [9,15] (fun nv iv wr=>∃(k:Nat) (s:Int),k<=b.os.length/\iv=.i k/\nv=.i s/\Hid (s=zaN l b.os team res k/\Bw W0 wr)) (fun _ iv _=>b.os.length-(intOf iv).toNat)
 case atStart=>exact⟨0,0,Nat.zero_le _,rfl,rfl,by simp[zaN],bRf _ _⟩
 case round=>
  obtain⟨k,s,hk,rfl,rfl,HQ⟩:=hrel
  have hsb:0<=s/\s<=20000000000000:=by
   have h1:=HQ.o.1;have h2:=zcr l b.os team res k hk;have h3:=HZ.o;have h4:zbm (b.os.take k)<=zbm b.os:=zbO Ob.sz b.os k;unfold qR at h3;omega
  have hkn:k<=1048576:=by have:=HZ.o.2;omega
  by_cases hlt:k<b.os.length
  ·obtain⟨ob,off,v0,v1,q0,q1,rfl,hob,hsm,hl0,hl1,d0,d1,d2,d3,d4,d5,d6⟩:=HK.o.os.load (HB0.o.trans (HQ.o.2.mono HB0.o.size)) k hlt
   have hob':=nLt hob (HB0.o.trans (HQ.o.2.mono HB0.o.size)).size;have hltI:(k:Int)<(b.os.length:Int):=by omega
   have hX:=za hX0 (nSl hz0) HQ.o.2;have hz:=nLt hz0 HQ.o.2.size;have hzX:=nSl hz;have HSt:=hid (zgd l b.os team res k hlt);have HOo:Hid (zab wr b.os[k] v0 v1):=⟨hsm,hl0,hl1⟩
   have HOl:Hid (b.os[k].vs.length<=1048576):=by
    have h3:=HZ.o.1
    have:=(zmy (left:=1048576) (ms:=b.os) (by omega) (by omega)).2 k hlt
    exact this.1
   have hub:=zl8 l team res b.os[k];have hwb:=zgS l.ss b.os[k] res HOl.o;clear hsm hl0 hl1 hub;go_wp2_with fail
   have hb1:Bw wr (wr.alloc (.cells #[.s b.os[k].kd,.s b.os[k].nm,.s b.os[k].tm,.l v0 b.os[k].vs.length q0,.bool b.os[k].en,.l v1 b.os[k].hs.length q1,.i b.os[k].vr] 145)):=bAl _ _;have hN:=zn wr #[.s b.os[k].kd,.s b.os[k].nm,.s b.os[k].tm,.l v0 b.os[k].vs.length q0,.bool b.os[k].en,.l v1 b.os[k].hs.length q1,.i b.os[k].vr] 145;obtain⟨w1,hw1⟩:=xN (wr.alloc (.cells #[.s b.os[k].kd,.s b.os[k].nm,.s b.os[k].tm,.l v0 b.os[k].vs.length q0,.bool b.os[k].en,.l v1 b.os[k].hs.length q1,.i b.os[k].vr] 145));have hn1:wr.heap.size<w1.heap.size:=by rw[hw1];simp
   rw[<- hw1]at hb1 hN ⊢;clear hw1 d0 d1 d2 d3 d4 d5 d6;have HB1:=hid (HQ.o.2.trans (hb1.mono HQ.o.2.size));have hX1:=za hX (nSl hz) hb1;have HO1:=hid (HOo.o.mono hb1);have hz1:=Nat.lt_trans hz hn1;clear hb1 hX;refine(zan _ _ l.ts b.os[k].tm team _ (HL.o.ts.mono (HB0.o.trans (HB1.o.mono HB0.o.size)))).mono ?_;rintro e w2⟨rfl,hb2⟩;have HB2:=hid (HB1.o.trans (hb2.mono HB1.o.size));have hX2:=za hX1 (nSl hz1) hb2;have hN2:=za hN hn1 hb2;have HO2:=hid (HO1.o.mono hb2);have hz2:=nLt hz1 hb2.size;have hn2:=nLt hn1 hb2.size;clear hb2 hX1 hN
   by_cases hu:under l.ts 4 b.os[k].tm team=true
   ·have HU:Hid (zbS l team res b.os[k]=je l.ss b.os[k] res):=by unfold Hid zbS;rw[if_pos hu]
    rw[hu];clear hu;go_wp2_with fail
    refine(zjF l _ _ _ _ _ _ b.os[k] _ _ _ _ res _ (HL.o.mono (HB0.o.trans (HB2.o.mono HB0.o.size))) HO2.o HOl.o).mono ?_;rintro e w3⟨rfl,hb3⟩;have HB3:=hid (HB2.o.trans (hb3.mono HB2.o.size));clear hb3;go_wp2_with fail
    exact⟨⟨k+1,s+je l.ss b.os[k] res,by omega,by go_num,by go_num,by rw[HSt.o,HU.o,HQ.o.1],HB3.o⟩,zw hlt⟩
   ·have hu':under l.ts 4 b.os[k].tm team=false:=by simpa using hu
    have HU:Hid (zbS l team res b.os[k]=0):=by unfold Hid zbS;rw[if_neg hu]
    rw[hu'];clear hu hu';go_wp2_with fail
    exact⟨⟨k+1,s,by omega,by go_num,rfl,by rw[HSt.o,HU.o,HQ.o.1];omega,HB2.o⟩,zw hlt⟩
  ·have e:k=b.os.length:=by omega
   subst e;have HE:Hid (used l b.os team res=s):=by unfold Hid used;rw[HQ.o.1]
   clear hlt hk;go_wp2_with fail
   go_ret;exact⟨zk HE.o.symm,HB0.o.trans (HQ.o.2.mono HB0.o.size)⟩
theorem Tryz.znr:(Tryz.prog.info? 74).map (fun i=>(i.zero,i.size,i.bytes))=some (some (.agg #[.l none 0 0,.s ByteArray.empty,.s ByteArray.empty,.s ByteArray.empty]),4,72):=by kernel_rfl
abbrev RlP:=Rl × OA × Nat
def zbp:List RlP->List Value
 | []=>[]
 | p :: ps=>(p.1.cells p.2.1 p.2.2).toList++zbp ps
theorem ze2:∀a b:List RlP,zbp (a++b)=zbp a++zbp b
 | [],_=>rfl
 | p :: a,b=>by show _++zbp (a++b)=(_++zbp a)++zbp b;rw[ze2 a b,List.append_assoc]
theorem zkl:∀(ps:List RlP) (i:Nat) (h:i<ps.length) (j:Nat),j<4->(zbp ps)[i*4+j]?=(ps[i].1.cells ps[i].2.1 ps[i].2.2)[j]?
 | [],i,h,_,_=>by simp at h
 | p :: ps,0,_,j,hj=>by
  show((p.1.cells p.2.1 p.2.2).toList++zbp ps)[0*4+j]?=_
  have hl:(p.1.cells p.2.1 p.2.2).toList.length=4:=rfl;rw[List.getElem?_append_left (by omega),Nat.zero_mul,Nat.zero_add,Array.getElem?_toList];rfl
 | p :: ps,i+1,h,j,hj=>by
  show((p.1.cells p.2.1 p.2.2).toList++zbp ps)[(i+1)*4+j]?=_
  have hl:(p.1.cells p.2.1 p.2.2).toList.length=4:=rfl;rw[List.getElem?_append_right (by omega),hl,show(i+1)*4+j-4=i*4+j by omega,zkl ps i (by simpa using h) j hj];rfl
def za7 (w0:World)(lo:Nat)(w:World)(v:Value)(rs:List Rl):Prop:=
 ∃ps:List RlP,ps.map (·.1)=rs/\(∀p∈ps,p.1.Small/\yJ w0 p.2.1 p.1.vs)/\w.ownsRow lo 74 4 v ps.length (zbp ps)
theorem za7.nil (w0:World)(lo:Nat)(w:World):za7 w0 lo w (.l none 0 0) []:=⟨[],rfl,(fun _ h=>by cases h),World.ownsRow_nil _ _ _ _⟩
theorem za7.at {w0:World}{lo:Nat}{w:World}{v:Value}{rs:List Rl}(h:za7 w0 lo w v rs)(hb:Bw w0 w)(hl:rs.length<=maxLen):∃a cap,v=.l a rs.length cap/\zcC w a rs:=by
 obtain⟨ps,h1,h2,h3⟩:=h;have hn:ps.length=rs.length:=by rw[<- h1,List.length_map]
 obtain⟨_,⟨h0,hz⟩|⟨g,cp,cur,h0,h4⟩⟩:=id h3
 ·refine⟨none,0,by rw[h0,<- hn,hz],hl,fun hne=>?_⟩
  exact absurd (List.length_eq_zero_iff.1 (hn ▸ hz)) hne
 ·subst h0
  refine⟨_,cp,by rw[hn],hl,fun _=>⟨g,0,rfl,(h3.lt g rfl).2,fun i hi=>?_⟩⟩;have hi':i<ps.length:=by omega
  have he:rs[i]=ps[i].1:=by simp[<- h1]
  have hp:=h2 _ (List.getElem_mem hi');refine⟨ps[i].2.1,ps[i].2.2,?_,?_,fun j hj=>?_⟩
  ·rw[he];exact hp.1
  ·rw[he];exact hp.2.mono hb
  ·rw[he,Nat.zero_add,h3.cellAt (i*4+j) (by omega),zkl ps i hi' j hj]
theorem za7.snoc {w0:World}{lo:Nat}{w:World}{v:Value}{rs:List Rl}{ps:List RlP}{r:Rl}{a:OA}{cap:Nat}(h1:ps.map (·.1)=rs)(h2:∀p∈ps,p.1.Small/\yJ w0 p.2.1 p.1.vs)(hr:r.Small)(hi:yJ w0 a r.vs)
 (h3:w.ownsRow lo 74 4 v (ps.length+1) (zbp ps++[.l a r.vs.length cap,.s r.kd,.s r.tm,.s r.px])):za7 w0 lo w v (rs++[r]):=by
 refine⟨ps++[(r,a,cap)],by rw[List.map_append,h1];rfl,fun p hp=>?_,?_⟩
 ·rcases List.mem_append.1 hp with hp|hp
  ·exact h2 p hp
  ·obtain rfl:=List.mem_singleton.1 hp
   exact⟨hr,hi⟩
 ·rw[ze2,List.length_append]
  exact h3
theorem zlT (w:World)(x0 x1 x2 x3:Value)(t:TypeId):∀j u,[x0,x1,x2,x3][j]?=some u->(w.alloc (.cells #[x0,x1,x2,x3] t)).cell? (((aD w.heap.size 0):Addr).add j)=some u:=by
 intro j u hj
 have e:((aD w.heap.size 0):Addr).add j=(aD w.heap.size j):=by
  rcases j with _|j
  ·rfl
  ·simp[Addr.add]
 rw[e,World.cell?_alloc_at (hn:=rfl)]
 simpa using hj
theorem zgo {B:Nat}{w0 w w1:World}{v:Value}{o:Obj}(h:Below B w0 w)(hB:B<=w.heap.size)(hg:(w.alloc o).grownBy w1 v.ownBlock)(hr:∀k,v.ownBlock=some k->B<=k):Below B w0 w1:=
 (h.alloc hB _).grown hg (by simp;omega) hr
theorem zk8 (ta:OA)(tcap:Nat)(ts:List Tm)(ra:OA)(rcap:Nat)(rs:List Rl)(r:Rl)(a:OA)(cap:Nat)(w:World)(hw:jB w ta ts)(hr:zcC w ra rs)(hm:r.Small)(hi:yJ w a r.vs)(hv:yZ r.vs=true)(hrs:zep rs=true) :
 Calls Tryz.prog 39 #[.l ta ts.length tcap,.l ra rs.length rcap,.agg (r.cells a cap)] w fun e w'=>e=.returned (.int .u8 (j3 ts rs r))/\Bw w w':=by
 have hl:=hr.len;unfold maxLen at hl
 have HVS:Hid (∀i (h:i<rs.length),yZ rs[i].vs=true):=fun i h=>by
  unfold zep at hrs;rw[List.all_eq_true]at hrs;exact zgW (hrs _ (List.getElem_mem h))
 have HT:Hid (jB w ta ts):=hw;have HR:Hid (zcC w ra rs):=hr;have HM:Hid r.Small:=hm;have HI:Hid (∀ob,yJ (w.alloc ob) a r.vs):=fun ob=>hi.mono (bAl _ _)
 clear hw hr hm hi hrs;unfold Rl.cells;go_enter Tryz.func39,Tryz.ntmps39
 go_wp2_with (go_at_call 77;refine(zis _ _ r.vs _ (HI.o _) hv).mono ?_;rintro e w'⟨rfl,rfl⟩)
 have hB0:Bw w (w.alloc (.cells #[.l a r.vs.length cap,.s r.kd,.s r.tm,.s r.px] 74)):=bAl _ _;have hX0:=zn w #[.l a r.vs.length cap,.s r.kd,.s r.tm,.s r.px] 74;obtain⟨W0,hW0⟩:=xN (w.alloc (.cells #[.l a r.vs.length cap,.s r.kd,.s r.tm,.s r.px] 74));have hz0:w.heap.size<W0.heap.size:=by rw[hW0];simp
 rw[<- hW0]at hB0 hX0 ⊢;clear hW0
 go_loopw [7,15] (fun s i wr=>∃k:Nat,k<=rs.length/\i=.i k/\s=.int .u8 (j3 ts (rs.take k) r)/\Bw W0 wr) (fun _ i _=>rs.length-(intOf i).toNat)
 case atStart=>exact⟨0,Nat.zero_le _,rfl,by rw[List.take_zero,zqy],bRf _ _⟩
 case round=>
  obtain⟨k,hk,rfl,rfl,hB1⟩:=hrel;have hB2:=hB0.trans (hB1.mono (by omega));have hX2:=za hX0 hz0 hB1;have hz2:=nLt hz0 hB1.size;clear hX0
  by_cases hlt:k<rs.length
  ·obtain⟨b,off,va,vcap,rfl,hb,hsm,hI,c0,c1,c2,c3⟩:=HR.o.load hB2 k hlt
   have hltI:(k:Int)<(rs.length:Int):=by omega
   have hbr:b<wr.heap.size:=nLt hb hB2.size;have HS:Hid (j3 ts (rs.take (k+1)) r=zr3 (j3 ts (rs.take k) r) (qV ts rs[k] r.kd r.tm r.px)):=zqu ts rs r k hlt;go_wp2_with fail
   have hb3:Bw wr (wr.alloc (.cells #[.l va rs[k].vs.length vcap,.s rs[k].kd,.s rs[k].tm,.s rs[k].px] 74)):=bAl _ _;have hY0:=zn wr #[.l va rs[k].vs.length vcap,.s rs[k].kd,.s rs[k].tm,.s rs[k].px] 74;obtain⟨W3,hW3⟩:=xN (wr.alloc (.cells #[.l va rs[k].vs.length vcap,.s rs[k].kd,.s rs[k].tm,.s rs[k].px] 74));have hy0:wr.heap.size<W3.heap.size:=by rw[hW3];simp
   rw[<- hW3]at hb3 hY0 ⊢;clear hW3 c0 c1 c2 c3;have hX:=za (za hX2 hz2 hb3) (by omega) (bRf W3.heap.size W3).drew;have hY:=za hY0 hy0 (bRf W3.heap.size W3).drew;have hz:w.heap.size<W3.drew.heap.size:=nLt hz2 hb3.size;have hy:wr.heap.size<W3.drew.heap.size:=hy0;have hB:=(hB1.trans (hb3.mono hB1.size)).drew;have hBw:=(hB2.trans (hb3.mono hB2.size)).drew;have hIq:=(hI.mono hb3).mono (bRf W3.heap.size W3).drew;clear hX2 hY0 hy0 hb3 hB2 hz2 hI hB1
   go_region_held3 (fun w'=>(∀j,w'.cell? (aD w.heap.size j)=(#[.l a r.vs.length cap,.s r.kd,.s r.tm,.s r.px]:AV)[j]?)/\∀j,w'.cell? (aD wr.heap.size j)=(#[.l va rs[k].vs.length vcap,.s rs[k].kd,.s rs[k].tm,.s rs[k].px]:AV)[j]?) (exact⟨hX,hY⟩) (first
    | (go_at_call 78;refine(zm6 _ _ ts rs[k] _ _ _ (by exact hIq) (HVS.o k hlt)).mono ?_;rintro e w3⟨rfl,hb⟩;have hX:=za hX hz hb;have hY:=za hY hy hb;have hB:=hB.trans (hb.mono hB.size);have hBw:=hBw.trans (hb.mono hBw.size);have hz:=nLt hz hb.size;have hy:=nLt hy hb.size;clear hb)
    | (go_at_call 125;refine(zmN _ _ ts rs[k] _ _ r.kd r.tm r.px _ (by exact HT.o.mono hBw) hsm HM.o.px).mono ?_;rintro e w4⟨rfl,hb⟩;have hX:=za hX hz hb;have hY:=za hY hy hb;have hB:=hB.trans (hb.mono hB.size);have hBw:=hBw.trans (hb.mono hBw.size);have hz:=nLt hz hb.size;have hy:=nLt hy hb.size;clear hb))
   go_wp2_with fail
   exact⟨⟨k+1,by omega,by go_num,by rw[HS.o];rfl,hB⟩,by simp[intOf];omega⟩
  ·have HF:Hid (j3 ts (rs.take k) r=j3 ts rs r):=by unfold Hid;rw[tOl (by omega)]
   go_wp2_with fail
   go_ret;exact⟨zk HF.o,hB2⟩
end Go.Proofs.YthdfpinbnncghaaGreat
