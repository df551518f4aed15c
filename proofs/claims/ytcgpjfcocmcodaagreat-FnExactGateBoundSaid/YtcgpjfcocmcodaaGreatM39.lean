import Derived.Lib.SliceRun
import Derived.Test.YtcgpjfcocmcodaaGreatM36
import Derived.Test.YtcgpjfcocmcodaaGreatM38
set_option maxHeartbeats 4000000
namespace Go.Proofs.YtcgpjfcocmcodaaGreat
open Go.RowKit
theorem jG {t:TypeId}{b:Nat}:∀(vs:List Value) (o:Nat) (w:World) (C:AV),w.heap[b]?=some (.cells C t)->o+vs.length<=C.size->∃C',(w.setCells b o vs).heap[b]?=some (.cells C' t)/\C'.size=C.size/\(∀j,j<vs.length->C'[o+j]?=vs[j]?)/\∀x,(x<o \/ o+vs.length<=x)->C'[x]?=C[x]?
 | [],_,_,C,h,_=>⟨C,h,rfl,fun j hj=>by simp at hj,fun _ _=>rfl⟩
 | v :: r,o,w,C,h,hs=>by
  simp only[List.length_cons]at hs;obtain⟨C',h1,h2,h3,h4⟩:=jG r (o+1) (w.setCell (aD b o) v) _ (zi h v) (by simp;omega);refine⟨C',h1,h2.trans (by simp),fun j hj=>?_,fun x hx=>?_⟩
  ·cases j with
   | zero=>
    rw[h4 _ (by omega),Nat.add_zero,Array.getElem?_setIfInBounds,if_pos rfl,if_pos (by omega)]
    rfl
   | succ j=>
    rw[show o+(j+1)=o+1+j by omega,h3 j (by simpa using hj)]
    rfl
  ·simp only[List.length_cons]at hx
   rw[h4 x (by omega),Array.getElem?_setIfInBounds,if_neg (by omega)]
def zbl (ss:List Shp)(m:Mnd):Bool:=zJ ss m.kd&&yF (shapeOf ss m.kd).fs m
def zcm (ms:List Mnd)(s:Shp):Bool:=decide ((yj s ms s.fs.length).length=s.fs.length)
def jr (ss:List Shp)(ms:List Mnd):Bool:=zZ ss&&decide (ms.length<=12)&&ms.all (zbl ss)&&ss.all (zcm ms)
theorem zmd (a:OA)(cap:Nat)(ss:List Shp)(m:Mnd)(w:World)(hw:yT w a ss)(hm:m.Small) :
 Calls Tryz.prog 156 #[.l a ss.length cap,.agg m.cells] w fun e w'=>e=.returned (.bool (zbl ss m))/\Bw w w':=by
 by_cases hk:zJ ss m.kd=true
 ·refine(zmv a cap ss m w hw hm hk).mono ?_
  rintro e w'⟨rfl,hb⟩;exact⟨by unfold zbl;rw[hk];rfl,hb⟩
 ·have hkf:zJ ss m.kd=false:=by simpa using hk
  have HF:Hid (zbl ss m=false):=by unfold Hid zbl;rw[hkf];rfl
  unfold Mnd.cells;have hba:=(bRf w.heap.size w).alloc (Nat.le_refl _) (.cells #[.s m.kd,.s m.fd,.s m.wh,.s m.wi,.s m.pt,.s m.fr] 136);go_enter Tryz.func156,Tryz.ntmps156;go_wp2_with fail
  refine(zeq _ _ _ _ _ (hw.mono hba) hkf).mono ?_;rintro e w1⟨rfl,rfl⟩;go_wp2_with fail
  go_ret;exact⟨by rw[HF.o];rfl,hba⟩
set_option maxRecDepth 20000 in
theorem zeF (a a':OA)(cap cap':Nat)(ss:List Shp)(ms:List Mnd)(w:World)(hw:yT w a ss)(hm:qL w a' ms) :
 Calls Tryz.prog 116 #[.l a ss.length cap,.l a' ms.length cap'] w fun e w'=>e=.returned (.bool (jr ss ms))/\Bw w w':=by
 have HW:=ql hw hm;have hl:=hw.len;have hml:=hm.len;unfold maxLen at hl hml;clear hw hm
 by_cases hok:zZ ss=true
 rotate_left
 ·have hokf:zZ ss=false:=by simpa using hok
  have HF:Hid (jr ss ms=false):=by unfold Hid jr;rw[hokf];simp
  go_enter Tryz.func116,Tryz.ntmps116;go_wp2_with fail
  have h:=zb2 a cap ss w HW.o.1;rw[hokf]at h;refine h.mono ?_;rintro e w1⟨rfl,hb1⟩;clear h;go_wp2_with fail
  go_ret;exact⟨by rw[HF.o];rfl,hb1⟩
 have HOK:=hid hok
 by_cases h12:ms.length<=12
 rotate_left
 ·have HF:Hid (jr ss ms=false):=by unfold Hid jr;rw[decide_eq_false h12];simp
  go_enter Tryz.func116,Tryz.ntmps116;go_wp2_with fail
  have h:=zb2 a cap ss w HW.o.1;rw[hok]at h;refine h.mono ?_;rintro e w1⟨rfl,hb1⟩;clear h hok;go_wp2_with fail
  go_ret;exact⟨by rw[HF.o];rfl,hb1⟩
 have h12I:(ms.length:Int)<=12:=by omega
 go_enter Tryz.func116,Tryz.ntmps116;go_wp2_with fail
 have h:=zb2 a cap ss w HW.o.1;rw[hok]at h;refine h.mono ?_;rintro e w1⟨rfl,hb1⟩;have HB1:=hid hb1;clear h hok hb1;go_wp2_with fail
 go_loopw [5] (fun iv wr=>∃k:Nat,k<=ms.length/\iv=.i k/\(ms.take k).all (zbl ss)=true/\Bw w wr) (fun iv _=>ms.length-(intOf iv).toNat)
 case atStart=>exact⟨0,Nat.zero_le _,rfl,rfl,HB1.o⟩
 case round=>
  obtain⟨k,hk,rfl,hall,hB⟩:=hrel;have HB:=hid hB;have HA:=hid hall;clear hall hB
  by_cases hlt:k<ms.length
  ·obtain⟨b,off,rfl,hb,c0,c1,c2,c3,c4,c5⟩:=HW.o.2.load HB.o k hlt
   have hltI:(k:Int)<(ms.length:Int):=by omega
   have HSM:=hid (HW.o.2.small k hlt)
   have HTK:Hid ((ms.take (k+1)).all (zbl ss)=zbl ss ms[k]):=by
    unfold Hid;rw[tSe hlt,List.all_append,HA.o];simp
   have HNO:Hid (zbl ss ms[k]=false->jr ss ms=false):=by
    intro h
    have:ms.all (zbl ss)=false:=by rw[List.all_eq_false];exact⟨_,List.getElem_mem hlt,by rw[h];simp⟩
    unfold jr;rw[this];simp
   go_wp2_with fail
   have h:=zmd a cap ss ms[k] wr (HW.o.1.mono HB.o) HSM.o
   rcases hh:zbl ss ms[k] with _|_
   ·rw[hh]at h
    refine h.mono ?_;rintro e w3⟨rfl,hb3⟩;have HF:=ql (HNO.o hh) (HB.o.trans (hb3.mono HB.o.size));clear h hb3 hh c0 c1 c2 c3 c4 c5;go_wp2_with fail
    go_ret;exact⟨by rw[HF.o.1];rfl,HF.o.2⟩
   ·rw[hh]at h
    refine h.mono ?_;rintro e w3⟨rfl,hb3⟩;have HY:Hid ((ms.take (k+1)).all (zbl ss)=true/\Bw w w3):=⟨by rw[HTK.o];exact hh,HB.o.trans (hb3.mono HB.o.size)⟩
    clear h hb3 hh c0 c1 c2 c3 c4 c5;go_wp2_with fail
    exact⟨⟨k+1,by omega,by go_num,HY.o.1,HY.o.2⟩,zq hlt⟩
  ·have e:k=ms.length:=by omega
   have hall:=HA.o;rw[e,tOl (Nat.le_refl _)]at hall;have HALL:=hid hall;subst e;clear hall HA;go_wp2_with fail
   have HBw:=hid HB.o;clear HB
   go_loopw [6] (fun iv wq=>∃k:Nat,k<=ss.length/\iv=.i k/\(ss.take k).all (zcm ms)=true/\Bw w wq) (fun iv _=>ss.length-(intOf iv).toNat)
   case atStart=>exact⟨0,Nat.zero_le _,rfl,rfl,HBw.o⟩
   case round=>
    obtain⟨k,hk,rfl,hall,hB⟩:=hrel;have HB:=hid hB;have HA:=hid hall;clear hall hB
    by_cases hlt:k<ss.length
    ·obtain⟨b,off,rfl,hb,hr⟩:=HW.o.1.rows (by rintro rfl;simp at hlt)
     obtain⟨fa,fcap,hs0⟩:=hr k hlt;have HSI:Hid (∀W,Bw w W->zlv W b (off+k*2) ss[k] fa fcap):=fun W hbb=>hs0.mono hb hbb
     have hck:=(HSI.o _ HB.o).kind;have hcl:=(HSI.o _ HB.o).list;have hltI:(k:Int)<(ss.length:Int):=by omega
     have HTK:Hid ((ss.take (k+1)).all (zcm ms)=zcm ms ss[k]):=by
      unfold Hid;rw[tSe hlt,List.all_append,HA.o];simp
     have HNO:Hid (zcm ms ss[k]=false->jr ss ms=false):=by
      intro h
      have:ss.all (zcm ms)=false:=by rw[List.all_eq_false];exact⟨_,List.getElem_mem hlt,by rw[h];simp⟩
      unfold jr;rw[this];simp
     have HFW:=hid (zf7 HOK.o k hlt);clear hr hs0;go_wp2_with fail
     have hbc:=HB.o.drew;have hL:=(⟨(HSI.o _ hbc).kind,(HSI.o _ hbc).list⟩:_/\_)
     go_region_held3 (fun w'=>w'.cell? (aD b (off+k*2))=some (.s ss[k].kd)/\w'.cell? (aD b (off+k*2+1))=some (.l fa ss[k].fs.length fcap)) (exact hL) (first
      | (go_at_call 157;refine(zlo fa a' fcap cap' ss[k] ms _ (by exact(HSI.o _ hbc).zdS) (by exact HW.o.2.mono hbc) h12 HFW.o).mono ?_;rintro e w5⟨v5,rfl,hrow,hb5⟩;obtain⟨ra,rcap,rfl⟩:=qD hrow;have hbc:=hbc.trans (hb5.mono hbc.size);have hL:=(⟨(HSI.o _ hbc).kind,(HSI.o _ hbc).list⟩:_/\_);clear hb5 hrow))
     by_cases hrk:(yj ss[k] ms ss[k].fs.length).length=ss[k].fs.length
     ·have hrI:(((yj ss[k] ms ss[k].fs.length).length:Int) != (ss[k].fs.length:Int))=false:=by rw[hrk];simp
      have HY:Hid ((ss.take (k+1)).all (zcm ms)=true):=by unfold Hid;rw[HTK.o];unfold zcm;exact decide_eq_true hrk
      clear hrk;go_wp2_with fail
      exact⟨⟨k+1,by omega,by go_num,HY.o,hbc⟩,zq hlt⟩
     ·have hrI:(((yj ss[k] ms ss[k].fs.length).length:Int) != (ss[k].fs.length:Int))=true:=by rw[bne_iff_ne];omega
      have HF:Hid (jr ss ms=false):=HNO.o (by unfold zcm;exact decide_eq_false hrk);clear hrk;go_wp2_with fail
      go_ret;exact⟨by rw[HF.o];rfl,hbc⟩
    ·have e:k=ss.length:=by omega
     have hall:=HA.o;rw[e,tOl (Nat.le_refl _)]at hall;have HF:Hid (jr ss ms=true):=by unfold Hid jr;rw[HALL.o,HOK.o,hall,decide_eq_true h12];rfl
     subst e;clear hall HA;go_wp2_with fail
     go_ret;exact⟨by rw[HF.o];rfl,HB.o⟩
theorem zlp (b:Bk)(a0 a1 a2 a3:OA)(c0 c1 c2 c3:Nat)(tm rs:BA)(w:World)(hb:ji w b a0 a1 a2 a3)(hl:b.ps.length<=1000)(ha:∀i (h:i<b.ps.length),0<=b.ps[i].am/\b.ps[i].am<=1000000) :
 Calls Tryz.prog 125 #[.agg (b.cells a0 a1 a2 a3 c0 c1 c2 c3),.s tm,.s rs] w fun e w'=>e=.returned (.i (out b.ps tm rs))/\Bw w w':=by
 have HK:=hid hb;have HA:Hid (∀i (h:i<b.ps.length),0<=b.ps[i].am/\b.ps[i].am<=1000000):=ha;clear hb ha;unfold Bk.cells;go_enter Tryz.func125,Tryz.ntmps125;go_wp2_with fail
 have hX0:=zl w (bC b a0 a1 a2 a3 c0 c1 c2 c3) 40;have HB0:Hid (Bw w (w.alloc (.cells (bC b a0 a1 a2 a3 c0 c1 c2 c3) 40))):=bAl _ _;obtain⟨W0,hW0⟩:=xN (w.alloc (.cells (bC b a0 a1 a2 a3 c0 c1 c2 c3) 40));have hz0:w.heap.size<W0.heap.size:=by rw[hW0];simp
 rw[<- hW0]at HB0 hX0 ⊢;clear hW0
 go_loopw [7,8] (fun nv iv wr=>∃(k:Nat) (s:Int),k<=b.ps.length/\iv=.i k/\nv=.i s/\Hid (s=zbi b.ps tm rs k)/\wr=W0) (fun _ iv _=>b.ps.length-(intOf iv).toNat)
 case atStart=>exact⟨0,0,Nat.zero_le _,rfl,rfl,by simp[zbi,Hid],rfl⟩
 case round=>
  obtain⟨k,s,hk,rfl,rfl,HQ,rfl⟩:=hrel;have hkn:k<=1000:=by omega
  have hsb:0<=s/\s<=1000000000:=by have h1:=HQ.o;have h2:=zbE b.ps tm rs HA.o k hk;omega
  by_cases hlt:k<b.ps.length
  ·obtain⟨ob,off,rfl,hob,d0,d1,d2,d3,d4⟩:=HK.o.ps.load HB0.o k hlt
   have hltI:(k:Int)<(b.ps.length:Int):=by omega
   have HSt:=hid (zft b.ps tm rs k hlt);have hab:=HA.o k hlt;clear d0 d4
   by_cases h1:b.ps[k].tm=tm
   ·have e1:(b.ps[k].tm.toList == tm.toList)=true:=by rw[beq_toList];simpa using h1
    by_cases h2:b.ps[k].rs=rs
    ·have e2:(b.ps[k].rs.toList == rs.toList)=true:=by rw[beq_toList];simpa using h2
     have HN:Hid (zbi b.ps tm rs (k+1)=s+b.ps[k].am):=by unfold Hid;rw[HSt.o,<- HQ.o,if_pos (by unfold zor;simp[h1,h2])]
     clear h1 h2;go_wp2_with fail
     exact⟨⟨k+1,s+b.ps[k].am,by omega,by go_num,by go_num,HN.o.symm,trivial⟩,zq hlt⟩
    ·have e2:(b.ps[k].rs.toList == rs.toList)=false:=by rw[beq_toList];simpa using h2
     have HN:Hid (zbi b.ps tm rs (k+1)=s):=by unfold Hid;rw[HSt.o,<- HQ.o,if_neg (by unfold zor;simp[h2])];omega
     clear h1 h2;go_wp2_with fail
     exact⟨⟨k+1,s,by omega,by go_num,rfl,HN.o.symm,trivial⟩,zq hlt⟩
   ·have e1:(b.ps[k].tm.toList == tm.toList)=false:=by rw[beq_toList];simpa using h1
    have HN:Hid (zbi b.ps tm rs (k+1)=s):=by unfold Hid;rw[HSt.o,<- HQ.o,if_neg (by unfold zor;simp[h1])];omega
    clear h1;go_wp2_with fail
    exact⟨⟨k+1,s,by omega,by go_num,rfl,HN.o.symm,trivial⟩,zq hlt⟩
  ·have e:k=b.ps.length:=by omega
   subst e;have HE:Hid (out b.ps tm rs=s):=by unfold Hid out;exact HQ.o.symm
   clear HQ hlt hk;go_wp2_with fail
   go_ret;exact⟨zo HE.o.symm,HB0.o⟩
theorem zeN (a c:OA)(ca cc:Nat)(xs ys:List BA)(w:World)(hx:zG w a xs)(hy:zG w c ys)(hl:xs.length<=1048576)(hl':ys.length<=1048576) :
 Calls Tryz.prog 119 #[.l a xs.length ca,.l c ys.length cc] w fun e w'=>e=.returned (.bool (decide (xs=ys)))/\Bw w w':=by
 obtain⟨r,hr⟩:=xN (decide (xs=ys));rw[<- hr];have HR:=hid hr;have HX:=ql hx hy;clear hr hx hy
 by_cases hn:xs.length=ys.length
 rotate_left
 ·have HF:Hid (r=false):=by unfold Hid;rw[HR.o,decide_eq_false_iff_not];intro e;exact hn (by rw[e])
  have e1:((xs.length:Int) != (ys.length:Int))=true:=by simp;omega
  clear hn;go_enter Tryz.func119,Tryz.ntmps119;go_wp2_with fail
  go_ret;exact⟨ze HF.o.symm,bRf _ _⟩
 have e1:((xs.length:Int) != (ys.length:Int))=false:=by simp;omega
 have HN:=hid hn;clear hn;go_enter Tryz.func119,Tryz.ntmps119;go_wp2_with fail
 go_loopw [5] (fun iv wr=>∃k:Nat,k<=xs.length/\iv=.i k/\Hid ((∀i (h:i<xs.length) (h':i<ys.length),i<k->xs[i]=ys[i])/\Bw w wr)) (fun iv _=>xs.length-(intOf iv).toNat)
 case atStart=>exact⟨0,Nat.zero_le _,rfl,fun i h h' hk=>by omega,bRf _ _⟩
 case round=>
  obtain⟨k,hk,rfl,HQ⟩:=hrel;have hkn:k<=1048576:=by omega
  by_cases hlt:k<xs.length
  ·have hlt':k<ys.length:=by have:=HN.o;omega
   obtain⟨p,po,rfl,hp,hpc⟩:=HX.o.1.cells (by intro e;rw[e]at hlt;simp at hlt);obtain⟨q,qo,rfl,hq,hqc⟩:=HX.o.2.cells (by intro e;rw[e]at hlt';simp at hlt');have c1:=(HQ.o.2.cell (p:=(aD p (po+k))) hp).trans (hpc k hlt);have c2:=(HQ.o.2.cell (p:=(aD q (qo+k))) hq).trans (hqc k hlt');have hltI:(k:Int)<(xs.length:Int):=by omega
   have hltI':(k:Int)<(ys.length:Int):=by omega
   have hp':=nLt hp HQ.o.2.size;have hq':=nLt hq HQ.o.2.size;have HB:=hid HQ.o.2;clear hpc hqc
   by_cases he:xs[k]=ys[k]
   ·have e2:(xs[k].toList == ys[k].toList)=true:=by rw[beq_toList];simpa using he
    have HA:Hid (∀i (h:i<xs.length) (h':i<ys.length),i<k+1->xs[i]=ys[i]):=by
     intro i h h' hi
     rcases Nat.eq_or_lt_of_le (Nat.le_of_lt_succ hi) with e|h2
     ·subst e;exact he
     ·exact HQ.o.1 i h h' h2
    clear he HQ;go_wp2_with fail
    go_quiet (fail)
    go_wp2_with fail
    exact⟨⟨k+1,by omega,by go_num,HA.o,below_drewN HB.o _⟩,zq hlt⟩
   ·have e2:(xs[k].toList == ys[k].toList)=false:=by rw[beq_toList];simpa using he
    have HF:Hid (r=false):=by
     unfold Hid;rw[HR.o,decide_eq_false_iff_not];intro e;subst e;exact he rfl
    clear he HQ;go_wp2_with fail
    go_quiet (fail)
    go_wp2_with fail
    go_ret;exact⟨ze HF.o.symm,below_drewN HB.o _⟩
  ·have HF:Hid (r=true):=by
    unfold Hid;rw[HR.o,decide_eq_true_eq];exact List.ext_getElem HN.o fun i h h'=>HQ.o.1 i h h' (by omega)
   have HB:=hid HQ.o.2;clear HQ;go_wp2_with fail
   go_ret;exact⟨ze HF.o.symm,HB.o⟩
theorem zes {P:Program}{w:World}{ops:Array Oper}{rest:List Oper}{o:Oper}{a:Act}{Q:Exit->Act->World->Prop}(hgd:o.guard=none)(s x:Operand)(t:TypeId)
 (ho:o.op=.call { callee:=.builtin .append,args:=#[s,x],argTypes:=#[t,t] })
 (e:TypeId) (i:TypeInfo) (z:Value) (size bytes:Nat) (ht:P.underlying t=some (.slice e)) (hi:P.info? e=some i) (hz:i.zero=some z)
 (hsize:i.size=size) (hby:i.bytes=bytes) (hzs:z.cells.size=size) (hsz:0<size) (hs:a.eval s=.l none 0 0)
 (ad:OA) (n c:Nat) (news:List Value) (hx:a.eval x=.l ad n c) (hl:news.length=n*size) (hn:n≠0->∃p,ad=some p/\∀j u,news[j]?=some u->w.cell? (p.add j)=some u) (h1:∀u∈news,u.oneCell'=true)
 (h63:n<=maxLen) (hbytes:n*bytes<=140737488355328)
 (h:∀v' w',w'.ownsRow w.heap.size e size v' n news->Bw w w'->wpList P ops Q rest (a.put o.dst v') w'):wpList P ops Q (o :: rest) a w:=by
 by_cases h0:n=0
 ·subst h0
  have hr:(Builtin.append_ #[t,t] o.type #[.l none 0 0,.l ad 0 c]).run P w=.ok (.l none 0 0) w:=by
   have hso:(sizeOf e).run P w=.ok size w:=by
    unfold sizeOf typeInfo
    simp[hi,hsize,go_sem,Result.andThen]
   rcases ad with _|p
   ·simp[Builtin.append_,run_underlying ht,Builtin.lenOf,Builtin.firstCells,go_sem,Result.andThen,hso]
   ·simp[Builtin.append_,run_underlying ht,Builtin.lenOf,Builtin.firstCells,go_sem,Result.andThen,hso]
  refine wpList_plain hgd fun K hK=>?_
  unfold Oper.wp;simp only[execOp,ho,resolve,invoke,builtin,Sem.run_bind,Sem.run_pure,Result.andThen_ok,List.map_toArray,List.map_cons,List.map_nil,hs,hx,hr];have hnews:news=[]:=List.length_eq_zero_iff.1 (by rw[hl];simp);exact hK _ _ (h _ _ (by rw[hnews];exact World.ownsRow_nil _ _ _ _) (bRf _ _))
 ·obtain⟨p,rfl,hc⟩:=hn h0
  refine wpList_append_own w hgd s x t ho w.heap.size e i z size bytes ht hi hz hsize hby hzs hsz (.l none 0 0) 0 [] hs (World.ownsRow_nil _ _ _ _) p n c news hx hl hc h1 (by omega) (by rw[Nat.zero_add];exact hbytes) (Nat.le_refl _) ?_;intro v' w' hown hgr _;rw[Nat.zero_add,List.nil_append]at hown;exact h v' w' hown ((bRf _ _).grown hgr (Nat.le_refl _) (by simp[Value.ownBlock]))
theorem zjv {C:AV}{xs vs:List Value}{p m s:Nat}(hm:xs.length=m)(hs:vs.length=s)(hp:p<=m)(_:m+s<=C.size)(h1:∀j,j<p->C[j]?=xs[j]?)(h2:∀j,j<s->C[p+j]?=vs[j]?)(h3:∀j,j<m-p->C[p+s+j]?=(xs.drop p)[j]?):C.toList.take (m+s)=xs.take p++(vs++xs.drop p):=by
 apply List.ext_getElem?
 intro j;have hl:(xs.take p).length=p:=by rw[List.length_take];omega
 by_cases hj:j<m+s
 ·rw[List.getElem?_take_of_lt hj,Array.getElem?_toList]
  by_cases hj1:j<p
  ·rw[List.getElem?_append_left (by omega),List.getElem?_take_of_lt hj1];exact h1 j hj1
  ·rw[List.getElem?_append_right (by omega),hl]
   by_cases hj2:j-p<s
   ·rw[List.getElem?_append_left (by omega),<- h2 _ hj2];congr 1;omega
   ·rw[List.getElem?_append_right (by omega),hs,<- h3 _ (by omega)];congr 1;omega
 ·rw[List.getElem?_eq_none (by rw[List.length_take];omega),List.getElem?_eq_none (by simp;omega)]
theorem zmH {e:TypeId}{g p m s:Nat}{w W:World}{cur:AV}{xs vs:List Value}(hg:w.heap[g]?=some (.cells cur e))(hx:cur.toList.take m=xs)(hl:xs.length=m)(hp:p<=m)(hz:m+s<=cur.size)(hv:vs.length=s)
 (hW:W=(w.setCells g (p+s) (xs.drop p)).setCells g p vs):∃C,W.heap[g]?=some (.cells C e)/\C.size=cur.size/\C.toList.take (m+s)=xs.take p++(vs++xs.drop p):=by
 have hd:(xs.drop p).length=m-p:=by rw[List.length_drop,hl]
 obtain⟨C1,e1,e2,e3,e4⟩:=jG (xs.drop p) (p+s) w cur hg (by omega);obtain⟨C2,f1,f2,f3,f4⟩:=jG vs p _ C1 e1 (by omega);refine⟨C2,by rw[hW];exact f1,f2.trans e2,zjv hl hv hp (by omega) (fun j hj=>?_) (fun j hj=>f3 j (by omega)) (fun j hj=>?_)⟩
 ·rw[f4 j (by omega),e4 j (by omega),<- hx,List.getElem?_take_of_lt (by omega),Array.getElem?_toList]
 ·rw[f4 _ (by omega),e3 j (by omega)]
theorem zo0 {e:TypeId}{g p m s:Nat}{w W:World}{cur:AV}{xs vs:List Value}(hg:w.heap[g]?=some (.cells cur e))(hx:∀j,j<p->cur[j]?=xs[j]?)(hl:xs.length=m)(hp:p<=m)(hz:m+s<=cur.size)(hv:vs.length=s)
 (hW:W=(w.setCells g p vs).setCells g (p+s) (xs.drop p)):∃C,W.heap[g]?=some (.cells C e)/\C.size=cur.size/\C.toList.take (m+s)=xs.take p++(vs++xs.drop p):=by
 have hd:(xs.drop p).length=m-p:=by rw[List.length_drop,hl]
 obtain⟨C1,e1,e2,e3,e4⟩:=jG vs p w cur hg (by omega);obtain⟨C2,f1,f2,f3,f4⟩:=jG (xs.drop p) (p+s) _ C1 e1 (by omega);refine⟨C2,by rw[hW];exact f1,f2.trans e2,zjv hl hv hp (by omega) (fun j hj=>?_) (fun j hj=>?_) (fun j hj=>f3 j (by omega))⟩
 ·rw[f4 j (by omega),e4 j (by omega)];exact hx j hj
 ·rw[f4 _ (by omega),e3 j (by omega)]
theorem zaf {w:World}{b:Nat}{r:Option Nat}(hr:r=some b \/ w.heap.size<=b):∀(vs:List Value) (o:Nat) (W:World),w.grownBy W r->w.grownBy (W.setCells b o vs) r
 | [],_,_,h=>h
 | v :: vs,o,W,h=>zaf hr vs (o+1) _ ⟨h.os,h.tape,h.output,by have:=h.size;simpa[World.setCell] using this,fun k hk hn=>(Below.heap_setCell _ _ _ _ (by show k≠b;rintro rfl;rcases hr with rfl|hr;exact hn rfl;omega)).trans (h.block k hk hn)⟩
theorem zda (b:Nat):∀(vs:List Value) (o:Nat) (w:World),(w.setCells b o vs).drew=w.drew.setCells b o vs
 | [],_,_=>rfl
 | v :: r,o,w=>by rw[World.setCells,World.setCells,zda b r];rfl
theorem zfu {w:World}{lo sz:Nat}{e:TypeId}{g n cap:Nat}{xs:List Value}(h:w.ownsRow lo e sz (.l (some (aD g 0)) n cap) n xs)(j:Nat)(u:Value):(w.setCell (aD g j) u).ownsRow lo e sz (.l (some (aD g 0)) n cap) n (xs.set j u):=by
 obtain⟨hl,⟨h0,hz⟩|⟨b,cp,cur,h0,hlo,hh,hnc,hm,hs,ht⟩⟩:=h
 ·cases h0
 ·cases h0
  exact⟨by simpa using hl,Or.inr ⟨g,cap,cur.setIfInBounds j u,rfl,hlo,zi hh u,hnc,hm,by simpa using hs,by rw[Array.toList_setIfInBounds,List.take_set,ht]⟩⟩
theorem zc3 {α:Type}(row:α->List Value)(n:Nat)(hn:∀p,(row p).length=n):∀(ps:List α) (i:Nat) (h:i<ps.length) (j:Nat) (u:Value) (y:α),j<n->row y=(row ps[i]).set j u->(ps.set i y).flatMap row=(ps.flatMap row).set (i*n+j) u
 | [],i,h,_,_,_,_,_=>by simp at h
 | p :: ps,0,_,j,u,y,hj,hy=>by
  rw[List.set_cons_zero,List.flatMap_cons,List.flatMap_cons,Nat.zero_mul,Nat.zero_add,List.set_append_left _ _ (by rw[hn];exact hj)];rw[hy];rfl
 | p :: ps,i+1,h,j,u,y,hj,hy=>by
  rw[List.set_cons_succ,List.flatMap_cons,List.flatMap_cons,List.set_append_right _ _ (by rw[hn,Nat.succ_mul];omega),hn,show(i+1)*n+j-n=i*n+j by rw[Nat.succ_mul];omega,zc3 row n hn ps i (by simpa using h) j u y hj hy]
end Go.Proofs.YtcgpjfcocmcodaaGreat
namespace Go.Proofs.YtcgpjfcocmcodaaGreat
theorem zrm (ws:List BA)(v:BA):has ws v=true↔v∈ws:=by
 unfold has;rw[List.any_eq_true]
 constructor
 ·rintro⟨x,hx,he⟩
  have:x=v:=by simpa using he
  rw[<- this];exact hx
 ·intro h;exact⟨v,h,by simp⟩
theorem zm1 {ss:List Shp}(h:zZ ss=true)(i:Nat)(hi:i<ss.length)(j:Nat)(hj:j<ss[i].fs.length):zfn ss ss[i].fs j=true:=by
 have h1:=zhH h i hi;unfold yU at h1;rw[getD_at ss i _ hi]at h1;simp only[Bool.and_eq_true]at h1;have h2:=h1.2;unfold yY at h2;simp only[Bool.and_eq_true]at h2;exact zh7 hj h2.2
theorem zmW {ss:List Shp}(h:zZ ss=true)(i:Nat)(hi:i<ss.length)(j:Nat)(hj:j<ss[i].fs.length):isSet ss[i].fs[j].nm=true:=by
 have h1:=zm1 h i hi j hj;rw[zjl _ _ _ hj]at h1;simp only[Bool.and_eq_true]at h1;have h2:=h1.1.1;rw[zpV];intro e;rw[e]at h2
 revert h2
 decide
theorem zeQ {ss:List Shp}(h:zZ ss=true)(i:Nat)(hi:i<ss.length)(j k:Nat)(hj:j<k)(hk:k<ss[i].fs.length):(ss[i].fs[j]'(by omega)).nm≠ss[i].fs[k].nm:=by
 have h1:=zm1 h i hi k hk;rw[zjl _ _ _ hk]at h1;simp only[Bool.and_eq_true,Bool.not_eq_true']at h1;have h2:=h1.1.2;intro e;unfold hasName at h2;rw[List.any_eq_false]at h2
 have hm:ss[i].fs[j]'(by omega)∈ss[i].fs.take k:=by
  rw[List.mem_iff_getElem];exact⟨j,by simp;omega,by simp⟩
 exact h2 _ hm (by simpa using e)
theorem zqY {ss:List Shp}(h:zZ ss=true)(i:Nat)(hi:i<ss.length)(j k:Nat)(hj:j<ss[i].fs.length)(hk:k<ss[i].fs.length)(e:za3 ss[i] j=za3 ss[i] k):j=k:=by
 unfold za3 at e;rw[getD_at _ _ _ hj,getD_at _ _ _ hk]at e
 rcases Nat.lt_trichotomy j k with h1|h1|h1
 ·exact absurd e (zeQ h i hi j k h1 hk)
 ·exact h1
 ·exact absurd e.symm (zeQ h i hi k j h1 hj)
theorem zpS {ss:List Shp}(h:zZ ss=true)(m:Mnd):zab ss m=zbl ss m:=by
 unfold zab zbl
 by_cases hk:zJ ss m.kd=true
 ·rw[hk,Bool.true_and,Bool.true_and]
  unfold zJ at hk;rw[List.any_eq_true]at hk;obtain⟨x,hx,he⟩:=hk;obtain⟨i,hi,rfl⟩:=List.mem_iff_getElem.1 hx;have hkd:ss[i].kd=m.kd:=by simpa using he
  rw[<- hkd,zed h i hi];unfold za2 yF
  by_cases hp:plain ss[i].fs m.fd=true
  ·have hfd:isSet m.fd=true:=by
    rcases jB ss[i].fs m.fd with⟨_,h2⟩|⟨k,hk',_,h2,_⟩
    ·rw[zaP h2]at hp;cases hp
    ·rw[<- h2];exact zmW h i hi k hk'
   have hne:∀v,isSet v=false->v≠m.fd:=fun v hv e=>by rw[e,hfd]at hv;cases hv
   rw[hp,Bool.true_and,Bool.true_and]
   have e:(zP m).all (jZ ss[i].fs m)=((!isSet m.wh||plain ss[i].fs m.wh)&&(!isSet m.fr||plain ss[i].fs m.fr)&&!decide (m.wh=m.fd)&&!decide (m.fr=m.fd)):=by
    unfold zP;rw[List.all_filter];unfold jZ
    rcases hw:isSet m.wh with _|_ <;> rcases hf:isSet m.fr with _|_
    ·simp[hw,hf,hne _ hw,hne _ hf]
    ·simp[hw,hf,hne _ hw]
     cases plain ss[i].fs m.fr <;> simp
    ·simp[hw,hf,hne _ hf]
     cases plain ss[i].fs m.wh <;> simp
    ·simp[hw,hf]
     cases plain ss[i].fs m.wh <;> cases plain ss[i].fs m.fr <;> simp
   rw[e]
  ·have hpf:plain ss[i].fs m.fd=false:=by simpa using hp
   rw[hpf];simp
 ·have hkf:zJ ss m.kd=false:=by simpa using hk
  rw[hkf];rfl
theorem zoe {ss:List Shp}{ms:List Mnd}(h:zZ ss=true)(hm:ms.all (zab ss)=true)(i:Nat)(hi:i<ss.length)(row:List Nat)(hrow:∀q∈row,q<ss[i].fs.length)(j:Nat)(hj:j<ss[i].fs.length) :
 jF ss[i] ms (row.map (za3 ss[i])) j=ready (zm ss[i] ms) row j:=by
 have hmem:∀q,q<ss[i].fs.length->(has (row.map (za3 ss[i])) (za3 ss[i] q)=true↔q∈row):=by
  intro q hq;rw[zrm,List.mem_map]
  constructor
  ·rintro⟨p,hp,e⟩
   rw[<- zqY h i hi p q (hrow p hp) hq e];exact hp
  ·intro hp;exact⟨q,hp,rfl⟩
 rw[Bool.eq_iff_iff,zhL];unfold jF;rw[Bool.and_eq_true,Bool.not_eq_true',<- Bool.not_eq_true,hmem j hj];refine and_congr Iff.rfl ?_;unfold zcq;rw[List.all_eq_true]
 -- what a mend that turns j reads
 have hread:∀m∈ms,turns m ss[i] j=true->∀v∈zP m,∃q,q<ss[i].fs.length/\zS ss[i].fs v=(q:Int)/\za3 ss[i] q=v:=by
  intro m hmm ht v hv;unfold turns at ht;simp only[Bool.and_eq_true,decide_eq_true_eq]at ht;have h1:=List.all_eq_true.1 hm m hmm;unfold zab at h1;rw[ht.1,zed h i hi]at h1;simp only[Bool.and_eq_true]at h1;have h2:=h1.2;unfold za2 at h2;simp only[Bool.and_eq_true]at h2;have h3:=List.all_eq_true.1 h2.1.2 v hv;unfold jZ at h3;simp only[Bool.and_eq_true]at h3
  rcases jB ss[i].fs v with⟨_,h5⟩|⟨k,hk,h4,h5,_⟩
  ·rw[zaP h5]at h3;exact absurd h3.2 (by simp)
  ·exact⟨k,hk,h4,by unfold za3;rw[getD_at _ _ _ hk];exact h5⟩
 have hR:∀m,qB ss[i].kd (za3 ss[i] j) (row.map (za3 ss[i])) m=true↔(turns m ss[i] j=true->∀v∈zP m,has (row.map (za3 ss[i])) v=true):=by
  intro m;have e1:turns m ss[i] j=(decide (m.kd=ss[i].kd)&&decide (m.fd=za3 ss[i] j)):=rfl;unfold qB;rw[<- e1]
  rcases turns m ss[i] j with _|_
  ·simp
  ·unfold zP
   rcases hw:isSet m.wh with _|_ <;> rcases hf:isSet m.fr with _|_ <;> simp[hw,hf]
 constructor
 ·intro hall q hq
  unfold zm at hq;obtain⟨x,hx,rfl⟩:=List.mem_map.1 hq;unfold yA at hx;obtain⟨m,hmm,hx⟩:=List.mem_flatMap.1 hx
  by_cases ht:turns m ss[i] j=true
  ·rw[if_pos ht]at hx
   obtain⟨v,hv,rfl⟩:=List.mem_map.1 hx;obtain⟨q,hq,e1,e2⟩:=hread m hmm ht v hv
   have:=(hR m).1 (hall m hmm) ht v hv
   rw[e1,Int.toNat_natCast];rw[<- e2]at this;exact(hmem q hq).1 this
  ·rw[if_neg ht]at hx;cases hx
 ·intro hall m hmm
  rw[hR];intro ht v hv;obtain⟨q,hq,e1,e2⟩:=hread m hmm ht v hv;rw[<- e2,hmem q hq];refine hall q ?_;unfold zm;rw[List.mem_map];refine⟨(q:Int),?_,Int.toNat_natCast _⟩;unfold yA;rw[List.mem_flatMap];refine⟨m,hmm,?_⟩;rw[if_pos ht,List.mem_map];exact⟨v,hv,e1⟩
theorem find_congr {α:Type}{f g:α->Bool}:∀ {l:List α},(∀x∈l,f x=g x)->l.find? f=l.find? g
 | [],_=>rfl
 | a :: l,h=>by
  have h1:=h a (by simp);have h2:=find_congr (f:=f) (g:=g) (l:=l) (fun x hx=>h x (by simp[hx]));rw[List.find?_cons,List.find?_cons,h1,h2]
theorem zeo {ss:List Shp}{ms:List Mnd}(h:zZ ss=true)(hm:ms.all (zab ss)=true)(i:Nat)(hi:i<ss.length):∀k,yj ss[i] ms k=(greedy (zm ss[i] ms) ss[i].fs.length k).map (za3 ss[i])
 | 0=>rfl
 | k+1=>by
  show zfi ss[i] ms (yj ss[i] ms k)=(more (zm ss[i] ms) ss[i].fs.length (greedy (zm ss[i] ms) ss[i].fs.length k)).map (za3 ss[i])
  rw[zeo h hm i hi k];have hpart:=zb9 (zm ss[i] ms) ss[i].fs.length k
  have e:(List.range ss[i].fs.length).find? (jF ss[i] ms ((greedy (zm ss[i] ms) ss[i].fs.length k).map (za3 ss[i])))=pick (zm ss[i] ms) ss[i].fs.length (greedy (zm ss[i] ms) ss[i].fs.length k):=by
   unfold pick
   apply find_congr
   intro x hx;exact zoe h hm i hi _ hpart.mem x (List.mem_range.1 hx)
  unfold zfi more;rw[e]
  cases pick (zm ss[i] ms) ss[i].fs.length (greedy (zm ss[i] ms) ss[i].fs.length k) with
  | none=>rfl
  | some q=>simp
theorem zng {ss:List Shp}{ms:List Mnd}(h:zZ ss=true)(hm:ms.all (zab ss)=true)(i:Nat)(hi:i<ss.length):rowOk ms ss[i]=zcm ms ss[i]:=by
 unfold rowOk zcm;rw[zeo h hm i hi,List.length_map];refine ziA (fun p hp q hq=>?_);unfold zm at hq;obtain⟨x,hx,rfl⟩:=List.mem_map.1 hq
 have:=zjH h hm i hi p hp x hx
 omega
theorem zgS (ss:List Shp)(ms:List Mnd):yB ss ms=jr ss ms:=by
 unfold yB jr
 by_cases h:zZ ss=true
 ·have e1:ms.all (zbl ss)=ms.all (zab ss):=by congr 1;funext m;exact(zpS h m).symm
  rw[e1,h]
  by_cases hm:ms.all (zab ss)=true
  ·have e2:ss.all (rowOk ms)=ss.all (zcm ms):=by
    rw[Bool.eq_iff_iff,List.all_eq_true,List.all_eq_true]
    constructor
    ·intro ha x hx
     obtain⟨i,hi,rfl⟩:=List.mem_iff_getElem.1 hx;rw[<- zng h hm i hi];exact ha _ hx
    ·intro ha x hx
     obtain⟨i,hi,rfl⟩:=List.mem_iff_getElem.1 hx;rw[zng h hm i hi];exact ha _ hx
   rw[e2];cases decide (ms.length<=12) <;> simp
  ·have hmf:ms.all (zab ss)=false:=by simpa using hm
   rw[hmf];simp
 ·have hf:zZ ss=false:=by simpa using h
  rw[hf];simp
end Go.Proofs.YtcgpjfcocmcodaaGreat
namespace Go.Proofs.YtcgpjfcocmcodaaGreat
open Go.RowKit
theorem ziF (a c:OA)(ca cc:Nat)(xs ys:List BA)(w:World)(hx:zG w a xs)(hy:zG w c ys)(hl:xs.length<=1048576)(hl':ys.length<=1048576) :
 Calls Tryz.prog 210 #[.l a xs.length ca,.l c ys.length cc] w fun e w'=>e=.returned (.bool (decide (xs=ys)))/\Bw w w':=by
 obtain⟨r,hr⟩:=xN (decide (xs=ys));rw[<- hr];have HR:Hid (r=decide (xs=ys)):=hr;have HX:Hid (zG w a xs/\zG w c ys):=⟨hx,hy⟩
 clear hr hx hy
 by_cases hn:xs.length=ys.length
 rotate_left
 ·have HF:Hid (r=false):=by unfold Hid;rw[HR.o,decide_eq_false_iff_not];intro e;exact hn (by rw[e])
  have e1:((xs.length:Int) != (ys.length:Int))=true:=by simp;omega
  clear hn;go_enter Tryz.func210,Tryz.ntmps210;go_wp2_with fail
  go_ret;exact⟨ze HF.o.symm,bRf _ _⟩
 have e1:((xs.length:Int) != (ys.length:Int))=false:=by simp;omega
 have HN:Hid (xs.length=ys.length):=hn;clear hn;go_enter Tryz.func210,Tryz.ntmps210;go_wp2_with fail
 go_loopw [13] (fun iv wr=>∃k:Nat,k<=xs.length/\iv=.i k/\Hid ((∀i (h:i<xs.length) (h':i<ys.length),i<k->xs[i]=ys[i])/\Bw w wr)) (fun iv _=>xs.length-(intOf iv).toNat)
 case atStart=>exact⟨0,Nat.zero_le _,rfl,fun i h h' hk=>by omega,bRf _ _⟩
 case round=>
  obtain⟨k,hk,rfl,HQ⟩:=hrel;have hkn:k<=1048576:=by omega
  by_cases hlt:k<xs.length
  ·have hlt':k<ys.length:=by have:=HN.o;omega
   obtain⟨p,po,rfl,hp,hpc⟩:=HX.o.1.cells (by intro e;rw[e]at hlt;simp at hlt);obtain⟨q,qo,rfl,hq,hqc⟩:=HX.o.2.cells (by intro e;rw[e]at hlt';simp at hlt');have c1:=(HQ.o.2.cell (p:=(aD p (po+k))) hp).trans (hpc k hlt);have c2:=(HQ.o.2.cell (p:=(aD q (qo+k))) hq).trans (hqc k hlt');have hltI:(k:Int)<(xs.length:Int):=by omega
   have hltI':(k:Int)<(ys.length:Int):=by omega
   have hp':p<wr.heap.size:=nLt hp HQ.o.2.size;have hq':q<wr.heap.size:=nLt hq HQ.o.2.size;have HB:Hid (Bw w wr):=HQ.o.2;clear hpc hqc
   by_cases he:xs[k]=ys[k]
   ·have e2:(xs[k].toList == ys[k].toList)=true:=by rw[beq_toList];simpa using he
    have HA:Hid (∀i (h:i<xs.length) (h':i<ys.length),i<k+1->xs[i]=ys[i]):=by
     intro i h h' hi
     rcases Nat.eq_or_lt_of_le (Nat.le_of_lt_succ hi) with e|h2
     ·subst e;exact he
     ·exact HQ.o.1 i h h' h2
    clear he HQ;go_wp2_with fail
    go_quiet (fail)
    go_wp2_with fail
    exact⟨⟨k+1,by omega,by go_num,HA.o,below_drewN HB.o _⟩,zq hlt⟩
   ·have e2:(xs[k].toList == ys[k].toList)=false:=by rw[beq_toList];simpa using he
    have HF:Hid (r=false):=by
     unfold Hid;rw[HR.o,decide_eq_false_iff_not];intro e;subst e;exact he rfl
    clear he HQ;go_wp2_with fail
    go_quiet (fail)
    go_wp2_with fail
    go_ret;exact⟨ze HF.o.symm,below_drewN HB.o _⟩
  ·have HF:Hid (r=true):=by
    unfold Hid;rw[HR.o,decide_eq_true_eq];exact List.ext_getElem HN.o fun i h h'=>HQ.o.1 i h h' (by omega)
   have HB:Hid (Bw w wr):=HQ.o.2;clear HQ;go_wp2_with fail
   go_ret;exact⟨ze HF.o.symm,HB.o⟩
theorem yS.new (w:World):yS (w.alloc (.map #[] 0)) w.heap.size (fun _ _=>none):=
 ⟨⟨#[],0,Array.getElem?_push_size,fun x hx=>(by simp at hx),fun a b v h=>(by cases h),fun i j x y hx=>(by simp at hx)⟩,fun es c h=>by
  have e:(w.alloc (.map #[] 0)).heap[w.heap.size]?=some (.map #[] 0):=Array.getElem?_push_size;rw[e]at h
  cases h
  exact⟨fun x hx=>(by simp at hx),by simp⟩⟩
theorem zhp.below {r B:Nat}{w0 w w':World}(h:zhp r w w')(hb:Below B w0 w)(hr:B<=r):Below B w0 w':=
 ⟨h.os.trans hb.os,h.tape.trans hb.tape,h.output.trans hb.output,by rw[h.size];exact hb.size,fun k hk=>(h.out k (by omega)).trans (hb.block k hk)⟩
theorem zld (o:Ob)(a0 a1:OA)(c0 c1:Nat)(w:World):Calls Tryz.prog 208 #[.agg #[.s o.kd,.s o.nm,.s o.tm,.l a0 o.vs.length c0,.bool o.en,.l a1 o.hs.length c1,.i o.vr]] w fun e w'=>e=.returned (qY o.kd o.nm)/\Bw w w':=by
 unfold qY;go_enter Tryz.func208,Tryz.ntmps208;go_wp2_with fail
 refine bodyPost_ret (v:=.agg #[.s o.kd,.s o.nm]) (by simp[results,Tryz.results208,go_sem]) rfl ⟨rfl,?_⟩
 first|exact zw _ _ _|exact((zw _ _ _).setCell (by simp) _).setCell (by simp) _|exact((zw _ _ _).setCell (by show _<=_+1;omega) _).setCell (by show _<=_+1;omega) _
structure zc9 (f:BA->BA->Option Int)(os:List Ob)(k:Nat):Prop where
 has:∀p q,(f p q).isSome=(os.take k).any (zb0 p q)
 at_:∀p q v,f p q=some v->∃i,∃h:i<os.length,v=(i:Int)/\os[i].kd=p/\os[i].nm=q
theorem zc9.put {f:BA->BA->Option Int}{os:List Ob}{k:Nat}(h:zc9 f os k)(hlt:k<os.length):zc9 (fun p q=>if p=os[k].kd/\q=os[k].nm then some (k:Int) else f p q) os (k+1):=by
 refine⟨fun p q=>?_,fun p q v hv=>?_⟩
 ·rw[tSe hlt,List.any_append,<- h.has p q]
  simp only[List.any_cons,List.any_nil,Bool.or_false]
  by_cases e:p=os[k].kd/\q=os[k].nm
  ·rw[if_pos e]
   unfold zb0
   simp[e.1,e.2]
  ·rw[if_neg e]
   have:zb0 p q os[k]=false:=by
    unfold zb0;rw[Bool.and_eq_false_iff,decide_eq_false_iff_not,decide_eq_false_iff_not]
    by_cases e1:os[k].kd=p
    ·exact Or.inr fun e2=>e ⟨e1.symm,e2.symm⟩
    ·exact Or.inl e1
   rw[this,Bool.or_false]
 ·by_cases e:p=os[k].kd/\q=os[k].nm
  ·rw[if_pos e]at hv
   exact⟨k,hlt,(Option.some.inj hv).symm,e.1.symm,e.2.symm⟩
  ·rw[if_neg e]at hv
   exact h.at_ p q v hv
theorem zi7 (a:OA)(cap:Nat)(os:List Ob)(w:World)(hw:zbG w a os)(hl:os.length<=1048576) :
 Calls Tryz.prog 173 #[.l a os.length cap] w fun e w'=>(∃f,e=.returned (.map (some w.heap.size))/\yS w' w.heap.size f/\zc9 f os os.length)/\Bw w w':=by
 have HW:=hid hw;have hmk:∀w:World,(Instr.makeMap 216 none).run Tryz.prog w=.ok (.map (some w.heap.size)) (w.alloc (.map #[] 0)):=fun w=>by kernel_rfl
 clear hw;go_enter Tryz.func173,Tryz.ntmps173;go_wp2_with fail
 clear hmk
 go_loopw [9] (fun iv wr=>∃k:Nat,k<=os.length/\iv=.i k/\Hid ((∃f,yS wr w.heap.size f/\zc9 f os k)/\Bw w wr)) (fun iv _=>os.length-(intOf iv).toNat)
 case atStart=>exact⟨0,Nat.zero_le _,rfl,⟨_,yS.new w,⟨fun p q=>by simp,fun p q v h=>by cases h⟩⟩,bAl _ _⟩
 case round=>
  obtain⟨k,hk,rfl,HX⟩:=hrel;obtain⟨⟨f,hf,hc⟩,hB⟩:=HX.o;have hkn:k<=1048576:=by omega
  by_cases hlt:k<os.length
  ·obtain⟨ob,off,v0,v1,q0,q1,rfl,hob,hsm,hl0,hl1,d0,d1,d2,d3,d4,d5,d6⟩:=HW.o.load hB k hlt
   have hltI:(k:Int)<(os.length:Int):=by omega
   have hob':=nLt hob hB.size;have HKn:=hid hsm;have HPf:=zbQ hf hc hB;clear hf hc hB HX hsm hl0 hl1;go_wp2_with fail
   refine(zld os[k] v0 v1 q0 q1 _).mono ?_;rintro e w1⟨rfl,hb1⟩;have hBa:=(HPf.o.2.2.alloc HPf.o.2.2.size (.cells #[.s os[k].kd,.s os[k].nm,.s os[k].tm,.l v0 os[k].vs.length q0,.bool os[k].en,.l v1 os[k].hs.length q1,.i os[k].vr] 121))
   have hf1:yS w1 w.heap.size f:=(HPf.o.1.mono (bAl _ _)).mono hb1;obtain⟨w2,hup,hf2,hp2⟩:=hf1.upd zkB Tryz.underlying216 os[k].kd os[k].nm HKn.o.kd HKn.o.nm (k:Int)
   have HC:Hid ((∃f,yS w2 w.heap.size f/\zc9 f os (k+1))/\Bw w w2):=
    ⟨⟨_,hf2,HPf.o.2.1.put hlt⟩,hp2.below (hBa.trans (hb1.mono hBa.size)) (Nat.le_refl _)⟩
   clear hf1 hf2 hp2 hb1 hBa;go_wp2_with fail
   exact⟨⟨k+1,by omega,by go_num,HC.o⟩,zq hlt⟩
  ·have e:k=os.length:=by omega
   subst e;have HE:Hid (∃f,yS wr w.heap.size f/\zc9 f os os.length):=⟨f,hf,hc⟩
   have HB:=hid hB;clear hf hc hB HX hlt hk;go_wp2_with fail
   go_ret;obtain⟨f,h1,h2⟩:=HE.o;exact⟨⟨f,rfl,h1,h2⟩,HB.o⟩
theorem zht (a:OA)(cap:Nat)(os:List Ob)(w:World)(hw:zbG w a os)(hl:os.length<=1048576) :
 Calls Tryz.prog 173 #[.l a os.length cap] w fun e w'=>(∃f,e=.returned (.map (some w.heap.size))/\yS w' w.heap.size f/\∀p q,(f p q).isSome=os.any (zb0 p q))/\Bw w w':=by
 refine(zi7 a cap os w hw hl).mono ?_;rintro e w'⟨⟨f,he,hf,hp⟩,hb⟩;exact⟨⟨f,he,hf,fun p q=>by rw[hp.has p q,tOl (Nat.le_refl _)]⟩,hb⟩
theorem zbn.from {w:World}{a:OA}{xs:List Lg}(h:zbn w a xs)(hne:xs.length≠0):∃p,a=some p/\∀j u,(xs.flatMap Lg.row)[j]?=some u->w.cell? (p.add j)=some u:=by
 obtain⟨b,off,rfl,_⟩:=h.rows (fun e=>hne (by rw[e];rfl));exact⟨_,rfl,zqC h⟩
theorem zce.from {w:World}{a:OA}{xs:List Pu}(h:zce w a xs)(hne:xs.length≠0):∃p,a=some p/\∀j u,(xs.flatMap Pu.row)[j]?=some u->w.cell? (p.add j)=some u:=by
 obtain⟨b,off,rfl,_⟩:=h.rows (fun e=>hne (by rw[e];rfl));exact⟨_,rfl,zqD h⟩
set_option maxRecDepth 20000 in
theorem zml (b:Bk)(a0 a1 a2 a3:OA)(c0 c1 c2 c3:Nat)(w:World)(hl:ji w b a0 a1 a2 a3)(hf:b.Few) :
 Calls Tryz.prog 38 #[.agg #[.i b.now,.i b.tick,.i b.given,.l a0 b.os.length c0,.l a1 b.gs.length c1,.l a2 b.ls.length c2,.l a3 b.ps.length c3]] w fun e w'=>∃own d0 d1 d2 d3 e0 e1 e2 e3,e=.returned (.agg #[.i b.now,.i b.tick,.i b.given,.l d0 b.os.length e0,.l d1 b.gs.length e1,.l d2 b.ls.length e2,.l d3 b.ps.length e3])/\BkL (w.heap.size+1+1) w'.heap.size w' own b d0 d1 d2 d3/\(zdb (w.heap.size+1+1) w' own (.l d2 b.ls.length e2) b.ls/\zeW (w.heap.size+1+1) w' own (.l d3 b.ps.length e3) b.ps)/\Bw w w':=by
 obtain⟨i2,hi2,hzi2,hsi2,hbi2⟩:=info_parts Tryz.zhq;obtain⟨i3,hi3,hzi3,hsi3,hbi3⟩:=info_parts Tryz.zqN;have HI2:=zbX hi2 hzi2 hsi2 hbi2;have HI3:=zbX hi3 hzi3 hsi3 hbi3;have HL:=hid hl;have HF:=hid hf;clear hl hf hi2 hzi2 hsi2 hbi2 hi3 hzi3 hsi3 hbi3;have k0:=zQ w (.cells (bC b a0 a1 a2 a3 c0 c1 c2 c3) 40) (.cells bZ 40);have hB0:=zw w (.cells (bC b a0 a1 a2 a3 c0 c1 c2 c3) 40) (.cells bZ 40);obtain⟨W0,hW0⟩:=xN ((w.alloc (.cells (bC b a0 a1 a2 a3 c0 c1 c2 c3) 40)).alloc (.cells bZ 40));have hz0:W0.heap.size=w.heap.size+1+1:=by rw[hW0];simp
 go_enter Tryz.func38,Tryz.ntmps38;go_wp2_with fail
 rw[<- hW0]at k0 hB0 ⊢;clear hW0;refine(zmP (fun _=>(9,0,0)) a0 c0 b.os W0 (HL.o.os.mono hB0) HF.o.os.1 HF.o.os.2).mono ?_;rintro e w1⟨v0,own1,rfl,hw1,hr1,hb1⟩;obtain⟨d0,e0,rfl,hn1⟩:=hr1.lie;rw[hz0]at hw1 hn1;have kX:=(hb1.block w.heap.size (by omega)).trans k0.1;have kR:=(hb1.block (w.heap.size+1) (by omega)).trans k0.2;have hz1:=hb1.size;have HB1:=hid (hB0.trans (hb1.mono (by omega)));have HN1:=ql hn1 hw1;clear hr1 hn1 hw1 hb1 k0 hB0;have cX:=fun j=>cell_of_block (o:=j) kX
 have fX:=fun j=>zh (o:=j) kX
 have hzz1:w.heap.size<w1.heap.size:=by omega
 have kX1:=zi (o:=3) kX (.l d0 b.os.length e0);have kR1:=(zD (w:=w1) (o:=3) (v:=.l d0 b.os.length e0) (show w.heap.size+1≠w.heap.size by omega)).trans kR;have HB1':=hid (HB1.o.setCell (p:=(aD w.heap.size 3)) (Nat.le_refl _) (.l d0 b.os.length e0));have HK1:=ql kX1 kR1;have HN1':Hid (zbv (w.heap.size+1+1) (w1.setCell (aD w.heap.size 3) (.l d0 b.os.length e0)) own1 d0 b.os.length (zaW b.os)):=HN1.o.1.left ((Left.refl (fun k=>k=w.heap.size) w1).set rfl _ _) (fun k h1 h2=>by subst h2;rw[HN1.o.2 _ (by omega)]at h1;simp at h1);have hsz1:(w1.setCell (aD w.heap.size 3) (.l d0 b.os.length e0)).heap.size=w1.heap.size:=World.size_setCell _ _ _;clear kX kR kX1 kR1;go_wp2_with fail
 generalize w1.setCell (aD w.heap.size 3) (.l d0 b.os.length e0)=W1 at *
 clear cX fX HB1;refine(zmT own1 a1 c1 b.gs W1 (HL.o.gs.mono HB1'.out) HF.o.gs.1 HF.o.gs.2).mono ?_;rintro e w2⟨v1,own2,rfl,hw2,hr2,hb2⟩;obtain⟨d1,e1,rfl,hn2⟩:=hr2.lie;have HW2:Hid (∀k,k<w.heap.size+1+1->own2 k=(9,0,0)):=fun k hk=>(hw2 k (by omega)).trans (HN1.o.2 k hk)
 have hz2:=hb2.size;have HN2:Hid (zbv (w.heap.size+1+1) w2 own2 d0 b.os.length (zaW b.os)/\zck (w.heap.size+1+1) w2 own2 d1 b.gs.length (zcl b.gs)):=⟨(HN1'.out.own (fun k hk _=>hw2 k hk)).mono hb2,hn2.low (by omega)⟩
 have kX:=(hb2.block w.heap.size (by omega)).trans HK1.o.1;have kR:=(hb2.block (w.heap.size+1) (by omega)).trans HK1.o.2;have HB2:=hid (HB1'.out.trans (hb2.mono HB1'.out.size));clear hr2 hn2 hw2 hb2 HN1 HN1' HK1 HB1';have cX:=fun j=>cell_of_block (o:=j) kX
 have fX:=fun j=>zh (o:=j) kX
 have hzz2:w.heap.size<w2.heap.size:=by omega
 have kX1:=zi (o:=4) kX (.l d1 b.gs.length e1);have kR1:=(zD (w:=w2) (o:=4) (v:=.l d1 b.gs.length e1) (show w.heap.size+1≠w.heap.size by omega)).trans kR;have HB2':=hid (HB2.o.setCell (p:=(aD w.heap.size 4)) (Nat.le_refl _) (.l d1 b.gs.length e1));have HK2:=ql kX1 kR1;have hLs:=(Left.refl (fun k=>k=w.heap.size) w2).set (b:=w.heap.size) rfl 4 (.l d1 b.gs.length e1);have HN2':=ql (HN2.o.1.left hLs (fun k h1 h2=>by subst h2;rw[HW2.o _ (by omega)]at h1;simp at h1)) (HN2.o.2.left hLs (fun k h1 h2=>by subst h2;rw[HW2.o _ (by omega)]at h1;simp at h1));have hsz2:(w2.setCell (aD w.heap.size 4) (.l d1 b.gs.length e1)).heap.size=w2.heap.size:=World.size_setCell _ _ _;have cXX:=fun j=>cell_of_block (o:=j) kX1
 clear kX kR kX1 kR1 hLs
 go_wp2_with (at_builtin;refine zbB ?_)
 generalize w2.setCell (aD w.heap.size 4) (.l d1 b.gs.length e1)=W2 at *
 clear cX fX HB2 HN2 cXX
 show wpList _ _ _ _ _ _
 refine zes rfl (.const (.l none 0 0)) (.tmp 12) 37 rfl 69 i2 (.agg #[.s ByteArray.empty,.s ByteArray.empty,.i 0,.i 0]) 4 48 Tryz.underlying37 HI2.o.1 HI2.o.2.1 HI2.o.2.2.1 HI2.o.2.2.2 rfl (by decide) rfl a2 b.ls.length c2 (b.ls.flatMap Lg.row) rfl (zcf _ 4 (fun _=>rfl) _) (fun h=>(HL.o.ls.mono HB2'.out).from h) zcC (by have:=HF.o.ls;unfold maxLen;omega) (by have:=HF.o.ls;omega) ?_;intro v2 w3 hown hb3;obtain⟨d2,e2,rfl⟩:=jm hown;obtain⟨own3,he3⟩:∃own3:Nat->Lb,own3=fun k=>if k<W2.heap.size then own2 k else (2,0,0):=⟨_,rfl⟩
 have hw3:∀k,k<W2.heap.size->own3 k=own2 k:=fun k hk=>by rw[he3];exact if_pos hk
 have hR3:zdb W2.heap.size w3 own3 (.l d2 b.ls.length e2) b.ls:=⟨hown,fun k hk=>by rw[he3];exact if_neg (by have:=(hown.lt k hk).1;omega)⟩
 obtain⟨d2',e2',h9,hn3⟩:=hR3.lie
 cases h9
 have HRL:=hid (hR3.low (lo':=(w.heap.size+1+1)) (by omega));have HW3:Hid (∀k,k<w.heap.size+1+1->own3 k=(9,0,0)):=fun k hk=>(hw3 k (by omega)).trans (HW2.o k hk)
 have hz3:=hb3.size;have HN3:Hid (zbv (w.heap.size+1+1) w3 own3 d0 b.os.length (zaW b.os)/\zck (w.heap.size+1+1) w3 own3 d1 b.gs.length (zcl b.gs)/\zco (w.heap.size+1+1) w3 own3 d2 b.ls.length (zet b.ls)):=⟨(HN2'.out.1.own (fun k hk _=>hw3 k hk)).mono hb3,(HN2'.out.2.own (fun k hk _=>hw3 k hk)).mono hb3,hn3.low (by omega)⟩
 have kX:=(hb3.block w.heap.size (by omega)).trans HK2.o.1;have kR:=(hb3.block (w.heap.size+1) (by omega)).trans HK2.o.2;have HB3:=hid (HB2'.out.trans (hb3.mono HB2'.out.size));clear hR3 hn3 hw3 he3 hown hb3 HN2' HK2 HB2' HW2;have cX:=fun j=>cell_of_block (o:=j) kX
 have fX:=fun j=>zh (o:=j) kX
 have hzz3:w.heap.size<w3.heap.size:=by omega
 have kX1:=zi (o:=5) kX (.l d2 b.ls.length e2);have kR1:=(zD (w:=w3) (o:=5) (v:=.l d2 b.ls.length e2) (show w.heap.size+1≠w.heap.size by omega)).trans kR;have HB3':=hid (HB3.o.setCell (p:=(aD w.heap.size 5)) (Nat.le_refl _) (.l d2 b.ls.length e2));have HK3:=ql kX1 kR1;have hLs:=(Left.refl (fun k=>k=w.heap.size) w3).set (b:=w.heap.size) rfl 5 (.l d2 b.ls.length e2);have HN3':=zbQ (HN3.o.1.left hLs (fun k h1 h2=>by subst h2;rw[HW3.o _ (by omega)]at h1;simp at h1)) (HN3.o.2.1.left hLs (fun k h1 h2=>by subst h2;rw[HW3.o _ (by omega)]at h1;simp at h1)) (HN3.o.2.2.left hLs (fun k h1 h2=>by subst h2;rw[HW3.o _ (by omega)]at h1;simp at h1));have HRL':=hid (HRL.o.left hLs (fun k h1 h2=>by subst h2;rw[HW3.o _ (by omega)]at h1;simp at h1));have hsz3:(w3.setCell (aD w.heap.size 5) (.l d2 b.ls.length e2)).heap.size=w3.heap.size:=World.size_setCell _ _ _;have cXX:=fun j=>cell_of_block (o:=j) kX1
 clear kX kR kX1 kR1 hLs
 go_wp2_with (at_builtin;refine zbB ?_)
 generalize w3.setCell (aD w.heap.size 5) (.l d2 b.ls.length e2)=W3 at *
 clear cX fX HB3 HN3 cXX
 show wpList _ _ _ _ _ _
 refine zes rfl (.const (.l none 0 0)) (.tmp 16) 38 rfl 142 i3 (.agg #[.s ByteArray.empty,.s ByteArray.empty,.s ByteArray.empty,.i 0,.i 0]) 5 64 Tryz.underlying38 HI3.o.1 HI3.o.2.1 HI3.o.2.2.1 HI3.o.2.2.2 rfl (by decide) rfl a3 b.ps.length c3 (b.ps.flatMap Pu.row) rfl (zcf _ 5 (fun _=>rfl) _) (fun h=>(HL.o.ps.mono HB3'.out).from h) zpp (by have:=HF.o.ps;unfold maxLen;omega) (by have:=HF.o.ps;omega) ?_;intro v3 w4 hown hb4;obtain⟨d3,e3,rfl⟩:=jm hown;obtain⟨own4,he4⟩:∃own4:Nat->Lb,own4=fun k=>if k<W3.heap.size then own3 k else if k<w4.heap.size then (3,0,0) else (9,0,0):=⟨_,rfl⟩
 have hw4:∀k,k<W3.heap.size->own4 k=own3 k:=fun k hk=>by rw[he4];exact if_pos hk
 have hR4:zeW W3.heap.size w4 own4 (.l d3 b.ps.length e3) b.ps:=⟨hown,fun k hk=>by have h8:=hown.lt k hk;rw[he4];show(if _ then _ else _)=_;rw[if_neg (by omega),if_pos h8.2]⟩
 obtain⟨d3',e3',h9,hn4⟩:=hR4.lie
 cases h9
 have hz4:=hb4.size
 have HW4:Hid (∀k,(k<w.heap.size+1+1 \/ w4.heap.size<=k)->own4 k=(9,0,0)):=by
  rintro k (hk|hk)
  ·exact(hw4 k (by omega)).trans (HW3.o k hk)
  ·rw[he4];show(if _ then _ else _)=_;rw[if_neg (by omega),if_neg (by omega)]
 have HRR:Hid (zdb (w.heap.size+1+1) w4 own4 (.l d2 b.ls.length e2) b.ls/\zeW (w.heap.size+1+1) w4 own4 (.l d3 b.ps.length e3) b.ps):=⟨(HRL'.out.own (fun k hk _=>hw4 k hk)).left (Left.of_below (fun _=>False) hb4) (fun _ _ h=>h),hR4.low (by omega)⟩
 have HN4:Hid (BkL (w.heap.size+1+1) w4.heap.size w4 own4 b d0 d1 d2 d3):=⟨(HN3'.out.1.own (fun k hk _=>hw4 k hk)).mono hb4,(HN3'.out.2.1.own (fun k hk _=>hw4 k hk)).mono hb4,(HN3'.out.2.2.own (fun k hk _=>hw4 k hk)).mono hb4,hn4.low (by omega),fun k hk=>by rw[HW4.o k hk],by omega,Nat.le_refl _⟩
 have kX:=(hb4.block w.heap.size (by omega)).trans HK3.o.1;have kR:=(hb4.block (w.heap.size+1) (by omega)).trans HK3.o.2;have HB4:=hid (HB3'.out.trans (hb4.mono HB3'.out.size));clear hR4 hn4 hw4 he4 hown hb4 HN3' HK3 HB3' HW3;have cX:=fun j=>cell_of_block (o:=j) kX
 have fX:=fun j=>zh (o:=j) kX
 have cR:=fun j=>cell_of_block (o:=j) kR
 have fR:=fun j=>zh (o:=j) kR
 have hzz4:w.heap.size<w4.heap.size:=by omega
 have hzz5:w.heap.size+1<w4.heap.size:=by omega
 clear kX kR;go_wp2_with fail
 refine bodyPost_ret (v:=.agg #[.i b.now,.i b.tick,.i b.given,.l d0 b.os.length e0,.l d1 b.gs.length e1,.l d2 b.ls.length e2,.l d3 b.ps.length e3]) (by simp[results,Tryz.results38,go_sem,cR]) rfl ⟨own4,d0,d1,d2,d3,e0,e1,e2,e3,rfl,?_⟩
 ·have hL0:=Left.refl (fun k=>k=w.heap.size \/ k=w.heap.size+1) w4
  have hL:=(((((((hL0.set (b:=w.heap.size) (Or.inl rfl) 6 (.l d3 b.ps.length e3)).set (b:=w.heap.size+1) (Or.inr rfl) 0 (.i b.now)).set (b:=w.heap.size+1) (Or.inr rfl) 1 (.i b.tick)).set (b:=w.heap.size+1) (Or.inr rfl) 2 (.i b.given)).set (b:=w.heap.size+1) (Or.inr rfl) 3 (.l d0 b.os.length e0)).set (b:=w.heap.size+1) (Or.inr rfl) 4 (.l d1 b.gs.length e1)).set (b:=w.heap.size+1) (Or.inr rfl) 5 (.l d2 b.ls.length e2)).set (b:=w.heap.size+1) (Or.inr rfl) 6 (.l d3 b.ps.length e3);have h8:=BkF.left HN4.o hL (fun k hk h2=>by rw[HW4.o k (Or.inl (by omega))]at hk;simp at hk);simp only[World.size_setCell];refine⟨h8,⟨HRR.o.1.left hL (fun k hk h2=>by rw[HW4.o k (Or.inl (by omega))]at hk;simp at hk),HRR.o.2.left hL (fun k hk h2=>by rw[HW4.o k (Or.inl (by omega))]at hk;simp at hk)⟩,?_⟩;have h0:w.heap.size<=w.heap.size:=Nat.le_refl _;have h1:w.heap.size<=w.heap.size+1:=Nat.le_succ _
  iterate 7 refine Below.setCell ?_ h1 _
  refine Below.setCell ?_ h0 _;exact HB4.o
section
variable {P:Program} (w:World)
theorem zhk {o:Oper}{a:Act}{K:Act->World->Prop}{Q:Exit->Act->World->Prop}(s x:Operand)(t:TypeId)
 (ho:o.op=.call { callee:=.builtin .append,args:=#[s,x],argTypes:=#[t,t] })
 (base:Nat) (e:TypeId) (i:TypeInfo) (z:Value) (size bytes:Nat) (ht:P.underlying t=some (.slice e)) (hi:P.info? e=some i) (hz:i.zero=some z)
 (hsize:i.size=size) (hby:i.bytes=bytes) (hzs:z.cells.size=size) (hsz:0<size)
 (v:Value) (n:Nat) (xs:List Value) (hs:a.eval s=v) (hown:w.ownsRow base e size v n xs)
 (ad:Addr) (m c:Nat) (news:List Value) (hx:a.eval x=.l (some ad) m c) (hl:news.length=m*size) (hnews:∀j u,news[j]?=some u->w.cell? (ad.add j)=some u) (h1:∀u∈news,u.oneCell'=true)
 (h63:n+m<=maxLen) (hbytes:(n+m)*bytes<=140737488355328) (hbase:base<=w.heap.size)
 (h:∀v' w',w'.ownsRow base e size v' (n+m) (xs++news)->w.grownBy w' v.ownBlock->(v'.ownBlock=v.ownBlock \/ v'.ownBlock=some w.heap.size)->K (a.put o.dst v') w'):Oper.wp P o a w K Q:=by
 obtain⟨v',w',hr,h2,h3,_,h5⟩:=run_append_own_at (P:=P) w base t o.type e i z size bytes ht hi hz hsize hby hzs hsz v n xs hown ad m c news hl hnews h1 h63 hbytes hbase;have hk:=h v' w' h2 h3 h5;unfold Oper.wp;simp only[execOp,ho,resolve,invoke,builtin,Sem.run_bind,Sem.run_pure,Result.andThen_ok,List.map_toArray,List.map_cons,List.map_nil,hs,hx,hr];exact hk
end
section
variable {P:Program} {ops:Array Oper} {Q:Exit->Act->World->Prop} {md:Region.Mode} {S:World->Prop}
theorem zoU {i j:Nat}{oi oj:Oper}{fuel:Nat}{listed:Array Bool}{a:Act}{w:World}(hi:nth ops.toList i=some oi)(hj:nth ops.toList j=some oj)
 (h1:∀K:Act->World->Prop,Shut (∀a w,S w->(S w->wpAnyH P md ops Q S fuel (listed.setIfInBounds i true) a w)->K a w)->Oper.wp P oi a w K Q)
 (h2:∀K:Act->World->Prop,Shut (∀a w,S w->(S w->wpAnyH P md ops Q S fuel (listed.setIfInBounds j true) a w)->K a w)->Oper.wp P oj a w K Q)
 (hr:Region.ready md ops listed=[i,j]:=by kernel_rfl) (hwi:Region.wanted oi (yielded ops a.tmps)=true:=by rfl) (hwj:Region.wanted oj (yielded ops a.tmps)=true:=by rfl):wpAnyH P md ops Q S (fuel+1) listed a w:=
 wpAnyH_ready hr (by simp) (AllReadyH.cons (zky hi) (fun K hK=>by rw[if_pos hwi];exact h1 K hK) (AllReadyH.cons (zky hj) (fun K hK=>by rw[if_pos hwj];exact h2 K hK) AllReadyH.nil))
end
set_option maxRecDepth 20000 in
theorem zod (r:Rl)(a:OA)(cap:Nat)(w:World)(hw:qm w a r.vs)(hl:r.vs.length<=1048576) :
 Calls Tryz.prog 74 #[.agg #[.l a r.vs.length cap,.s r.kd,.s r.tm,.s r.px]] w fun e w'=>∃a' cap',e=.returned (.agg #[.l a' r.vs.length cap',.s r.kd,.s r.tm,.s r.px])/\yx w.heap.size w' a' r.vs/\Bw w w':=by
 by_cases h0:r.vs=[]
 ·have hn:r.vs.length=0:=by rw[h0];rfl
  rw[hn]
  rcases a with _|g
  all_goals
   go_enter Tryz.func74,Tryz.ntmps74;go_wp2_with fail
   refine bodyPost_ret (v:=.agg #[.l (some (aD (w.heap.size+1+1) 0)) 0 0,.s r.kd,.s r.tm,.s r.px]) (by simp[results,Tryz.results74,go_sem]) rfl ⟨some (aD (w.heap.size+1+1) 0),0,rfl,Or.inr ⟨w.heap.size+1+1,#[],rfl,by omega,(zob w _ _ _).2.2,fun i hi=>absurd hi (by rw[h0];simp)⟩,below3' _ _ _ _⟩
 ·obtain⟨b,off,rfl,_⟩:=hw.cells h0
  obtain⟨i0,hi,hz0,hz1,hz2⟩:=info_parts Tryz.zhd;have k0:=zQ w (.cells #[.l (some (aD b off)) r.vs.length cap,.s r.kd,.s r.tm,.s r.px] 123) (.cells #[.l none 0 0,.s ⟨#[]⟩,.s ⟨#[]⟩,.s ⟨#[]⟩] 123);have hB0:=zw w (.cells #[.l (some (aD b off)) r.vs.length cap,.s r.kd,.s r.tm,.s r.px] 123) (.cells #[.l none 0 0,.s ⟨#[]⟩,.s ⟨#[]⟩,.s ⟨#[]⟩] 123);obtain⟨W,hW⟩:=xN ((w.alloc (.cells #[.l (some (aD b off)) r.vs.length cap,.s r.kd,.s r.tm,.s r.px] 123)).alloc (.cells #[.l none 0 0,.s ⟨#[]⟩,.s ⟨#[]⟩,.s ⟨#[]⟩] 123));have hz:W.heap.size=w.heap.size+1+1:=by rw[hW];simp
  go_enter Tryz.func74,Tryz.ntmps74
  go_wp2_with (at_builtin;refine zbB ?_)
  rw[<- hW]at k0 hB0 ⊢;clear hW;have hba:=(bRf W.heap.size W).alloc (Nat.le_refl _) (.cells #[] 3);have hna:(W.alloc (.cells #[] 3)).ownsRow (w.heap.size+1+1) 3 1 (.l (some (aD (w.heap.size+1+1) 0)) 0 0) 0 []:=⟨rfl,Or.inr ⟨w.heap.size+1+1,0,#[],rfl,Nat.le_refl _,by rw[<- hz];exact(MapKept.heap_alloc W _).1,Nat.le_refl _,by simp[maxLen],rfl,rfl⟩⟩
  show wpList _ _ _ _ _ _
  refine wpList_append_own _ rfl (.tmp 3) (.tmp 5) 109 rfl (w.heap.size+1+1) 3 i0 (.i 0) 1 8 Tryz.underlying109 hi hz0 hz1 hz2 rfl (by decide) (.l (some (aD (w.heap.size+1+1) 0)) 0 0) 0 [] rfl hna (aD b off) r.vs.length cap (ints r.vs) rfl (by simp[ints]) (zln ((hw.mono hB0).mono hba)) zmR (by unfold maxLen;omega) (by omega) (by have:=hba.size;omega) ?_;intro v' w1 hown hgr _;simp only[Nat.zero_add,List.nil_append]at hown;obtain⟨a',cap',rfl,ho⟩:=yx.zdq hown;have hb1:Bw W w1:=hba.grown hgr (by have:=hba.size;omega) (fun k hk=>by have:=Option.some.inj (show some (w.heap.size+1+1)=some k from hk);omega);have K0:=(hb1.block _ (by omega)).trans k0.1;have K1:=(hb1.block _ (by omega)).trans k0.2;have HF:Hid (yx (w.heap.size+1+1) w1 a' r.vs/\Bw w w1):=⟨ho,hB0.trans (hb1.mono (by omega))⟩
  have cQ:=fun j=>cell_of_block (o:=j) K0
  have fQ:=fun j=>zh (o:=j) K0
  have cR:=fun j=>cell_of_block (o:=j) K1
  have fR:=fun j=>zh (o:=j) K1
  have hsz:=hb1.size;clear hown hgr K0 K1 hb1 k0 hB0 ho hba hna;go_wp2_with fail
  refine bodyPost_ret (v:=.agg #[.l a' r.vs.length cap',.s r.kd,.s r.tm,.s r.px]) (by simp[results,Tryz.results74,go_sem,cR]) rfl ⟨a',cap',rfl,?_,?_⟩
  ·refine yx.low (lo:=w.heap.size+1+1) ?_ (by omega)
   iterate 4 refine yx.setCell ?_ _ (by show w.heap.size+1<_;omega) _
   refine yx.setCell ?_ _ (by show w.heap.size<_;omega) _;exact HF.o.1
  ·have h0:w.heap.size<=w.heap.size:=Nat.le_refl _
   have h1:w.heap.size<=w.heap.size+1:=Nat.le_succ _
   iterate 4 refine Below.setCell ?_ h1 _
   refine Below.setCell ?_ h0 _;exact HF.o.2
end Go.Proofs.YtcgpjfcocmcodaaGreat
