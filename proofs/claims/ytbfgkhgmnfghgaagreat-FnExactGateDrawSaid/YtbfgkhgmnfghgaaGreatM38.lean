import Derived.Test.YtbfgkhgmnfghgaaGreatM37
import Derived.Lib.SliceRun
import Derived.Test.YtbfgkhgmnfghgaaGreatM36
set_option maxHeartbeats 4000000
namespace Go.Proofs.YtbfgkhgmnfghgaaGreat
open Go.RowKit
theorem jN {t:TypeId}{b:Nat}:∀(vs:List Value) (o:Nat) (w:World) (C:AV),w.heap[b]?=some (.cells C t)->o+vs.length<=C.size->∃C',(w.setCells b o vs).heap[b]?=some (.cells C' t)/\C'.size=C.size/\(∀j,j<vs.length->C'[o+j]?=vs[j]?)/\∀x,(x<o \/ o+vs.length<=x)->C'[x]?=C[x]?
 | [],_,_,C,h,_=>⟨C,h,rfl,fun j hj=>by simp at hj,fun _ _=>rfl⟩
 | v :: r,o,w,C,h,hs=>by
  simp only[List.length_cons]at hs;obtain⟨C',h1,h2,h3,h4⟩:=jN r (o+1) (w.setCell (aD b o) v) _ (zi h v) (by simp;omega);refine⟨C',h1,h2.trans (by simp),fun j hj=>?_,fun x hx=>?_⟩
  ·cases j with
   | zero=>
    rw[h4 _ (by omega),Nat.add_zero,Array.getElem?_setIfInBounds,if_pos rfl,if_pos (by omega)]
    rfl
   | succ j=>
    rw[show o+(j+1)=o+1+j by omega,h3 j (by simpa using hj)]
    rfl
  ·simp only[List.length_cons]at hx
   rw[h4 x (by omega),Array.getElem?_setIfInBounds,if_neg (by omega)]
def zbq (ss:List Shp)(m:Mnd):Bool:=zJ ss m.kd&&yF (shapeOf ss m.kd).fs m
def zcw (ms:List Mnd)(s:Shp):Bool:=decide ((yj s ms s.fs.length).length=s.fs.length)
def jr (ss:List Shp)(ms:List Mnd):Bool:=zZ ss&&decide (ms.length<=12)&&ms.all (zbq ss)&&ss.all (zcw ms)
theorem zmx (a:OA)(cap:Nat)(ss:List Shp)(m:Mnd)(w:World)(hw:yX w a ss)(hm:m.Small) :
 Calls Tryz.prog 144 #[.l a ss.length cap,.agg m.cells] w fun e w'=>e=.returned (.bool (zbq ss m))/\Bw w w':=by
 by_cases hk:zJ ss m.kd=true
 ·refine(zmA a cap ss m w hw hm hk).mono ?_
  rintro e w'⟨rfl,hb⟩;exact⟨by unfold zbq;rw[hk];rfl,hb⟩
 ·have hkf:zJ ss m.kd=false:=by simpa using hk
  have HF:Hid (zbq ss m=false):=by unfold Hid zbq;rw[hkf];rfl
  unfold Mnd.cells;have hba:=(bRf w.heap.size w).alloc (Nat.le_refl _) (.cells #[.s m.kd,.s m.fd,.s m.wh,.s m.wi,.s m.pt,.s m.fr] 135);go_enter Tryz.func144,Tryz.ntmps144;go_wp2_with fail
  refine(zeA _ _ _ _ _ (hw.mono hba) hkf).mono ?_;rintro e w1⟨rfl,rfl⟩;go_wp2_with fail
  go_ret;exact⟨by rw[HF.o];rfl,hba⟩
set_option maxRecDepth 20000 in
theorem zeK (a a':OA)(cap cap':Nat)(ss:List Shp)(ms:List Mnd)(w:World)(hw:yX w a ss)(hm:qN w a' ms) :
 Calls Tryz.prog 106 #[.l a ss.length cap,.l a' ms.length cap'] w fun e w'=>e=.returned (.bool (jr ss ms))/\Bw w w':=by
 have HW:=yU hw hm;have hl:=hw.len;have hml:=hm.len;unfold maxLen at hl hml;clear hw hm
 by_cases hok:zZ ss=true
 rotate_left
 ·have hokf:zZ ss=false:=by simpa using hok
  have HF:Hid (jr ss ms=false):=by unfold Hid jr;rw[hokf];simp
  go_enter Tryz.func106,Tryz.ntmps106;go_wp2_with fail
  have h:=zb0 a cap ss w HW.o.1;rw[hokf]at h;refine h.mono ?_;rintro e w1⟨rfl,hb1⟩;clear h;go_wp2_with fail
  go_ret;exact⟨by rw[HF.o];rfl,hb1⟩
 have HOK:=hid hok
 by_cases h12:ms.length<=12
 rotate_left
 ·have HF:Hid (jr ss ms=false):=by unfold Hid jr;rw[decide_eq_false h12];simp
  go_enter Tryz.func106,Tryz.ntmps106;go_wp2_with fail
  have h:=zb0 a cap ss w HW.o.1;rw[hok]at h;refine h.mono ?_;rintro e w1⟨rfl,hb1⟩;clear h hok;go_wp2_with fail
  go_ret;exact⟨by rw[HF.o];rfl,hb1⟩
 have h12I:(ms.length:Int)<=12:=by omega
 go_enter Tryz.func106,Tryz.ntmps106;go_wp2_with fail
 have h:=zb0 a cap ss w HW.o.1;rw[hok]at h;refine h.mono ?_;rintro e w1⟨rfl,hb1⟩;have HB1:=hid hb1;clear h hok hb1;go_wp2_with fail
 go_loopw [5] (fun iv wr=>∃k:Nat,k<=ms.length/\iv=.i k/\(ms.take k).all (zbq ss)=true/\Bw w wr) (fun iv _=>ms.length-(intOf iv).toNat)
 case atStart=>exact⟨0,Nat.zero_le _,rfl,rfl,HB1.o⟩
 case round=>
  obtain⟨k,hk,rfl,hall,hB⟩:=hrel;have HB:=hid hB;have HA:=hid hall;clear hall hB
  by_cases hlt:k<ms.length
  ·obtain⟨b,off,rfl,hb,c0,c1,c2,c3,c4,c5⟩:=HW.o.2.load HB.o k hlt
   have hltI:(k:Int)<(ms.length:Int):=by omega
   have HSM:=hid (HW.o.2.small k hlt)
   have HTK:Hid ((ms.take (k+1)).all (zbq ss)=zbq ss ms[k]):=by
    unfold Hid;rw[tSe hlt,List.all_append,HA.o];simp
   have HNO:Hid (zbq ss ms[k]=false->jr ss ms=false):=by
    intro h
    have:ms.all (zbq ss)=false:=by rw[List.all_eq_false];exact⟨_,List.getElem_mem hlt,by rw[h];simp⟩
    unfold jr;rw[this];simp
   go_wp2_with fail
   have h:=zmx a cap ss ms[k] wr (HW.o.1.mono HB.o) HSM.o
   rcases hh:zbq ss ms[k] with _|_
   ·rw[hh]at h
    refine h.mono ?_;rintro e w3⟨rfl,hb3⟩;have HF:=yU (HNO.o hh) (HB.o.trans (hb3.mono HB.o.size));clear h hb3 hh c0 c1 c2 c3 c4 c5;go_wp2_with fail
    go_ret;exact⟨by rw[HF.o.1];rfl,HF.o.2⟩
   ·rw[hh]at h
    refine h.mono ?_;rintro e w3⟨rfl,hb3⟩;have HY:Hid ((ms.take (k+1)).all (zbq ss)=true/\Bw w w3):=⟨by rw[HTK.o];exact hh,HB.o.trans (hb3.mono HB.o.size)⟩
    clear h hb3 hh c0 c1 c2 c3 c4 c5;go_wp2_with fail
    exact⟨⟨k+1,by omega,by go_num,HY.o.1,HY.o.2⟩,zn hlt⟩
  ·have e:k=ms.length:=by omega
   have hall:=HA.o;rw[e,tOl (Nat.le_refl _)]at hall;have HALL:=hid hall;subst e;clear hall HA;go_wp2_with fail
   have HBw:=hid HB.o;clear HB
   go_loopw [6] (fun iv wq=>∃k:Nat,k<=ss.length/\iv=.i k/\(ss.take k).all (zcw ms)=true/\Bw w wq) (fun iv _=>ss.length-(intOf iv).toNat)
   case atStart=>exact⟨0,Nat.zero_le _,rfl,rfl,HBw.o⟩
   case round=>
    obtain⟨k,hk,rfl,hall,hB⟩:=hrel;have HB:=hid hB;have HA:=hid hall;clear hall hB
    by_cases hlt:k<ss.length
    ·obtain⟨b,off,rfl,hb,hr⟩:=HW.o.1.rows (by rintro rfl;simp at hlt)
     obtain⟨fa,fcap,hs0⟩:=hr k hlt;have HSI:Hid (∀W,Bw w W->zlR W b (off+k*2) ss[k] fa fcap):=fun W hbb=>hs0.mono hb hbb
     have hck:=(HSI.o _ HB.o).kind;have hcl:=(HSI.o _ HB.o).list;have hltI:(k:Int)<(ss.length:Int):=by omega
     have HTK:Hid ((ss.take (k+1)).all (zcw ms)=zcw ms ss[k]):=by
      unfold Hid;rw[tSe hlt,List.all_append,HA.o];simp
     have HNO:Hid (zcw ms ss[k]=false->jr ss ms=false):=by
      intro h
      have:ss.all (zcw ms)=false:=by rw[List.all_eq_false];exact⟨_,List.getElem_mem hlt,by rw[h];simp⟩
      unfold jr;rw[this];simp
     have HFW:=hid (zf9 HOK.o k hlt);clear hr hs0;go_wp2_with fail
     have hbc:=HB.o.drew;have hL:=(⟨(HSI.o _ hbc).kind,(HSI.o _ hbc).list⟩:_/\_)
     go_region_held3 (fun w'=>w'.cell? (aD b (off+k*2))=some (.s ss[k].kd)/\w'.cell? (aD b (off+k*2+1))=some (.l fa ss[k].fs.length fcap)) (exact hL) (first
      | (go_at_call 145;refine(zlD fa a' fcap cap' ss[k] ms _ (by exact(HSI.o _ hbc).zdS) (by exact HW.o.2.mono hbc) h12 HFW.o).mono ?_;rintro e w5⟨v5,rfl,hrow,hb5⟩;obtain⟨ra,rcap,rfl⟩:=qF hrow;have hbc:=hbc.trans (hb5.mono hbc.size);have hL:=(⟨(HSI.o _ hbc).kind,(HSI.o _ hbc).list⟩:_/\_);clear hb5 hrow))
     by_cases hrk:(yj ss[k] ms ss[k].fs.length).length=ss[k].fs.length
     ·have hrI:(((yj ss[k] ms ss[k].fs.length).length:Int) != (ss[k].fs.length:Int))=false:=by rw[hrk];simp
      have HY:Hid ((ss.take (k+1)).all (zcw ms)=true):=by unfold Hid;rw[HTK.o];unfold zcw;exact decide_eq_true hrk
      clear hrk;go_wp2_with fail
      exact⟨⟨k+1,by omega,by go_num,HY.o,hbc⟩,zn hlt⟩
     ·have hrI:(((yj ss[k] ms ss[k].fs.length).length:Int) != (ss[k].fs.length:Int))=true:=by rw[bne_iff_ne];omega
      have HF:Hid (jr ss ms=false):=HNO.o (by unfold zcw;exact decide_eq_false hrk);clear hrk;go_wp2_with fail
      go_ret;exact⟨by rw[HF.o];rfl,hbc⟩
    ·have e:k=ss.length:=by omega
     have hall:=HA.o;rw[e,tOl (Nat.le_refl _)]at hall;have HF:Hid (jr ss ms=true):=by unfold Hid jr;rw[HALL.o,HOK.o,hall,decide_eq_true h12];rfl
     subst e;clear hall HA;go_wp2_with fail
     go_ret;exact⟨by rw[HF.o];rfl,HB.o⟩
theorem zlU (b:Bk)(a0 a1 a2 a3:OA)(c0 c1 c2 c3:Nat)(tm rs:BA)(w:World)(hb:jk w b a0 a1 a2 a3)(hl:b.ps.length<=1000)(ha:∀i (h:i<b.ps.length),0<=b.ps[i].am/\b.ps[i].am<=1000000) :
 Calls Tryz.prog 117 #[.agg (b.cells a0 a1 a2 a3 c0 c1 c2 c3),.s tm,.s rs] w fun e w'=>e=.returned (.i (out b.ps tm rs))/\Bw w w':=by
 have HK:=hid hb;have HA:Hid (∀i (h:i<b.ps.length),0<=b.ps[i].am/\b.ps[i].am<=1000000):=ha;clear hb ha;unfold Bk.cells;go_enter Tryz.func117,Tryz.ntmps117;go_wp2_with fail
 have hX0:=zl w (bC b a0 a1 a2 a3 c0 c1 c2 c3) 40;have HB0:Hid (Bw w (w.alloc (.cells (bC b a0 a1 a2 a3 c0 c1 c2 c3) 40))):=bAl _ _;obtain⟨W0,hW0⟩:=nm (w.alloc (.cells (bC b a0 a1 a2 a3 c0 c1 c2 c3) 40));have hz0:w.heap.size<W0.heap.size:=by rw[hW0];simp
 rw[<- hW0]at HB0 hX0 ⊢;clear hW0
 go_loopw [7,8] (fun nv iv wr=>∃(k:Nat) (s:Int),k<=b.ps.length/\iv=.i k/\nv=.i s/\Hid (s=zbp b.ps tm rs k)/\wr=W0) (fun _ iv _=>b.ps.length-(intOf iv).toNat)
 case atStart=>exact⟨0,0,Nat.zero_le _,rfl,rfl,by simp[zbp,Hid],rfl⟩
 case round=>
  obtain⟨k,s,hk,rfl,rfl,HQ,rfl⟩:=hrel;have hkn:k<=1000:=by omega
  have hsb:0<=s/\s<=1000000000:=by have h1:=HQ.o;have h2:=zbK b.ps tm rs HA.o k hk;omega
  by_cases hlt:k<b.ps.length
  ·obtain⟨ob,off,rfl,hob,d0,d1,d2,d3,d4⟩:=HK.o.ps.load HB0.o k hlt
   have hltI:(k:Int)<(b.ps.length:Int):=by omega
   have HSt:=hid (zfB b.ps tm rs k hlt);have hab:=HA.o k hlt;clear d0 d4
   by_cases h1:b.ps[k].tm=tm
   ·have e1:(b.ps[k].tm.toList == tm.toList)=true:=by rw[beq_toList];simpa using h1
    by_cases h2:b.ps[k].rs=rs
    ·have e2:(b.ps[k].rs.toList == rs.toList)=true:=by rw[beq_toList];simpa using h2
     have HN:Hid (zbp b.ps tm rs (k+1)=s+b.ps[k].am):=by unfold Hid;rw[HSt.o,<- HQ.o,if_pos (by unfold zoL;simp[h1,h2])]
     clear h1 h2;go_wp2_with fail
     exact⟨⟨k+1,s+b.ps[k].am,by omega,by go_num,by go_num,HN.o.symm,trivial⟩,zn hlt⟩
    ·have e2:(b.ps[k].rs.toList == rs.toList)=false:=by rw[beq_toList];simpa using h2
     have HN:Hid (zbp b.ps tm rs (k+1)=s):=by unfold Hid;rw[HSt.o,<- HQ.o,if_neg (by unfold zoL;simp[h2])];omega
     clear h1 h2;go_wp2_with fail
     exact⟨⟨k+1,s,by omega,by go_num,rfl,HN.o.symm,trivial⟩,zn hlt⟩
   ·have e1:(b.ps[k].tm.toList == tm.toList)=false:=by rw[beq_toList];simpa using h1
    have HN:Hid (zbp b.ps tm rs (k+1)=s):=by unfold Hid;rw[HSt.o,<- HQ.o,if_neg (by unfold zoL;simp[h1])];omega
    clear h1;go_wp2_with fail
    exact⟨⟨k+1,s,by omega,by go_num,rfl,HN.o.symm,trivial⟩,zn hlt⟩
  ·have e:k=b.ps.length:=by omega
   subst e;have HE:Hid (out b.ps tm rs=s):=by unfold Hid out;exact HQ.o.symm
   clear HQ hlt hk;go_wp2_with fail
   go_ret;exact⟨zq HE.o.symm,HB0.o⟩
theorem zeI (a c:OA)(ca cc:Nat)(xs ys:List BA)(w:World)(hx:zG w a xs)(hy:zG w c ys)(hl:xs.length<=1048576)(hl':ys.length<=1048576) :
 Calls Tryz.prog 111 #[.l a xs.length ca,.l c ys.length cc] w fun e w'=>e=.returned (.bool (decide (xs=ys)))/\Bw w w':=by
 obtain⟨r,hr⟩:=nm (decide (xs=ys));rw[<- hr];have HR:=hid hr;have HX:=yU hx hy;clear hr hx hy
 by_cases hn:xs.length=ys.length
 rotate_left
 ·have HF:Hid (r=false):=by unfold Hid;rw[HR.o,decide_eq_false_iff_not];intro e;exact hn (by rw[e])
  have e1:((xs.length:Int) != (ys.length:Int))=true:=by simp;omega
  clear hn;go_enter Tryz.func111,Tryz.ntmps111;go_wp2_with fail
  go_ret;exact⟨ze HF.o.symm,bRf _ _⟩
 have e1:((xs.length:Int) != (ys.length:Int))=false:=by simp;omega
 have HN:=hid hn;clear hn;go_enter Tryz.func111,Tryz.ntmps111;go_wp2_with fail
 go_loopw [5] (fun iv wr=>∃k:Nat,k<=xs.length/\iv=.i k/\Hid ((∀i (h:i<xs.length) (h':i<ys.length),i<k->xs[i]=ys[i])/\Bw w wr)) (fun iv _=>xs.length-(intOf iv).toNat)
 case atStart=>exact⟨0,Nat.zero_le _,rfl,fun i h h' hk=>by omega,bRf _ _⟩
 case round=>
  obtain⟨k,hk,rfl,HQ⟩:=hrel;have hkn:k<=1048576:=by omega
  by_cases hlt:k<xs.length
  ·have hlt':k<ys.length:=by have:=HN.o;omega
   obtain⟨p,po,rfl,hp,hpc⟩:=HX.o.1.cells (by intro e;rw[e]at hlt;simp at hlt);obtain⟨q,qo,rfl,hq,hqc⟩:=HX.o.2.cells (by intro e;rw[e]at hlt';simp at hlt');have c1:=(HQ.o.2.cell (p:=(aD p (po+k))) hp).trans (hpc k hlt);have c2:=(HQ.o.2.cell (p:=(aD q (qo+k))) hq).trans (hqc k hlt');have hltI:(k:Int)<(xs.length:Int):=by omega
   have hltI':(k:Int)<(ys.length:Int):=by omega
   have hp':=nLt hp HQ.o.2.size;have hq':=nLt hq HQ.o.2.size;have HB:=hid HQ.o.2;clear hpc hqc
   by_cases he:xs[k]=ys[k]
   ·have e2:(xs[k].toList == ys[k].toList)=true:=by rw[beq_toList];simpa using he
    have HA:Hid (∀i (h:i<xs.length) (h':i<ys.length),i<k+1->xs[i]=ys[i]):=by
     intro i h h' hi
     rcases Nat.eq_or_lt_of_le (Nat.le_of_lt_succ hi) with e|h2
     ·subst e;exact he
     ·exact HQ.o.1 i h h' h2
    clear he HQ;go_wp2_with fail
    go_quiet (fail)
    go_wp2_with fail
    exact⟨⟨k+1,by omega,by go_num,HA.o,below_drewN HB.o _⟩,zn hlt⟩
   ·have e2:(xs[k].toList == ys[k].toList)=false:=by rw[beq_toList];simpa using he
    have HF:Hid (r=false):=by
     unfold Hid;rw[HR.o,decide_eq_false_iff_not];intro e;subst e;exact he rfl
    clear he HQ;go_wp2_with fail
    go_quiet (fail)
    go_wp2_with fail
    go_ret;exact⟨ze HF.o.symm,below_drewN HB.o _⟩
  ·have HF:Hid (r=true):=by
    unfold Hid;rw[HR.o,decide_eq_true_eq];exact List.ext_getElem HN.o fun i h h'=>HQ.o.1 i h h' (by omega)
   have HB:=hid HQ.o.2;clear HQ;go_wp2_with fail
   go_ret;exact⟨ze HF.o.symm,HB.o⟩
theorem zeg {P:Program}{w:World}{ops:Array Oper}{rest:List Oper}{o:Oper}{a:Act}{Q:Exit->Act->World->Prop}(hgd:o.guard=none)(s x:Operand)(t:TypeId)
 (ho:o.op=.call { callee:=.builtin .append,args:=#[s,x],argTypes:=#[t,t] })
 (e:TypeId) (i:TypeInfo) (z:Value) (size bytes:Nat) (ht:P.underlying t=some (.slice e)) (hi:P.info? e=some i) (hz:i.zero=some z)
 (hsize:i.size=size) (hby:i.bytes=bytes) (hzs:z.cells.size=size) (hsz:0<size) (hs:a.eval s=.l none 0 0)
 (ad:OA) (n c:Nat) (news:List Value) (hx:a.eval x=.l ad n c) (hl:news.length=n*size) (hn:n≠0->∃p,ad=some p/\∀j u,news[j]?=some u->w.cell? (p.add j)=some u) (h1:∀u∈news,u.oneCell'=true)
 (h63:n<=maxLen) (hbytes:n*bytes<=140737488355328)
 (h:∀v' w',w'.ownsRow w.heap.size e size v' n news->Bw w w'->wpList P ops Q rest (a.put o.dst v') w'):wpList P ops Q (o :: rest) a w:=by
 by_cases h0:n=0
 ·subst h0
  have hr:(Builtin.append_ #[t,t] o.type #[.l none 0 0,.l ad 0 c]).run P w=.ok (.l none 0 0) w:=by
   have hso:(sizeOf e).run P w=.ok size w:=by
    unfold sizeOf typeInfo
    simp[hi,hsize,go_sem,Result.andThen]
   rcases ad with _|p
   ·simp[Builtin.append_,run_underlying ht,Builtin.lenOf,Builtin.firstCells,go_sem,Result.andThen,hso]
   ·simp[Builtin.append_,run_underlying ht,Builtin.lenOf,Builtin.firstCells,go_sem,Result.andThen,hso]
  refine wpList_plain hgd fun K hK=>?_
  unfold Oper.wp;simp only[execOp,ho,resolve,invoke,builtin,Sem.run_bind,Sem.run_pure,Result.andThen_ok,List.map_toArray,List.map_cons,List.map_nil,hs,hx,hr];have hnews:news=[]:=List.length_eq_zero_iff.1 (by rw[hl];simp);exact hK _ _ (h _ _ (by rw[hnews];exact World.ownsRow_nil _ _ _ _) (bRf _ _))
 ·obtain⟨p,rfl,hc⟩:=hn h0
  refine wpList_append_own w hgd s x t ho w.heap.size e i z size bytes ht hi hz hsize hby hzs hsz (.l none 0 0) 0 [] hs (World.ownsRow_nil _ _ _ _) p n c news hx hl hc h1 (by omega) (by rw[Nat.zero_add];exact hbytes) (Nat.le_refl _) ?_;intro v' w' hown hgr _;rw[Nat.zero_add,List.nil_append]at hown;exact h v' w' hown ((bRf _ _).grown hgr (Nat.le_refl _) (by simp[Value.ownBlock]))
theorem zkD {C:AV}{xs vs:List Value}{p m s:Nat}(hm:xs.length=m)(hs:vs.length=s)(hp:p<=m)(_:m+s<=C.size)(h1:∀j,j<p->C[j]?=xs[j]?)(h2:∀j,j<s->C[p+j]?=vs[j]?)(h3:∀j,j<m-p->C[p+s+j]?=(xs.drop p)[j]?):C.toList.take (m+s)=xs.take p++(vs++xs.drop p):=by
 apply List.ext_getElem?
 intro j;have hl:(xs.take p).length=p:=by rw[List.length_take];omega
 by_cases hj:j<m+s
 ·rw[List.getElem?_take_of_lt hj,Array.getElem?_toList]
  by_cases hj1:j<p
  ·rw[List.getElem?_append_left (by omega),List.getElem?_take_of_lt hj1];exact h1 j hj1
  ·rw[List.getElem?_append_right (by omega),hl]
   by_cases hj2:j-p<s
   ·rw[List.getElem?_append_left (by omega),<- h2 _ hj2];congr 1;omega
   ·rw[List.getElem?_append_right (by omega),hs,<- h3 _ (by omega)];congr 1;omega
 ·rw[List.getElem?_eq_none (by rw[List.length_take];omega),List.getElem?_eq_none (by simp;omega)]
theorem zm0 {e:TypeId}{g p m s:Nat}{w W:World}{cur:AV}{xs vs:List Value}(hg:w.heap[g]?=some (.cells cur e))(hx:cur.toList.take m=xs)(hl:xs.length=m)(hp:p<=m)(hz:m+s<=cur.size)(hv:vs.length=s)
 (hW:W=(w.setCells g (p+s) (xs.drop p)).setCells g p vs):∃C,W.heap[g]?=some (.cells C e)/\C.size=cur.size/\C.toList.take (m+s)=xs.take p++(vs++xs.drop p):=by
 have hd:(xs.drop p).length=m-p:=by rw[List.length_drop,hl]
 obtain⟨C1,e1,e2,e3,e4⟩:=jN (xs.drop p) (p+s) w cur hg (by omega);obtain⟨C2,f1,f2,f3,f4⟩:=jN vs p _ C1 e1 (by omega);refine⟨C2,by rw[hW];exact f1,f2.trans e2,zkD hl hv hp (by omega) (fun j hj=>?_) (fun j hj=>f3 j (by omega)) (fun j hj=>?_)⟩
 ·rw[f4 j (by omega),e4 j (by omega),<- hx,List.getElem?_take_of_lt (by omega),Array.getElem?_toList]
 ·rw[f4 _ (by omega),e3 j (by omega)]
theorem zoW {e:TypeId}{g p m s:Nat}{w W:World}{cur:AV}{xs vs:List Value}(hg:w.heap[g]?=some (.cells cur e))(hx:∀j,j<p->cur[j]?=xs[j]?)(hl:xs.length=m)(hp:p<=m)(hz:m+s<=cur.size)(hv:vs.length=s)
 (hW:W=(w.setCells g p vs).setCells g (p+s) (xs.drop p)):∃C,W.heap[g]?=some (.cells C e)/\C.size=cur.size/\C.toList.take (m+s)=xs.take p++(vs++xs.drop p):=by
 have hd:(xs.drop p).length=m-p:=by rw[List.length_drop,hl]
 obtain⟨C1,e1,e2,e3,e4⟩:=jN vs p w cur hg (by omega);obtain⟨C2,f1,f2,f3,f4⟩:=jN (xs.drop p) (p+s) _ C1 e1 (by omega);refine⟨C2,by rw[hW];exact f1,f2.trans e2,zkD hl hv hp (by omega) (fun j hj=>?_) (fun j hj=>?_) (fun j hj=>f3 j (by omega))⟩
 ·rw[f4 j (by omega),e4 j (by omega)];exact hx j hj
 ·rw[f4 _ (by omega),e3 j (by omega)]
theorem zaj {w:World}{b:Nat}{r:Option Nat}(hr:r=some b \/ w.heap.size<=b):∀(vs:List Value) (o:Nat) (W:World),w.grownBy W r->w.grownBy (W.setCells b o vs) r
 | [],_,_,h=>h
 | v :: vs,o,W,h=>zaj hr vs (o+1) _ ⟨h.os,h.tape,h.output,by have:=h.size;simpa[World.setCell] using this,fun k hk hn=>(Below.heap_setCell _ _ _ _ (by show k≠b;rintro rfl;rcases hr with rfl|hr;exact hn rfl;omega)).trans (h.block k hk hn)⟩
theorem zdj (b:Nat):∀(vs:List Value) (o:Nat) (w:World),(w.setCells b o vs).drew=w.drew.setCells b o vs
 | [],_,_=>rfl
 | v :: r,o,w=>by rw[World.setCells,World.setCells,zdj b r];rfl
theorem zjt {w:World}{lo sz:Nat}{e:TypeId}{g n cap:Nat}{xs:List Value}(h:w.ownsRow lo e sz (.l (some (aD g 0)) n cap) n xs)(j:Nat)(u:Value):(w.setCell (aD g j) u).ownsRow lo e sz (.l (some (aD g 0)) n cap) n (xs.set j u):=by
 obtain⟨hl,⟨h0,hz⟩|⟨b,cp,cur,h0,hlo,hh,hnc,hm,hs,ht⟩⟩:=h
 ·cases h0
 ·cases h0
  exact⟨by simpa using hl,Or.inr ⟨g,cap,cur.setIfInBounds j u,rfl,hlo,zi hh u,hnc,hm,by simpa using hs,by rw[Array.toList_setIfInBounds,List.take_set,ht]⟩⟩
theorem ze0 {α:Type}(row:α->List Value)(n:Nat)(hn:∀p,(row p).length=n):∀(ps:List α) (i:Nat) (h:i<ps.length) (j:Nat) (u:Value) (y:α),j<n->row y=(row ps[i]).set j u->(ps.set i y).flatMap row=(ps.flatMap row).set (i*n+j) u
 | [],i,h,_,_,_,_,_=>by simp at h
 | p :: ps,0,_,j,u,y,hj,hy=>by
  rw[List.set_cons_zero,List.flatMap_cons,List.flatMap_cons,Nat.zero_mul,Nat.zero_add,List.set_append_left _ _ (by rw[hn];exact hj)];rw[hy];rfl
 | p :: ps,i+1,h,j,u,y,hj,hy=>by
  rw[List.set_cons_succ,List.flatMap_cons,List.flatMap_cons,List.set_append_right _ _ (by rw[hn,Nat.succ_mul];omega),hn,show(i+1)*n+j-n=i*n+j by rw[Nat.succ_mul];omega,ze0 row n hn ps i (by simpa using h) j u y hj hy]
end Go.Proofs.YtbfgkhgmnfghgaaGreat
