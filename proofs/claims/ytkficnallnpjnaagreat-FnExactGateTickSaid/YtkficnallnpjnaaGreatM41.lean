import Derived.Test.YtkficnallnpjnaaGreatM40
import Derived.Test.YtkficnallnpjnaaGreatM38
set_option maxHeartbeats 4000000
namespace Go.Proofs.YtkficnallnpjnaaGreat
open Go.RowKit
theorem zdY {P:Program}{w:World}{ops:Array Oper}{rest:List Oper}{o:Oper}{a:Act}{Q:Exit->Act->World->Prop}(hgd:o.guard=none)(s x:Operand)(t:TypeId)
 (ho:o.op=.call { callee:=.builtin .append,args:=#[s,x],argTypes:=#[t,t] })
 (e:TypeId) (i:TypeInfo) (z:Value) (size bytes:Nat) (ht:P.underlying t=some (.slice e)) (hi:P.info? e=some i) (hz:i.zero=some z)
 (hsize:i.size=size) (hby:i.bytes=bytes) (hzs:z.cells.size=size) (hsz:0<size) (hs:a.eval s=.slice none 0 0)
 (ad:Option Addr) (n c:Nat) (news:List Value) (hx:a.eval x=.slice ad n c) (hl:news.length=n*size) (hn:n≠0->∃p,ad=some p/\∀j u,news[j]?=some u->w.cell? (p.add j)=some u) (h1:∀u∈news,u.oneCell'=true)
 (h63:n<=maxLen) (hbytes:n*bytes<=140737488355328)
 (h:∀v' w',w'.ownsRow w.heap.size e size v' n news->Below w.heap.size w w'->wpList P ops Q rest (a.put o.dst v') w'):wpList P ops Q (o :: rest) a w:=by
 by_cases h0:n=0
 ·subst h0
  have hr:(Builtin.append_ #[t,t] o.type #[.slice none 0 0,.slice ad 0 c]).run P w=.ok (.slice none 0 0) w:=by
   have hso:(sizeOf e).run P w=.ok size w:=by
    unfold sizeOf typeInfo
    simp[hi,hsize,go_sem,Result.andThen]
   rcases ad with _|p
   ·simp[Builtin.append_,run_underlying ht,Builtin.lenOf,Builtin.firstCells,go_sem,Result.andThen,hso]
   ·simp[Builtin.append_,run_underlying ht,Builtin.lenOf,Builtin.firstCells,go_sem,Result.andThen,hso]
  refine wpList_plain hgd fun K hK=>?_
  unfold Oper.wp;simp only[execOp,ho,resolve,invoke,builtin,Sem.run_bind,Sem.run_pure,Result.andThen_ok,List.map_toArray,List.map_cons,List.map_nil,hs,hx,hr];have hnews:news=[]:=List.length_eq_zero_iff.1 (by rw[hl];simp);exact hK _ _ (h _ _ (by rw[hnews];exact World.ownsRow_nil _ _ _ _) (bRf _ _))
 ·obtain⟨p,rfl,hc⟩:=hn h0
  refine wpList_append_own w hgd s x t ho w.heap.size e i z size bytes ht hi hz hsize hby hzs hsz (.slice none 0 0) 0 [] hs (World.ownsRow_nil _ _ _ _) p n c news hx hl hc h1 (by omega) (by rw[Nat.zero_add];exact hbytes) (Nat.le_refl _) ?_;intro v' w' hown hgr _;rw[Nat.zero_add,List.nil_append]at hown;exact h v' w' hown ((bRf _ _).grown hgr (Nat.le_refl _) (by simp[Value.ownBlock]))
def zbi (ss:List Shp)(m:Mnd):Bool:=zJ ss m.kd&&yE (shapeOf ss m.kd).fs m
def zcn (ms:List Mnd)(s:Shp):Bool:=decide ((yh s ms s.fs.length).length=s.fs.length)
def jq (ss:List Shp)(ms:List Mnd):Bool:=zZ ss&&decide (ms.length<=12)&&ms.all (zbi ss)&&ss.all (zcn ms)
theorem zlQ (a:Option Addr)(cap:Nat)(ss:List Shp)(m:Mnd)(w:World)(hw:yT w a ss)(hm:m.Small) :
 Calls Tryz.prog 135 #[.slice a ss.length cap,.agg m.cells] w fun e w'=>e=.returned (.bool (zbi ss m))/\Below w.heap.size w w':=by
 by_cases hk:zJ ss m.kd=true
 ·refine(zlJ a cap ss m w hw hm hk).mono ?_
  rintro e w'⟨rfl,hb⟩;exact⟨by unfold zbi;rw[hk];rfl,hb⟩
 ·have hkf:zJ ss m.kd=false:=by simpa using hk
  have HF:Hid (zbi ss m=false):=by unfold Hid zbi;rw[hkf];rfl
  unfold Mnd.cells;have hba:=(bRf w.heap.size w).alloc (Nat.le_refl _) (.cells #[.string m.kd,.string m.fd,.string m.wh,.string m.wi,.string m.pt,.string m.fr] 130);go_enter Tryz.func135,Tryz.ntmps135;go_wp2_with fail
  refine(zed _ _ _ _ _ (hw.mono hba) hkf).mono ?_;rintro e w1⟨rfl,rfl⟩;go_wp2_with fail
  go_ret;exact⟨by rw[HF.out];rfl,hba⟩
set_option maxRecDepth 20000 in
theorem zer (a a':Option Addr)(cap cap':Nat)(ss:List Shp)(ms:List Mnd)(w:World)(hw:yT w a ss)(hm:qK w a' ms) :
 Calls Tryz.prog 100 #[.slice a ss.length cap,.slice a' ms.length cap'] w fun e w'=>e=.returned (.bool (jq ss ms))/\Below w.heap.size w w':=by
 have HW:=qE hw hm;have hl:=hw.len;have hml:=hm.len;unfold maxLen at hl hml;clear hw hm
 by_cases hok:zZ ss=true
 rotate_left
 ·have hokf:zZ ss=false:=by simpa using hok
  have HF:Hid (jq ss ms=false):=by unfold Hid jq;rw[hokf];simp
  go_enter Tryz.func100,Tryz.ntmps100;go_wp2_with fail
  have h:=zbY a cap ss w HW.out.1;rw[hokf]at h;refine h.mono ?_;rintro e w1⟨rfl,hb1⟩;clear h;go_wp2_with fail
  go_ret;exact⟨by rw[HF.out];rfl,hb1⟩
 have HOK:=hid hok
 by_cases h12:ms.length<=12
 rotate_left
 ·have HF:Hid (jq ss ms=false):=by unfold Hid jq;rw[decide_eq_false h12];simp
  go_enter Tryz.func100,Tryz.ntmps100;go_wp2_with fail
  have h:=zbY a cap ss w HW.out.1;rw[hok]at h;refine h.mono ?_;rintro e w1⟨rfl,hb1⟩;clear h hok;go_wp2_with fail
  go_ret;exact⟨by rw[HF.out];rfl,hb1⟩
 have h12I:(ms.length:Int)<=12:=by omega
 go_enter Tryz.func100,Tryz.ntmps100;go_wp2_with fail
 have h:=zbY a cap ss w HW.out.1;rw[hok]at h;refine h.mono ?_;rintro e w1⟨rfl,hb1⟩;have HB1:=hid hb1;clear h hok hb1;go_wp2_with fail
 go_loopw [5] (fun iv wr=>∃k:Nat,k<=ms.length/\iv=.int .i64 k/\(ms.take k).all (zbi ss)=true/\Below w.heap.size w wr) (fun iv _=>ms.length-(intOf iv).toNat)
 case atStart=>exact⟨0,Nat.zero_le _,rfl,rfl,HB1.out⟩
 case round=>
  obtain⟨k,hk,rfl,hall,hB⟩:=hrel;have HB:=hid hB;have HA:=hid hall;clear hall hB
  by_cases hlt:k<ms.length
  ·obtain⟨b,off,rfl,hb,c0,c1,c2,c3,c4,c5⟩:=HW.out.2.load HB.out k hlt
   have hltI:(k:Int)<(ms.length:Int):=by omega
   have HSM:=hid (HW.out.2.small k hlt)
   have HTK:Hid ((ms.take (k+1)).all (zbi ss)=zbi ss ms[k]):=by
    unfold Hid;rw[tSe hlt,List.all_append,HA.out];simp
   have HNO:Hid (zbi ss ms[k]=false->jq ss ms=false):=by
    intro h
    have:ms.all (zbi ss)=false:=by rw[List.all_eq_false];exact⟨_,List.getElem_mem hlt,by rw[h];simp⟩
    unfold jq;rw[this];simp
   go_wp2_with fail
   have h:=zlQ a cap ss ms[k] wr (HW.out.1.mono HB.out) HSM.out
   rcases hh:zbi ss ms[k] with _|_
   ·rw[hh]at h
    refine h.mono ?_;rintro e w3⟨rfl,hb3⟩;have HF:=qE (HNO.out hh) (HB.out.trans (hb3.mono HB.out.size));clear h hb3 hh c0 c1 c2 c3 c4 c5;go_wp2_with fail
    go_ret;exact⟨by rw[HF.out.1];rfl,HF.out.2⟩
   ·rw[hh]at h
    refine h.mono ?_;rintro e w3⟨rfl,hb3⟩;have HY:Hid ((ms.take (k+1)).all (zbi ss)=true/\Below w.heap.size w w3):=⟨by rw[HTK.out];exact hh,HB.out.trans (hb3.mono HB.out.size)⟩
    clear h hb3 hh c0 c1 c2 c3 c4 c5;go_wp2_with fail
    exact⟨⟨k+1,by omega,by go_num,HY.out.1,HY.out.2⟩,zq hlt⟩
  ·have e:k=ms.length:=by omega
   have hall:=HA.out;rw[e,tOl (Nat.le_refl _)]at hall;have HALL:=hid hall;subst e;clear hall HA;go_wp2_with fail
   have HBw:=hid HB.out;clear HB
   go_loopw [6] (fun iv wq=>∃k:Nat,k<=ss.length/\iv=.int .i64 k/\(ss.take k).all (zcn ms)=true/\Below w.heap.size w wq) (fun iv _=>ss.length-(intOf iv).toNat)
   case atStart=>exact⟨0,Nat.zero_le _,rfl,rfl,HBw.out⟩
   case round=>
    obtain⟨k,hk,rfl,hall,hB⟩:=hrel;have HB:=hid hB;have HA:=hid hall;clear hall hB
    by_cases hlt:k<ss.length
    ·obtain⟨b,off,rfl,hb,hr⟩:=HW.out.1.rows (by rintro rfl;simp at hlt)
     obtain⟨fa,fcap,hs0⟩:=hr k hlt;have HSI:Hid (∀W,Below w.heap.size w W->zll W b (off+k*2) ss[k] fa fcap):=fun W hbb=>hs0.mono hb hbb
     have hck:=(HSI.out _ HB.out).kind;have hcl:=(HSI.out _ HB.out).list;have hltI:(k:Int)<(ss.length:Int):=by omega
     have HTK:Hid ((ss.take (k+1)).all (zcn ms)=zcn ms ss[k]):=by
      unfold Hid;rw[tSe hlt,List.all_append,HA.out];simp
     have HNO:Hid (zcn ms ss[k]=false->jq ss ms=false):=by
      intro h
      have:ss.all (zcn ms)=false:=by rw[List.all_eq_false];exact⟨_,List.getElem_mem hlt,by rw[h];simp⟩
      unfold jq;rw[this];simp
     have HFW:=hid (zfS HOK.out k hlt);clear hr hs0;go_wp2_with fail
     have hbc:=HB.out.drew;have hL:=(⟨(HSI.out _ hbc).kind,(HSI.out _ hbc).list⟩:_/\_)
     go_region_held3 (fun w'=>w'.cell? ⟨b,off+k*2,none⟩=some (.string ss[k].kd)/\w'.cell? ⟨b,off+k*2+1,none⟩=some (.slice fa ss[k].fs.length fcap)) (exact hL) (first
      | (go_at_call 136;refine(zk8 fa a' fcap cap' ss[k] ms _ (by exact(HSI.out _ hbc).zdy) (by exact HW.out.2.mono hbc) h12 HFW.out).mono ?_;rintro e w5⟨v5,rfl,hrow,hb5⟩;obtain⟨ra,rcap,rfl⟩:=qC hrow;have hbc:=hbc.trans (hb5.mono hbc.size);have hL:=(⟨(HSI.out _ hbc).kind,(HSI.out _ hbc).list⟩:_/\_);clear hb5 hrow))
     by_cases hrk:(yh ss[k] ms ss[k].fs.length).length=ss[k].fs.length
     ·have hrI:(((yh ss[k] ms ss[k].fs.length).length:Int) != (ss[k].fs.length:Int))=false:=by rw[hrk];simp
      have HY:Hid ((ss.take (k+1)).all (zcn ms)=true):=by unfold Hid;rw[HTK.out];unfold zcn;exact decide_eq_true hrk
      clear hrk;go_wp2_with fail
      exact⟨⟨k+1,by omega,by go_num,HY.out,hbc⟩,zq hlt⟩
     ·have hrI:(((yh ss[k] ms ss[k].fs.length).length:Int) != (ss[k].fs.length:Int))=true:=by rw[bne_iff_ne];omega
      have HF:Hid (jq ss ms=false):=HNO.out (by unfold zcn;exact decide_eq_false hrk);clear hrk;go_wp2_with fail
      go_ret;exact⟨by rw[HF.out];rfl,hbc⟩
    ·have e:k=ss.length:=by omega
     have hall:=HA.out;rw[e,tOl (Nat.le_refl _)]at hall;have HF:Hid (jq ss ms=true):=by unfold Hid jq;rw[HALL.out,HOK.out,hall,decide_eq_true h12];rfl
     subst e;clear hall HA;go_wp2_with fail
     go_ret;exact⟨by rw[HF.out];rfl,HB.out⟩
theorem zli (b:Bk)(a0 a1 a2 a3:Option Addr)(c0 c1 c2 c3:Nat)(tm rs:ByteArray)(w:World)(hb:q8 w b a0 a1 a2 a3)(hl:b.ps.length<=1000)(ha:∀i (h:i<b.ps.length),0<=b.ps[i].am/\b.ps[i].am<=1000000) :
 Calls Tryz.prog 113 #[.agg (b.cells a0 a1 a2 a3 c0 c1 c2 c3),.string tm,.string rs] w fun e w'=>e=.returned (.int .i64 (out b.ps tm rs))/\Below w.heap.size w w':=by
 have HK:=hid hb;have HA:Hid (∀i (h:i<b.ps.length),0<=b.ps[i].am/\b.ps[i].am<=1000000):=ha;clear hb ha;unfold Bk.cells;go_enter Tryz.func113,Tryz.ntmps113;go_wp2_with fail
 have hX0:=zl w (bC b a0 a1 a2 a3 c0 c1 c2 c3) 40;have HB0:Hid (Below w.heap.size w (w.alloc (.cells (bC b a0 a1 a2 a3 c0 c1 c2 c3) 40))):=bAl _ _;obtain⟨W0,hW0⟩:∃W0,W0=w.alloc (.cells (bC b a0 a1 a2 a3 c0 c1 c2 c3) 40):=⟨_,rfl⟩
 have hz0:w.heap.size<W0.heap.size:=by rw[hW0];simp
 rw[<- hW0]at HB0 hX0 ⊢;clear hW0
 go_loopw [7,8] (fun nv iv wr=>∃(k:Nat) (s:Int),k<=b.ps.length/\iv=.int .i64 k/\nv=.int .i64 s/\Hid (s=zbf b.ps tm rs k)/\wr=W0) (fun _ iv _=>b.ps.length-(intOf iv).toNat)
 case atStart=>exact⟨0,0,Nat.zero_le _,rfl,rfl,by simp[zbf,Hid],rfl⟩
 case round=>
  obtain⟨k,s,hk,rfl,rfl,HQ,rfl⟩:=hrel;have hkn:k<=1000:=by omega
  have hsb:0<=s/\s<=1000000000:=by have h1:=HQ.out;have h2:=zbt b.ps tm rs HA.out k hk;omega
  by_cases hlt:k<b.ps.length
  ·obtain⟨ob,off,rfl,hob,d0,d1,d2,d3,d4⟩:=HK.out.ps.load HB0.out k hlt
   have hltI:(k:Int)<(b.ps.length:Int):=by omega
   have HSt:=hid (zfa b.ps tm rs k hlt);have hab:=HA.out k hlt;clear d0 d4
   by_cases h1:b.ps[k].tm=tm
   ·have e1:(b.ps[k].tm.toList == tm.toList)=true:=by rw[beq_toList];simpa using h1
    by_cases h2:b.ps[k].rs=rs
    ·have e2:(b.ps[k].rs.toList == rs.toList)=true:=by rw[beq_toList];simpa using h2
     have HN:Hid (zbf b.ps tm rs (k+1)=s+b.ps[k].am):=by unfold Hid;rw[HSt.out,<- HQ.out,if_pos (by unfold zoJ;simp[h1,h2])]
     clear h1 h2;go_wp2_with fail
     exact⟨⟨k+1,s+b.ps[k].am,by omega,by go_num,by go_num,HN.out.symm,trivial⟩,zq hlt⟩
    ·have e2:(b.ps[k].rs.toList == rs.toList)=false:=by rw[beq_toList];simpa using h2
     have HN:Hid (zbf b.ps tm rs (k+1)=s):=by unfold Hid;rw[HSt.out,<- HQ.out,if_neg (by unfold zoJ;simp[h2])];omega
     clear h1 h2;go_wp2_with fail
     exact⟨⟨k+1,s,by omega,by go_num,rfl,HN.out.symm,trivial⟩,zq hlt⟩
   ·have e1:(b.ps[k].tm.toList == tm.toList)=false:=by rw[beq_toList];simpa using h1
    have HN:Hid (zbf b.ps tm rs (k+1)=s):=by unfold Hid;rw[HSt.out,<- HQ.out,if_neg (by unfold zoJ;simp[h1])];omega
    clear h1;go_wp2_with fail
    exact⟨⟨k+1,s,by omega,by go_num,rfl,HN.out.symm,trivial⟩,zq hlt⟩
  ·have e:k=b.ps.length:=by omega
   subst e;have HE:Hid (out b.ps tm rs=s):=by unfold Hid out;exact HQ.out.symm
   clear HQ hlt hk;go_wp2_with fail
   go_ret;exact⟨zo HE.out.symm,HB0.out⟩
theorem zem (a c:Option Addr)(ca cc:Nat)(xs ys:List ByteArray)(w:World)(hx:zF w a xs)(hy:zF w c ys)(hl:xs.length<=1048576)(hl':ys.length<=1048576) :
 Calls Tryz.prog 105 #[.slice a xs.length ca,.slice c ys.length cc] w fun e w'=>e=.returned (.bool (decide (xs=ys)))/\Below w.heap.size w w':=by
 obtain⟨r,hr⟩:∃r,r=decide (xs=ys):=⟨_,rfl⟩
 rw[<- hr];have HR:=hid hr;have HX:=qE hx hy;clear hr hx hy
 by_cases hn:xs.length=ys.length
 rotate_left
 ·have HF:Hid (r=false):=by unfold Hid;rw[HR.out,decide_eq_false_iff_not];intro e;exact hn (by rw[e])
  have e1:((xs.length:Int) != (ys.length:Int))=true:=by simp;omega
  clear hn;go_enter Tryz.func105,Tryz.ntmps105;go_wp2_with fail
  go_ret;exact⟨ze HF.out.symm,bRf _ _⟩
 have e1:((xs.length:Int) != (ys.length:Int))=false:=by simp;omega
 have HN:=hid hn;clear hn;go_enter Tryz.func105,Tryz.ntmps105;go_wp2_with fail
 go_loopw [5] (fun iv wr=>∃k:Nat,k<=xs.length/\iv=.int .i64 k/\Hid ((∀i (h:i<xs.length) (h':i<ys.length),i<k->xs[i]=ys[i])/\Below w.heap.size w wr)) (fun iv _=>xs.length-(intOf iv).toNat)
 case atStart=>exact⟨0,Nat.zero_le _,rfl,fun i h h' hk=>by omega,bRf _ _⟩
 case round=>
  obtain⟨k,hk,rfl,HQ⟩:=hrel;have hkn:k<=1048576:=by omega
  by_cases hlt:k<xs.length
  ·have hlt':k<ys.length:=by have:=HN.out;omega
   obtain⟨p,po,rfl,hp,hpc⟩:=HX.out.1.cells (by intro e;rw[e]at hlt;simp at hlt);obtain⟨q,qo,rfl,hq,hqc⟩:=HX.out.2.cells (by intro e;rw[e]at hlt';simp at hlt');have c1:=(HQ.out.2.cell (p:=⟨p,po+k,none⟩) hp).trans (hpc k hlt);have c2:=(HQ.out.2.cell (p:=⟨q,qo+k,none⟩) hq).trans (hqc k hlt');have hltI:(k:Int)<(xs.length:Int):=by omega
   have hltI':(k:Int)<(ys.length:Int):=by omega
   have hp':=nLt hp HQ.out.2.size;have hq':=nLt hq HQ.out.2.size;have HB:=hid HQ.out.2;clear hpc hqc
   by_cases he:xs[k]=ys[k]
   ·have e2:(xs[k].toList == ys[k].toList)=true:=by rw[beq_toList];simpa using he
    have HA:Hid (∀i (h:i<xs.length) (h':i<ys.length),i<k+1->xs[i]=ys[i]):=by
     intro i h h' hi
     rcases Nat.eq_or_lt_of_le (Nat.le_of_lt_succ hi) with e|h2
     ·subst e;exact he
     ·exact HQ.out.1 i h h' h2
    clear he HQ;go_wp2_with fail
    go_quiet (fail)
    go_wp2_with fail
    exact⟨⟨k+1,by omega,by go_num,HA.out,below_drewN HB.out _⟩,zq hlt⟩
   ·have e2:(xs[k].toList == ys[k].toList)=false:=by rw[beq_toList];simpa using he
    have HF:Hid (r=false):=by
     unfold Hid;rw[HR.out,decide_eq_false_iff_not];intro e;subst e;exact he rfl
    clear he HQ;go_wp2_with fail
    go_quiet (fail)
    go_wp2_with fail
    go_ret;exact⟨ze HF.out.symm,below_drewN HB.out _⟩
  ·have HF:Hid (r=true):=by
    unfold Hid;rw[HR.out,decide_eq_true_eq];exact List.ext_getElem HN.out fun i h h'=>HQ.out.1 i h h' (by omega)
   have HB:=hid HQ.out.2;clear HQ;go_wp2_with fail
   go_ret;exact⟨ze HF.out.symm,HB.out⟩
section
variable {P:Program} (w:World)
theorem zho {o:Oper}{a:Act}{K:Act->World->Prop}{Q:Exit->Act->World->Prop}(s x:Operand)(t:TypeId)
 (ho:o.op=.call { callee:=.builtin .append,args:=#[s,x],argTypes:=#[t,t] })
 (base:Nat) (e:TypeId) (i:TypeInfo) (z:Value) (size bytes:Nat) (ht:P.underlying t=some (.slice e)) (hi:P.info? e=some i) (hz:i.zero=some z)
 (hsize:i.size=size) (hby:i.bytes=bytes) (hzs:z.cells.size=size) (hsz:0<size)
 (v:Value) (n:Nat) (xs:List Value) (hs:a.eval s=v) (hown:w.ownsRow base e size v n xs)
 (ad:Addr) (m c:Nat) (news:List Value) (hx:a.eval x=.slice (some ad) m c) (hl:news.length=m*size) (hnews:∀j u,news[j]?=some u->w.cell? (ad.add j)=some u) (h1:∀u∈news,u.oneCell'=true)
 (h63:n+m<=maxLen) (hbytes:(n+m)*bytes<=140737488355328) (hbase:base<=w.heap.size)
 (h:∀v' w',w'.ownsRow base e size v' (n+m) (xs++news)->w.grownBy w' v.ownBlock->(v'.ownBlock=v.ownBlock \/ v'.ownBlock=some w.heap.size)->K (a.put o.dst v') w'):Oper.wp P o a w K Q:=by
 obtain⟨v',w',hr,h2,h3,_,h5⟩:=run_append_own_at (P:=P) w base t o.type e i z size bytes ht hi hz hsize hby hzs hsz v n xs hown ad m c news hl hnews h1 h63 hbytes hbase;have hk:=h v' w' h2 h3 h5;unfold Oper.wp;simp only[execOp,ho,resolve,invoke,builtin,Sem.run_bind,Sem.run_pure,Result.andThen_ok,List.map_toArray,List.map_cons,List.map_nil,hs,hx,hr];exact hk
end
section
variable {P:Program} {ops:Array Oper} {Q:Exit->Act->World->Prop} {md:Region.Mode} {S:World->Prop}
theorem zqT {i j:Nat}{oi oj:Oper}{fuel:Nat}{listed:Array Bool}{a:Act}{w:World}(hi:nth ops.toList i=some oi)(hj:nth ops.toList j=some oj)
 (h1:∀K:Act->World->Prop,Shut (∀a w,S w->(S w->wpAnyH P md ops Q S fuel (listed.setIfInBounds i true) a w)->K a w)->Oper.wp P oi a w K Q)
 (h2:∀K:Act->World->Prop,Shut (∀a w,S w->(S w->wpAnyH P md ops Q S fuel (listed.setIfInBounds j true) a w)->K a w)->Oper.wp P oj a w K Q)
 (hr:Region.ready md ops listed=[i,j]:=by kernel_rfl) (hwi:Region.wanted oi (yielded ops a.tmps)=true:=by rfl) (hwj:Region.wanted oj (yielded ops a.tmps)=true:=by rfl):wpAnyH P md ops Q S (fuel+1) listed a w:=
 wpAnyH_ready hr (by simp) (AllReadyH.cons (zko hi) (fun K hK=>by rw[if_pos hwi];exact h1 K hK) (AllReadyH.cons (zko hj) (fun K hK=>by rw[if_pos hwj];exact h2 K hK) AllReadyH.nil))
end
set_option maxRecDepth 20000 in
theorem znN (r:Rl)(a:Option Addr)(cap:Nat)(w:World)(hw:ql w a r.vs)(hl:r.vs.length<=1048576) :
 Calls Tryz.prog 66 #[.agg #[.slice a r.vs.length cap,.string r.kd,.string r.tm,.string r.px]] w fun e w'=>∃a' cap',e=.returned (.agg #[.slice a' r.vs.length cap',.string r.kd,.string r.tm,.string r.px])/\yt w.heap.size w' a' r.vs/\Below w.heap.size w w':=by
 by_cases h0:r.vs=[]
 ·have hn:r.vs.length=0:=by rw[h0];rfl
  rw[hn]
  rcases a with _|g
  all_goals
   go_enter Tryz.func66,Tryz.ntmps66;go_wp2_with fail
   refine bodyPost_ret (v:=.agg #[.slice (some ⟨w.heap.size+1+1,0,none⟩) 0 0,.string r.kd,.string r.tm,.string r.px]) (by simp[results,Tryz.results66,go_sem]) rfl ⟨some ⟨w.heap.size+1+1,0,none⟩,0,rfl,Or.inr ⟨w.heap.size+1+1,#[],rfl,by omega,(znu w _ _ _).2.2,fun i hi=>absurd hi (by rw[h0];simp)⟩,below3' _ _ _ _⟩
 ·obtain⟨b,off,rfl,_⟩:=hw.cells h0
  obtain⟨i0,hi,hz0,hz1,hz2⟩:=info_parts Tryz.zgE;have k0:=zT w (.cells #[.slice (some ⟨b,off,none⟩) r.vs.length cap,.string r.kd,.string r.tm,.string r.px] 119) (.cells #[.slice none 0 0,.string ⟨#[]⟩,.string ⟨#[]⟩,.string ⟨#[]⟩] 119);have hB0:=zw w (.cells #[.slice (some ⟨b,off,none⟩) r.vs.length cap,.string r.kd,.string r.tm,.string r.px] 119) (.cells #[.slice none 0 0,.string ⟨#[]⟩,.string ⟨#[]⟩,.string ⟨#[]⟩] 119);obtain⟨W,hW⟩:∃W,W=(w.alloc (.cells #[.slice (some ⟨b,off,none⟩) r.vs.length cap,.string r.kd,.string r.tm,.string r.px] 119)).alloc (.cells #[.slice none 0 0,.string ⟨#[]⟩,.string ⟨#[]⟩,.string ⟨#[]⟩] 119):=⟨_,rfl⟩
  have hz:W.heap.size=w.heap.size+1+1:=by rw[hW];simp
  go_enter Tryz.func66,Tryz.ntmps66
  go_wp2_with (at_builtin;refine zce ?_)
  rw[<- hW]at k0 hB0 ⊢;clear hW;have hba:=(bRf W.heap.size W).alloc (Nat.le_refl _) (.cells #[] 3);have hna:(W.alloc (.cells #[] 3)).ownsRow (w.heap.size+1+1) 3 1 (.slice (some ⟨w.heap.size+1+1,0,none⟩) 0 0) 0 []:=⟨rfl,Or.inr ⟨w.heap.size+1+1,0,#[],rfl,Nat.le_refl _,by rw[<- hz];exact(MapKept.heap_alloc W _).1,Nat.le_refl _,by simp[maxLen],rfl,rfl⟩⟩
  show wpList _ _ _ _ _ _
  refine wpList_append_own _ rfl (.tmp 3) (.tmp 5) 104 rfl (w.heap.size+1+1) 3 i0 (.int .i64 0) 1 8 Tryz.underlying104 hi hz0 hz1 hz2 rfl (by decide) (.slice (some ⟨w.heap.size+1+1,0,none⟩) 0 0) 0 [] rfl hna ⟨b,off,none⟩ r.vs.length cap (ints r.vs) rfl (by simp[ints]) (zk6 ((hw.mono hB0).mono hba)) zml (by unfold maxLen;omega) (by omega) (by have:=hba.size;omega) ?_;intro v' w1 hown hgr _;simp only[Nat.zero_add,List.nil_append]at hown;obtain⟨a',cap',rfl,ho⟩:=yt.zdo hown;have hb1:Below W.heap.size W w1:=hba.grown hgr (by have:=hba.size;omega) (fun k hk=>by have:=Option.some.inj (show some (w.heap.size+1+1)=some k from hk);omega);have K0:=(hb1.block _ (by omega)).trans k0.1;have K1:=(hb1.block _ (by omega)).trans k0.2;have HF:Hid (yt (w.heap.size+1+1) w1 a' r.vs/\Below w.heap.size w w1):=⟨ho,hB0.trans (hb1.mono (by omega))⟩
  have cQ:=fun j=>cell_of_block (o:=j) K0
  have fQ:=fun j=>zh (o:=j) K0
  have cR:=fun j=>cell_of_block (o:=j) K1
  have fR:=fun j=>zh (o:=j) K1
  have hsz:=hb1.size;clear hown hgr K0 K1 hb1 k0 hB0 ho hba hna;go_wp2_with fail
  refine bodyPost_ret (v:=.agg #[.slice a' r.vs.length cap',.string r.kd,.string r.tm,.string r.px]) (by simp[results,Tryz.results66,go_sem,cR]) rfl ⟨a',cap',rfl,?_,?_⟩
  ·refine yt.low (lo:=w.heap.size+1+1) ?_ (by omega)
   iterate 4 refine yt.setCell ?_ _ (by show w.heap.size+1<_;omega) _
   refine yt.setCell ?_ _ (by show w.heap.size<_;omega) _;exact HF.out.1
  ·have h0:w.heap.size<=w.heap.size:=Nat.le_refl _
   have h1:w.heap.size<=w.heap.size+1:=Nat.le_succ _
   iterate 4 refine Below.setCell ?_ h1 _
   refine Below.setCell ?_ h0 _;exact HF.out.2
theorem zbG.from {w:World}{a:Option Addr}{xs:List Lg}(h:zbG w a xs)(hne:xs.length≠0):∃p,a=some p/\∀j u,(xs.flatMap Lg.row)[j]?=some u->w.cell? (p.add j)=some u:=by
 obtain⟨b,off,rfl,_⟩:=h.rows (fun e=>hne (by rw[e];rfl));exact⟨_,rfl,zp7 h⟩
theorem zcb.from {w:World}{a:Option Addr}{xs:List Pu}(h:zcb w a xs)(hne:xs.length≠0):∃p,a=some p/\∀j u,(xs.flatMap Pu.row)[j]?=some u->w.cell? (p.add j)=some u:=by
 obtain⟨b,off,rfl,_⟩:=h.rows (fun e=>hne (by rw[e];rfl));exact⟨_,rfl,zql h⟩
set_option maxRecDepth 20000 in
theorem zl4 (b:Bk)(a0 a1 a2 a3:Option Addr)(c0 c1 c2 c3:Nat)(w:World)(hl:q8 w b a0 a1 a2 a3)(hf:b.Few) :
 Calls Tryz.prog 33 #[.agg #[.int .i64 b.now,.int .i64 b.tick,.int .i64 b.given,.slice a0 b.os.length c0,.slice a1 b.gs.length c1,.slice a2 b.ls.length c2,.slice a3 b.ps.length c3]] w fun e w'=>∃own d0 d1 d2 d3 e0 e1 e2 e3,e=.returned (.agg #[.int .i64 b.now,.int .i64 b.tick,.int .i64 b.given,.slice d0 b.os.length e0,.slice d1 b.gs.length e1,.slice d2 b.ls.length e2,.slice d3 b.ps.length e3])/\BkL (w.heap.size+1+1) w'.heap.size w' own b d0 d1 d2 d3/\(zeJ (w.heap.size+1+1) w' own (.slice d2 b.ls.length e2) b.ls/\zbT (w.heap.size+1+1) w' own (.slice d3 b.ps.length e3) b.ps)/\Below w.heap.size w w':=by
 obtain⟨i2,hi2,hzi2,hsi2,hbi2⟩:=info_parts Tryz.zqL;obtain⟨i3,hi3,hzi3,hsi3,hbi3⟩:=info_parts Tryz.zjN;have HI2:=zbJ hi2 hzi2 hsi2 hbi2;have HI3:=zbJ hi3 hzi3 hsi3 hbi3;have HL:=hid hl;have HF:=hid hf;clear hl hf hi2 hzi2 hsi2 hbi2 hi3 hzi3 hsi3 hbi3;have k0:=zT w (.cells (bC b a0 a1 a2 a3 c0 c1 c2 c3) 40) (.cells bZ 40);have hB0:=zw w (.cells (bC b a0 a1 a2 a3 c0 c1 c2 c3) 40) (.cells bZ 40);obtain⟨W0,hW0⟩:∃W0,W0=(w.alloc (.cells (bC b a0 a1 a2 a3 c0 c1 c2 c3) 40)).alloc (.cells bZ 40):=⟨_,rfl⟩
 have hz0:W0.heap.size=w.heap.size+1+1:=by rw[hW0];simp
 go_enter Tryz.func33,Tryz.ntmps33;go_wp2_with fail
 rw[<- hW0]at k0 hB0 ⊢;clear hW0;refine(zmE (fun _=>(9,0,0)) a0 c0 b.os W0 (HL.out.os.mono hB0) HF.out.os.1 HF.out.os.2).mono ?_;rintro e w1⟨v0,own1,rfl,hw1,hr1,hb1⟩;obtain⟨d0,e0,rfl,hn1⟩:=hr1.lie;rw[hz0]at hw1 hn1;have kX:=(hb1.block w.heap.size (by omega)).trans k0.1;have kR:=(hb1.block (w.heap.size+1) (by omega)).trans k0.2;have hz1:=hb1.size;have HB1:=hid (hB0.trans (hb1.mono (by omega)));have HN1:=qE hn1 hw1;clear hr1 hn1 hw1 hb1 k0 hB0;have cX:=fun j=>cell_of_block (o:=j) kX
 have fX:=fun j=>zh (o:=j) kX
 have hzz1:w.heap.size<w1.heap.size:=by omega
 have kX1:=zi (o:=3) kX (.slice d0 b.os.length e0);have kR1:=(zG (w:=w1) (o:=3) (v:=.slice d0 b.os.length e0) (show w.heap.size+1≠w.heap.size by omega)).trans kR;have HB1':=hid (HB1.out.setCell (p:=⟨w.heap.size,3,none⟩) (Nat.le_refl _) (.slice d0 b.os.length e0));have HK1:=qE kX1 kR1;have HN1':Hid (zat (w.heap.size+1+1) (w1.setCell ⟨w.heap.size,3,none⟩ (.slice d0 b.os.length e0)) own1 d0 b.os.length (zac b.os)):=HN1.out.1.left ((Left.refl (fun k=>k=w.heap.size) w1).set rfl _ _) (fun k h1 h2=>by subst h2;rw[HN1.out.2 _ (by omega)]at h1;simp at h1);have hsz1:(w1.setCell ⟨w.heap.size,3,none⟩ (.slice d0 b.os.length e0)).heap.size=w1.heap.size:=World.size_setCell _ _ _;clear kX kR kX1 kR1;go_wp2_with fail
 generalize w1.setCell ⟨w.heap.size,3,none⟩ (.slice d0 b.os.length e0)=W1 at *
 clear cX fX HB1;refine(zmF own1 a1 c1 b.gs W1 (HL.out.gs.mono HB1'.out) HF.out.gs.1 HF.out.gs.2).mono ?_;rintro e w2⟨v1,own2,rfl,hw2,hr2,hb2⟩;obtain⟨d1,e1,rfl,hn2⟩:=hr2.lie;have HW2:Hid (∀k,k<w.heap.size+1+1->own2 k=(9,0,0)):=fun k hk=>(hw2 k (by omega)).trans (HN1.out.2 k hk)
 have hz2:=hb2.size;have HN2:Hid (zat (w.heap.size+1+1) w2 own2 d0 b.os.length (zac b.os)/\zaT (w.heap.size+1+1) w2 own2 d1 b.gs.length (zaS b.gs)):=⟨(HN1'.out.own (fun k hk _=>hw2 k hk)).mono hb2,hn2.low (by omega)⟩
 have kX:=(hb2.block w.heap.size (by omega)).trans HK1.out.1;have kR:=(hb2.block (w.heap.size+1) (by omega)).trans HK1.out.2;have HB2:=hid (HB1'.out.trans (hb2.mono HB1'.out.size));clear hr2 hn2 hw2 hb2 HN1 HN1' HK1 HB1';have cX:=fun j=>cell_of_block (o:=j) kX
 have fX:=fun j=>zh (o:=j) kX
 have hzz2:w.heap.size<w2.heap.size:=by omega
 have kX1:=zi (o:=4) kX (.slice d1 b.gs.length e1);have kR1:=(zG (w:=w2) (o:=4) (v:=.slice d1 b.gs.length e1) (show w.heap.size+1≠w.heap.size by omega)).trans kR;have HB2':=hid (HB2.out.setCell (p:=⟨w.heap.size,4,none⟩) (Nat.le_refl _) (.slice d1 b.gs.length e1));have HK2:=qE kX1 kR1;have hLs:=(Left.refl (fun k=>k=w.heap.size) w2).set (b:=w.heap.size) rfl 4 (.slice d1 b.gs.length e1);have HN2':=qE (HN2.out.1.left hLs (fun k h1 h2=>by subst h2;rw[HW2.out _ (by omega)]at h1;simp at h1)) (HN2.out.2.left hLs (fun k h1 h2=>by subst h2;rw[HW2.out _ (by omega)]at h1;simp at h1));have hsz2:(w2.setCell ⟨w.heap.size,4,none⟩ (.slice d1 b.gs.length e1)).heap.size=w2.heap.size:=World.size_setCell _ _ _;have cXX:=fun j=>cell_of_block (o:=j) kX1
 clear kX kR kX1 kR1 hLs
 go_wp2_with (at_builtin;refine zce ?_)
 generalize w2.setCell ⟨w.heap.size,4,none⟩ (.slice d1 b.gs.length e1)=W2 at *
 clear cX fX HB2 HN2 cXX
 show wpList _ _ _ _ _ _
 refine zdY rfl (.const (.slice none 0 0)) (.tmp 12) 37 rfl 124 i2 (.agg #[.string ByteArray.empty,.string ByteArray.empty,.int .i64 0,.int .i64 0]) 4 48 Tryz.underlying37 HI2.out.1 HI2.out.2.1 HI2.out.2.2.1 HI2.out.2.2.2 rfl (by decide) rfl a2 b.ls.length c2 (b.ls.flatMap Lg.row) rfl (za6 _ 4 (fun _=>rfl) _) (fun h=>(HL.out.ls.mono HB2'.out).from h) zo0 (by have:=HF.out.ls;unfold maxLen;omega) (by have:=HF.out.ls;omega) ?_;intro v2 w3 hown hb3;obtain⟨d2,e2,rfl⟩:=q9 hown;obtain⟨own3,he3⟩:∃own3:Nat->Lb,own3=fun k=>if k<W2.heap.size then own2 k else (2,0,0):=⟨_,rfl⟩
 have hw3:∀k,k<W2.heap.size->own3 k=own2 k:=fun k hk=>by rw[he3];exact if_pos hk
 have hR3:zeJ W2.heap.size w3 own3 (.slice d2 b.ls.length e2) b.ls:=⟨hown,fun k hk=>by rw[he3];exact if_neg (by have:=(hown.lt k hk).1;omega)⟩
 obtain⟨d2',e2',h9,hn3⟩:=hR3.lie
 cases h9
 have HRL:=hid (hR3.low (lo':=(w.heap.size+1+1)) (by omega));have HW3:Hid (∀k,k<w.heap.size+1+1->own3 k=(9,0,0)):=fun k hk=>(hw3 k (by omega)).trans (HW2.out k hk)
 have hz3:=hb3.size;have HN3:Hid (zat (w.heap.size+1+1) w3 own3 d0 b.os.length (zac b.os)/\zaT (w.heap.size+1+1) w3 own3 d1 b.gs.length (zaS b.gs)/\jy (w.heap.size+1+1) w3 own3 d2 b.ls.length (zab b.ls)):=⟨(HN2'.out.1.own (fun k hk _=>hw3 k hk)).mono hb3,(HN2'.out.2.own (fun k hk _=>hw3 k hk)).mono hb3,hn3.low (by omega)⟩
 have kX:=(hb3.block w.heap.size (by omega)).trans HK2.out.1;have kR:=(hb3.block (w.heap.size+1) (by omega)).trans HK2.out.2;have HB3:=hid (HB2'.out.trans (hb3.mono HB2'.out.size));clear hR3 hn3 hw3 he3 hown hb3 HN2' HK2 HB2' HW2;have cX:=fun j=>cell_of_block (o:=j) kX
 have fX:=fun j=>zh (o:=j) kX
 have hzz3:w.heap.size<w3.heap.size:=by omega
 have kX1:=zi (o:=5) kX (.slice d2 b.ls.length e2);have kR1:=(zG (w:=w3) (o:=5) (v:=.slice d2 b.ls.length e2) (show w.heap.size+1≠w.heap.size by omega)).trans kR;have HB3':=hid (HB3.out.setCell (p:=⟨w.heap.size,5,none⟩) (Nat.le_refl _) (.slice d2 b.ls.length e2));have HK3:=qE kX1 kR1;have hLs:=(Left.refl (fun k=>k=w.heap.size) w3).set (b:=w.heap.size) rfl 5 (.slice d2 b.ls.length e2);have HN3':=zdp (HN3.out.1.left hLs (fun k h1 h2=>by subst h2;rw[HW3.out _ (by omega)]at h1;simp at h1)) (HN3.out.2.1.left hLs (fun k h1 h2=>by subst h2;rw[HW3.out _ (by omega)]at h1;simp at h1)) (HN3.out.2.2.left hLs (fun k h1 h2=>by subst h2;rw[HW3.out _ (by omega)]at h1;simp at h1));have HRL':=hid (HRL.out.left hLs (fun k h1 h2=>by subst h2;rw[HW3.out _ (by omega)]at h1;simp at h1));have hsz3:(w3.setCell ⟨w.heap.size,5,none⟩ (.slice d2 b.ls.length e2)).heap.size=w3.heap.size:=World.size_setCell _ _ _;have cXX:=fun j=>cell_of_block (o:=j) kX1
 clear kX kR kX1 kR1 hLs
 go_wp2_with (at_builtin;refine zce ?_)
 generalize w3.setCell ⟨w.heap.size,5,none⟩ (.slice d2 b.ls.length e2)=W3 at *
 clear cX fX HB3 HN3 cXX
 show wpList _ _ _ _ _ _
 refine zdY rfl (.const (.slice none 0 0)) (.tmp 16) 38 rfl 65 i3 (.agg #[.string ByteArray.empty,.string ByteArray.empty,.string ByteArray.empty,.int .i64 0,.int .i64 0]) 5 64 Tryz.underlying38 HI3.out.1 HI3.out.2.1 HI3.out.2.2.1 HI3.out.2.2.2 rfl (by decide) rfl a3 b.ps.length c3 (b.ps.flatMap Pu.row) rfl (za6 _ 5 (fun _=>rfl) _) (fun h=>(HL.out.ps.mono HB3'.out).from h) zi1 (by have:=HF.out.ps;unfold maxLen;omega) (by have:=HF.out.ps;omega) ?_;intro v3 w4 hown hb4;obtain⟨d3,e3,rfl⟩:=q9 hown;obtain⟨own4,he4⟩:∃own4:Nat->Lb,own4=fun k=>if k<W3.heap.size then own3 k else if k<w4.heap.size then (3,0,0) else (9,0,0):=⟨_,rfl⟩
 have hw4:∀k,k<W3.heap.size->own4 k=own3 k:=fun k hk=>by rw[he4];exact if_pos hk
 have hR4:zbT W3.heap.size w4 own4 (.slice d3 b.ps.length e3) b.ps:=⟨hown,fun k hk=>by have h8:=hown.lt k hk;rw[he4];show(if _ then _ else _)=_;rw[if_neg (by omega),if_pos h8.2]⟩
 obtain⟨d3',e3',h9,hn4⟩:=hR4.lie
 cases h9
 have hz4:=hb4.size
 have HW4:Hid (∀k,(k<w.heap.size+1+1 \/ w4.heap.size<=k)->own4 k=(9,0,0)):=by
  rintro k (hk|hk)
  ·exact(hw4 k (by omega)).trans (HW3.out k hk)
  ·rw[he4];show(if _ then _ else _)=_;rw[if_neg (by omega),if_neg (by omega)]
 have HRR:Hid (zeJ (w.heap.size+1+1) w4 own4 (.slice d2 b.ls.length e2) b.ls/\zbT (w.heap.size+1+1) w4 own4 (.slice d3 b.ps.length e3) b.ps):=⟨(HRL'.out.own (fun k hk _=>hw4 k hk)).left (Left.of_below (fun _=>False) hb4) (fun _ _ h=>h),hR4.low (by omega)⟩
 have HN4:Hid (BkL (w.heap.size+1+1) w4.heap.size w4 own4 b d0 d1 d2 d3):=⟨(HN3'.out.1.own (fun k hk _=>hw4 k hk)).mono hb4,(HN3'.out.2.1.own (fun k hk _=>hw4 k hk)).mono hb4,(HN3'.out.2.2.own (fun k hk _=>hw4 k hk)).mono hb4,hn4.low (by omega),fun k hk=>by rw[HW4.out k hk],by omega,Nat.le_refl _⟩
 have kX:=(hb4.block w.heap.size (by omega)).trans HK3.out.1;have kR:=(hb4.block (w.heap.size+1) (by omega)).trans HK3.out.2;have HB4:=hid (HB3'.out.trans (hb4.mono HB3'.out.size));clear hR4 hn4 hw4 he4 hown hb4 HN3' HK3 HB3' HW3;have cX:=fun j=>cell_of_block (o:=j) kX
 have fX:=fun j=>zh (o:=j) kX
 have cR:=fun j=>cell_of_block (o:=j) kR
 have fR:=fun j=>zh (o:=j) kR
 have hzz4:w.heap.size<w4.heap.size:=by omega
 have hzz5:w.heap.size+1<w4.heap.size:=by omega
 clear kX kR;go_wp2_with fail
 refine bodyPost_ret (v:=.agg #[.int .i64 b.now,.int .i64 b.tick,.int .i64 b.given,.slice d0 b.os.length e0,.slice d1 b.gs.length e1,.slice d2 b.ls.length e2,.slice d3 b.ps.length e3]) (by simp[results,Tryz.results33,go_sem,cR]) rfl ⟨own4,d0,d1,d2,d3,e0,e1,e2,e3,rfl,?_⟩
 ·have hL0:=Left.refl (fun k=>k=w.heap.size \/ k=w.heap.size+1) w4
  have hL:=(((((((hL0.set (b:=w.heap.size) (Or.inl rfl) 6 (.slice d3 b.ps.length e3)).set (b:=w.heap.size+1) (Or.inr rfl) 0 (.int .i64 b.now)).set (b:=w.heap.size+1) (Or.inr rfl) 1 (.int .i64 b.tick)).set (b:=w.heap.size+1) (Or.inr rfl) 2 (.int .i64 b.given)).set (b:=w.heap.size+1) (Or.inr rfl) 3 (.slice d0 b.os.length e0)).set (b:=w.heap.size+1) (Or.inr rfl) 4 (.slice d1 b.gs.length e1)).set (b:=w.heap.size+1) (Or.inr rfl) 5 (.slice d2 b.ls.length e2)).set (b:=w.heap.size+1) (Or.inr rfl) 6 (.slice d3 b.ps.length e3);have h8:=BkF.left HN4.out hL (fun k hk h2=>by rw[HW4.out k (Or.inl (by omega))]at hk;simp at hk);simp only[World.size_setCell];refine⟨h8,⟨HRR.out.1.left hL (fun k hk h2=>by rw[HW4.out k (Or.inl (by omega))]at hk;simp at hk),HRR.out.2.left hL (fun k hk h2=>by rw[HW4.out k (Or.inl (by omega))]at hk;simp at hk)⟩,?_⟩;have h0:w.heap.size<=w.heap.size:=Nat.le_refl _;have h1:w.heap.size<=w.heap.size+1:=Nat.le_succ _
  iterate 7 refine Below.setCell ?_ h1 _
  refine Below.setCell ?_ h0 _;exact HB4.out
end Go.Proofs.YtkficnallnpjnaaGreat
namespace Go.Proofs.YtkficnallnpjnaaGreat
theorem zq3 (ws:List ByteArray)(v:ByteArray):has ws v=true↔v∈ws:=by
 unfold has;rw[List.any_eq_true]
 constructor
 ·rintro⟨x,hx,he⟩
  have:x=v:=by simpa using he
  rw[<- this];exact hx
 ·intro h;exact⟨v,h,by simp⟩
theorem zng {ss:List Shp}(h:zZ ss=true)(i:Nat)(hi:i<ss.length)(j:Nat)(hj:j<ss[i].fs.length):ze5 ss ss[i].fs j=true:=by
 have h1:=zhd h i hi;unfold yX at h1;rw[getD_at ss i _ hi]at h1;simp only[Bool.and_eq_true]at h1;have h2:=h1.2;unfold y8 at h2;simp only[Bool.and_eq_true]at h2;exact zib hj h2.2
theorem zmv {ss:List Shp}(h:zZ ss=true)(i:Nat)(hi:i<ss.length)(j:Nat)(hj:j<ss[i].fs.length):isSet ss[i].fs[j].nm=true:=by
 have h1:=zng h i hi j hj;rw[zi2 _ _ _ hj]at h1;simp only[Bool.and_eq_true]at h1;have h2:=h1.1.1;rw[zpi];intro e;rw[e]at h2
 revert h2
 decide
theorem zeO {ss:List Shp}(h:zZ ss=true)(i:Nat)(hi:i<ss.length)(j k:Nat)(hj:j<k)(hk:k<ss[i].fs.length):(ss[i].fs[j]'(by omega)).nm≠ss[i].fs[k].nm:=by
 have h1:=zng h i hi k hk;rw[zi2 _ _ _ hk]at h1;simp only[Bool.and_eq_true,Bool.not_eq_true']at h1;have h2:=h1.1.2;intro e;unfold hasName at h2;rw[List.any_eq_false]at h2
 have hm:ss[i].fs[j]'(by omega)∈ss[i].fs.take k:=by
  rw[List.mem_iff_getElem];exact⟨j,by simp;omega,by simp⟩
 exact h2 _ hm (by simpa using e)
theorem zp2 {ss:List Shp}(h:zZ ss=true)(i:Nat)(hi:i<ss.length)(j k:Nat)(hj:j<ss[i].fs.length)(hk:k<ss[i].fs.length)(e:za4 ss[i] j=za4 ss[i] k):j=k:=by
 unfold za4 at e;rw[getD_at _ _ _ hj,getD_at _ _ _ hk]at e
 rcases Nat.lt_trichotomy j k with h1|h1|h1
 ·exact absurd e (zeO h i hi j k h1 hk)
 ·exact h1
 ·exact absurd e.symm (zeO h i hi k j h1 hj)
theorem zps {ss:List Shp}(h:zZ ss=true)(m:Mnd):j5 ss m=zbi ss m:=by
 unfold j5 zbi
 by_cases hk:zJ ss m.kd=true
 ·rw[hk,Bool.true_and,Bool.true_and]
  unfold zJ at hk;rw[List.any_eq_true]at hk;obtain⟨x,hx,he⟩:=hk;obtain⟨i,hi,rfl⟩:=List.mem_iff_getElem.1 hx;have hkd:ss[i].kd=m.kd:=by simpa using he
  rw[<- hkd,zd5 h i hi];unfold zaZ yE
  by_cases hp:plain ss[i].fs m.fd=true
  ·have hfd:isSet m.fd=true:=by
    rcases jC ss[i].fs m.fd with⟨_,h2⟩|⟨k,hk',_,h2,_⟩
    ·rw[zaO h2]at hp;cases hp
    ·rw[<- h2];exact zmv h i hi k hk'
   have hne:∀v,isSet v=false->v≠m.fd:=fun v hv e=>by rw[e,hfd]at hv;cases hv
   rw[hp,Bool.true_and,Bool.true_and]
   have e:(zP m).all (jW ss[i].fs m)=((!isSet m.wh||plain ss[i].fs m.wh)&&(!isSet m.fr||plain ss[i].fs m.fr)&&!decide (m.wh=m.fd)&&!decide (m.fr=m.fd)):=by
    unfold zP;rw[List.all_filter];unfold jW
    rcases hw:isSet m.wh with _|_ <;> rcases hf:isSet m.fr with _|_
    ·simp[hw,hf,hne _ hw,hne _ hf]
    ·simp[hw,hf,hne _ hw]
     cases plain ss[i].fs m.fr <;> simp
    ·simp[hw,hf,hne _ hf]
     cases plain ss[i].fs m.wh <;> simp
    ·simp[hw,hf]
     cases plain ss[i].fs m.wh <;> cases plain ss[i].fs m.fr <;> simp
   rw[e]
  ·have hpf:plain ss[i].fs m.fd=false:=by simpa using hp
   rw[hpf];simp
 ·have hkf:zJ ss m.kd=false:=by simpa using hk
  rw[hkf];rfl
theorem zoR {ss:List Shp}{ms:List Mnd}(h:zZ ss=true)(hm:ms.all (j5 ss)=true)(i:Nat)(hi:i<ss.length)(row:List Nat)(hrow:∀q∈row,q<ss[i].fs.length)(j:Nat)(hj:j<ss[i].fs.length) :
 jE ss[i] ms (row.map (za4 ss[i])) j=ready (zm ss[i] ms) row j:=by
 have hmem:∀q,q<ss[i].fs.length->(has (row.map (za4 ss[i])) (za4 ss[i] q)=true↔q∈row):=by
  intro q hq;rw[zq3,List.mem_map]
  constructor
  ·rintro⟨p,hp,e⟩
   rw[<- zp2 h i hi p q (hrow p hp) hq e];exact hp
  ·intro hp;exact⟨q,hp,rfl⟩
 rw[Bool.eq_iff_iff,zg1];unfold jE;rw[Bool.and_eq_true,Bool.not_eq_true',<- Bool.not_eq_true,hmem j hj];refine and_congr Iff.rfl ?_;unfold zco;rw[List.all_eq_true]
 -- what a mend that turns j reads
 have hread:∀m∈ms,turns m ss[i] j=true->∀v∈zP m,∃q,q<ss[i].fs.length/\zR ss[i].fs v=(q:Int)/\za4 ss[i] q=v:=by
  intro m hmm ht v hv;unfold turns at ht;simp only[Bool.and_eq_true,decide_eq_true_eq]at ht;have h1:=List.all_eq_true.1 hm m hmm;unfold j5 at h1;rw[ht.1,zd5 h i hi]at h1;simp only[Bool.and_eq_true]at h1;have h2:=h1.2;unfold zaZ at h2;simp only[Bool.and_eq_true]at h2;have h3:=List.all_eq_true.1 h2.1.2 v hv;unfold jW at h3;simp only[Bool.and_eq_true]at h3
  rcases jC ss[i].fs v with⟨_,h5⟩|⟨k,hk,h4,h5,_⟩
  ·rw[zaO h5]at h3;exact absurd h3.2 (by simp)
  ·exact⟨k,hk,h4,by unfold za4;rw[getD_at _ _ _ hk];exact h5⟩
 have hR:∀m,qA ss[i].kd (za4 ss[i] j) (row.map (za4 ss[i])) m=true↔(turns m ss[i] j=true->∀v∈zP m,has (row.map (za4 ss[i])) v=true):=by
  intro m;have e1:turns m ss[i] j=(decide (m.kd=ss[i].kd)&&decide (m.fd=za4 ss[i] j)):=rfl;unfold qA;rw[<- e1]
  rcases turns m ss[i] j with _|_
  ·simp
  ·unfold zP
   rcases hw:isSet m.wh with _|_ <;> rcases hf:isSet m.fr with _|_ <;> simp[hw,hf]
 constructor
 ·intro hall q hq
  unfold zm at hq;obtain⟨x,hx,rfl⟩:=List.mem_map.1 hq;unfold yw at hx;obtain⟨m,hmm,hx⟩:=List.mem_flatMap.1 hx
  by_cases ht:turns m ss[i] j=true
  ·rw[if_pos ht]at hx
   obtain⟨v,hv,rfl⟩:=List.mem_map.1 hx;obtain⟨q,hq,e1,e2⟩:=hread m hmm ht v hv
   have:=(hR m).1 (hall m hmm) ht v hv
   rw[e1,Int.toNat_natCast];rw[<- e2]at this;exact(hmem q hq).1 this
  ·rw[if_neg ht]at hx;cases hx
 ·intro hall m hmm
  rw[hR];intro ht v hv;obtain⟨q,hq,e1,e2⟩:=hread m hmm ht v hv;rw[<- e2,hmem q hq];refine hall q ?_;unfold zm;rw[List.mem_map];refine⟨(q:Int),?_,Int.toNat_natCast _⟩;unfold yw;rw[List.mem_flatMap];refine⟨m,hmm,?_⟩;rw[if_pos ht,List.mem_map];exact⟨v,hv,e1⟩
theorem find_congr {α:Type}{f g:α->Bool}:∀ {l:List α},(∀x∈l,f x=g x)->l.find? f=l.find? g
 | [],_=>rfl
 | a :: l,h=>by
  have h1:=h a (by simp);have h2:=find_congr (f:=f) (g:=g) (l:=l) (fun x hx=>h x (by simp[hx]));rw[List.find?_cons,List.find?_cons,h1,h2]
theorem zdQ {ss:List Shp}{ms:List Mnd}(h:zZ ss=true)(hm:ms.all (j5 ss)=true)(i:Nat)(hi:i<ss.length):∀k,yh ss[i] ms k=(greedy (zm ss[i] ms) ss[i].fs.length k).map (za4 ss[i])
 | 0=>rfl
 | k+1=>by
  show zeY ss[i] ms (yh ss[i] ms k)=(more (zm ss[i] ms) ss[i].fs.length (greedy (zm ss[i] ms) ss[i].fs.length k)).map (za4 ss[i])
  rw[zdQ h hm i hi k];have hpart:=zb8 (zm ss[i] ms) ss[i].fs.length k
  have e:(List.range ss[i].fs.length).find? (jE ss[i] ms ((greedy (zm ss[i] ms) ss[i].fs.length k).map (za4 ss[i])))=pick (zm ss[i] ms) ss[i].fs.length (greedy (zm ss[i] ms) ss[i].fs.length k):=by
   unfold pick
   apply find_congr
   intro x hx;exact zoR h hm i hi _ hpart.mem x (List.mem_range.1 hx)
  unfold zeY more;rw[e]
  cases pick (zm ss[i] ms) ss[i].fs.length (greedy (zm ss[i] ms) ss[i].fs.length k) with
  | none=>rfl
  | some q=>simp
theorem zmL {ss:List Shp}{ms:List Mnd}(h:zZ ss=true)(hm:ms.all (j5 ss)=true)(i:Nat)(hi:i<ss.length):rowOk ms ss[i]=zcn ms ss[i]:=by
 unfold rowOk zcn;rw[zdQ h hm i hi,List.length_map];refine ziN (fun p hp q hq=>?_);unfold zm at hq;obtain⟨x,hx,rfl⟩:=List.mem_map.1 hq
 have:=zjJ h hm i hi p hp x hx
 omega
theorem zgx (ss:List Shp)(ms:List Mnd):yA ss ms=jq ss ms:=by
 unfold yA jq
 by_cases h:zZ ss=true
 ·have e1:ms.all (zbi ss)=ms.all (j5 ss):=by congr 1;funext m;exact(zps h m).symm
  rw[e1,h]
  by_cases hm:ms.all (j5 ss)=true
  ·have e2:ss.all (rowOk ms)=ss.all (zcn ms):=by
    rw[Bool.eq_iff_iff,List.all_eq_true,List.all_eq_true]
    constructor
    ·intro ha x hx
     obtain⟨i,hi,rfl⟩:=List.mem_iff_getElem.1 hx;rw[<- zmL h hm i hi];exact ha _ hx
    ·intro ha x hx
     obtain⟨i,hi,rfl⟩:=List.mem_iff_getElem.1 hx;rw[zmL h hm i hi];exact ha _ hx
   rw[e2];cases decide (ms.length<=12) <;> simp
  ·have hmf:ms.all (j5 ss)=false:=by simpa using hm
   rw[hmf];simp
 ·have hf:zZ ss=false:=by simpa using h
  rw[hf];simp
end Go.Proofs.YtkficnallnpjnaaGreat
namespace Go.Proofs.YtkficnallnpjnaaGreat
open Go.RowKit
theorem ziT (a c:Option Addr)(ca cc:Nat)(xs ys:List ByteArray)(w:World)(hx:zF w a xs)(hy:zF w c ys)(hl:xs.length<=1048576)(hl':ys.length<=1048576) :
 Calls Tryz.prog 203 #[.slice a xs.length ca,.slice c ys.length cc] w fun e w'=>e=.returned (.bool (decide (xs=ys)))/\Below w.heap.size w w':=by
 obtain⟨r,hr⟩:∃r,r=decide (xs=ys):=⟨_,rfl⟩
 rw[<- hr];have HR:Hid (r=decide (xs=ys)):=hr;have HX:Hid (zF w a xs/\zF w c ys):=⟨hx,hy⟩
 clear hr hx hy
 by_cases hn:xs.length=ys.length
 rotate_left
 ·have HF:Hid (r=false):=by unfold Hid;rw[HR.out,decide_eq_false_iff_not];intro e;exact hn (by rw[e])
  have e1:((xs.length:Int) != (ys.length:Int))=true:=by simp;omega
  clear hn;go_enter Tryz.func203,Tryz.ntmps203;go_wp2_with fail
  go_ret;exact⟨ze HF.out.symm,bRf _ _⟩
 have e1:((xs.length:Int) != (ys.length:Int))=false:=by simp;omega
 have HN:Hid (xs.length=ys.length):=hn;clear hn;go_enter Tryz.func203,Tryz.ntmps203;go_wp2_with fail
 go_loopw [13] (fun iv wr=>∃k:Nat,k<=xs.length/\iv=.int .i64 k/\Hid ((∀i (h:i<xs.length) (h':i<ys.length),i<k->xs[i]=ys[i])/\Below w.heap.size w wr)) (fun iv _=>xs.length-(intOf iv).toNat)
 case atStart=>exact⟨0,Nat.zero_le _,rfl,fun i h h' hk=>by omega,bRf _ _⟩
 case round=>
  obtain⟨k,hk,rfl,HQ⟩:=hrel;have hkn:k<=1048576:=by omega
  by_cases hlt:k<xs.length
  ·have hlt':k<ys.length:=by have:=HN.out;omega
   obtain⟨p,po,rfl,hp,hpc⟩:=HX.out.1.cells (by intro e;rw[e]at hlt;simp at hlt);obtain⟨q,qo,rfl,hq,hqc⟩:=HX.out.2.cells (by intro e;rw[e]at hlt';simp at hlt');have c1:=(HQ.out.2.cell (p:=⟨p,po+k,none⟩) hp).trans (hpc k hlt);have c2:=(HQ.out.2.cell (p:=⟨q,qo+k,none⟩) hq).trans (hqc k hlt');have hltI:(k:Int)<(xs.length:Int):=by omega
   have hltI':(k:Int)<(ys.length:Int):=by omega
   have hp':p<wr.heap.size:=nLt hp HQ.out.2.size;have hq':q<wr.heap.size:=nLt hq HQ.out.2.size;have HB:Hid (Below w.heap.size w wr):=HQ.out.2;clear hpc hqc
   by_cases he:xs[k]=ys[k]
   ·have e2:(xs[k].toList == ys[k].toList)=true:=by rw[beq_toList];simpa using he
    have HA:Hid (∀i (h:i<xs.length) (h':i<ys.length),i<k+1->xs[i]=ys[i]):=by
     intro i h h' hi
     rcases Nat.eq_or_lt_of_le (Nat.le_of_lt_succ hi) with e|h2
     ·subst e;exact he
     ·exact HQ.out.1 i h h' h2
    clear he HQ;go_wp2_with fail
    go_quiet (fail)
    go_wp2_with fail
    exact⟨⟨k+1,by omega,by go_num,HA.out,below_drewN HB.out _⟩,zq hlt⟩
   ·have e2:(xs[k].toList == ys[k].toList)=false:=by rw[beq_toList];simpa using he
    have HF:Hid (r=false):=by
     unfold Hid;rw[HR.out,decide_eq_false_iff_not];intro e;subst e;exact he rfl
    clear he HQ;go_wp2_with fail
    go_quiet (fail)
    go_wp2_with fail
    go_ret;exact⟨ze HF.out.symm,below_drewN HB.out _⟩
  ·have HF:Hid (r=true):=by
    unfold Hid;rw[HR.out,decide_eq_true_eq];exact List.ext_getElem HN.out fun i h h'=>HQ.out.1 i h h' (by omega)
   have HB:Hid (Below w.heap.size w wr):=HQ.out.2;clear HQ;go_wp2_with fail
   go_ret;exact⟨ze HF.out.symm,HB.out⟩
theorem yR.new (w:World):yR (w.alloc (.map #[] 0)) w.heap.size (fun _ _=>none):=
 ⟨⟨#[],0,Array.getElem?_push_size,fun x hx=>(by simp at hx),fun a b v h=>(by cases h),fun i j x y hx=>(by simp at hx)⟩,fun es c h=>by
  have e:(w.alloc (.map #[] 0)).heap[w.heap.size]?=some (.map #[] 0):=Array.getElem?_push_size;rw[e]at h
  cases h
  exact⟨fun x hx=>(by simp at hx),by simp⟩⟩
theorem zg9.below {r B:Nat}{w0 w w':World}(h:zg9 r w w')(hb:Below B w0 w)(hr:B<=r):Below B w0 w':=
 ⟨h.os.trans hb.os,h.tape.trans hb.tape,h.output.trans hb.output,by rw[h.size];exact hb.size,fun k hk=>(h.out k (by omega)).trans (hb.block k hk)⟩
theorem zkN (o:Ob)(a0 a1:Option Addr)(c0 c1:Nat)(w:World):Calls Tryz.prog 201 #[.agg #[.string o.kd,.string o.nm,.string o.tm,.slice a0 o.vs.length c0,.bool o.en,.slice a1 o.hs.length c1,.int .i64 o.vr]] w fun e w'=>e=.returned (qY o.kd o.nm)/\Below w.heap.size w w':=by
 unfold qY;go_enter Tryz.func201,Tryz.ntmps201;go_wp2_with fail
 refine bodyPost_ret (v:=.agg #[.string o.kd,.string o.nm]) (by simp[results,Tryz.results201,go_sem]) rfl ⟨rfl,?_⟩
 first|exact zw _ _ _|exact((zw _ _ _).setCell (by simp) _).setCell (by simp) _|exact((zw _ _ _).setCell (by show _<=_+1;omega) _).setCell (by show _<=_+1;omega) _
structure zcR (f:ByteArray->ByteArray->Option Int)(os:List Ob)(k:Nat):Prop where
 has:∀p q,(f p q).isSome=(os.take k).any (zbS p q)
 at_:∀p q v,f p q=some v->∃i,∃h:i<os.length,v=(i:Int)/\os[i].kd=p/\os[i].nm=q
theorem zcR.put {f:ByteArray->ByteArray->Option Int}{os:List Ob}{k:Nat}(h:zcR f os k)(hlt:k<os.length):zcR (fun p q=>if p=os[k].kd/\q=os[k].nm then some (k:Int) else f p q) os (k+1):=by
 refine⟨fun p q=>?_,fun p q v hv=>?_⟩
 ·rw[tSe hlt,List.any_append,<- h.has p q]
  simp only[List.any_cons,List.any_nil,Bool.or_false]
  by_cases e:p=os[k].kd/\q=os[k].nm
  ·rw[if_pos e]
   unfold zbS
   simp[e.1,e.2]
  ·rw[if_neg e]
   have:zbS p q os[k]=false:=by
    unfold zbS;rw[Bool.and_eq_false_iff,decide_eq_false_iff_not,decide_eq_false_iff_not]
    by_cases e1:os[k].kd=p
    ·exact Or.inr fun e2=>e ⟨e1.symm,e2.symm⟩
    ·exact Or.inl e1
   rw[this,Bool.or_false]
 ·by_cases e:p=os[k].kd/\q=os[k].nm
  ·rw[if_pos e]at hv
   exact⟨k,hlt,(Option.some.inj hv).symm,e.1.symm,e.2.symm⟩
  ·rw[if_neg e]at hv
   exact h.at_ p q v hv
theorem zix (a:Option Addr)(cap:Nat)(os:List Ob)(w:World)(hw:zbA w a os)(hl:os.length<=1048576) :
 Calls Tryz.prog 162 #[.slice a os.length cap] w fun e w'=>(∃f,e=.returned (.map (some w.heap.size))/\yR w' w.heap.size f/\zcR f os os.length)/\Below w.heap.size w w':=by
 have HW:=hid hw;have hmk:∀w:World,(Instr.makeMap 213 none).run Tryz.prog w=.ok (.map (some w.heap.size)) (w.alloc (.map #[] 0)):=fun w=>by kernel_rfl
 clear hw;go_enter Tryz.func162,Tryz.ntmps162;go_wp2_with fail
 clear hmk
 go_loopw [9] (fun iv wr=>∃k:Nat,k<=os.length/\iv=.int .i64 k/\Hid ((∃f,yR wr w.heap.size f/\zcR f os k)/\Below w.heap.size w wr)) (fun iv _=>os.length-(intOf iv).toNat)
 case atStart=>exact⟨0,Nat.zero_le _,rfl,⟨_,yR.new w,⟨fun p q=>by simp,fun p q v h=>by cases h⟩⟩,bAl _ _⟩
 case round=>
  obtain⟨k,hk,rfl,HX⟩:=hrel;obtain⟨⟨f,hf,hc⟩,hB⟩:=HX.out;have hkn:k<=1048576:=by omega
  by_cases hlt:k<os.length
  ·obtain⟨ob,off,v0,v1,q0,q1,rfl,hob,hsm,hl0,hl1,d0,d1,d2,d3,d4,d5,d6⟩:=HW.out.load hB k hlt
   have hltI:(k:Int)<(os.length:Int):=by omega
   have hob':=nLt hob hB.size;have HKn:=hid hsm;have HPf:=zdp hf hc hB;clear hf hc hB HX hsm hl0 hl1;go_wp2_with fail
   refine(zkN os[k] v0 v1 q0 q1 _).mono ?_;rintro e w1⟨rfl,hb1⟩;have hBa:=(HPf.out.2.2.alloc HPf.out.2.2.size (.cells #[.string os[k].kd,.string os[k].nm,.string os[k].tm,.slice v0 os[k].vs.length q0,.bool os[k].en,.slice v1 os[k].hs.length q1,.int .i64 os[k].vr] 117))
   have hf1:yR w1 w.heap.size f:=(HPf.out.1.mono (bAl _ _)).mono hb1;obtain⟨w2,hup,hf2,hp2⟩:=hf1.upd zj4 Tryz.underlying213 os[k].kd os[k].nm HKn.out.kd HKn.out.nm (k:Int)
   have HC:Hid ((∃f,yR w2 w.heap.size f/\zcR f os (k+1))/\Below w.heap.size w w2):=
    ⟨⟨_,hf2,HPf.out.2.1.put hlt⟩,hp2.below (hBa.trans (hb1.mono hBa.size)) (Nat.le_refl _)⟩
   clear hf1 hf2 hp2 hb1 hBa;go_wp2_with fail
   exact⟨⟨k+1,by omega,by go_num,HC.out⟩,zq hlt⟩
  ·have e:k=os.length:=by omega
   subst e;have HE:Hid (∃f,yR wr w.heap.size f/\zcR f os os.length):=⟨f,hf,hc⟩
   have HB:=hid hB;clear hf hc hB HX hlt hk;go_wp2_with fail
   go_ret;obtain⟨f,h1,h2⟩:=HE.out;exact⟨⟨f,rfl,h1,h2⟩,HB.out⟩
theorem zhp (a:Option Addr)(cap:Nat)(os:List Ob)(w:World)(hw:zbA w a os)(hl:os.length<=1048576) :
 Calls Tryz.prog 162 #[.slice a os.length cap] w fun e w'=>(∃f,e=.returned (.map (some w.heap.size))/\yR w' w.heap.size f/\∀p q,(f p q).isSome=os.any (zbS p q))/\Below w.heap.size w w':=by
 refine(zix a cap os w hw hl).mono ?_;rintro e w'⟨⟨f,he,hf,hp⟩,hb⟩;exact⟨⟨f,he,hf,fun p q=>by rw[hp.has p q,tOl (Nat.le_refl _)]⟩,hb⟩
end Go.Proofs.YtkficnallnpjnaaGreat
