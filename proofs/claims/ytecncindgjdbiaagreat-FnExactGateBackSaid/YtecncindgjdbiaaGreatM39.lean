import Derived.Lib.SliceRun
import Derived.Deep.RegionLaw
import Derived.Test.YtecncindgjdbiaaGreatM36
import Derived.Test.YtecncindgjdbiaaGreatM38
set_option maxHeartbeats 4000000
namespace Go.Proofs.YtecncindgjdbiaaGreat
open Go.RowKit
theorem zbH {t:TypeId}{b:Nat}:∀(vs:List Value) (o:Nat) (w:World) (C:AV),w.heap[b]?=some (.cells C t)->o+vs.length<=C.size->∃C',(w.setCells b o vs).heap[b]?=some (.cells C' t)/\C'.size=C.size/\(∀j,j<vs.length->C'[o+j]?=vs[j]?)/\∀x,(x<o \/ o+vs.length<=x)->C'[x]?=C[x]?
 | [],_,_,C,h,_=>⟨C,h,rfl,fun j hj=>by simp at hj,fun _ _=>rfl⟩
 | v :: r,o,w,C,h,hs=>by
  simp only[List.length_cons]at hs;obtain⟨C',h1,h2,h3,h4⟩:=zbH r (o+1) (w.setCell (aD b o) v) _ (zi h v) (by simp;omega);refine⟨C',h1,h2.trans (by simp),fun j hj=>?_,fun x hx=>?_⟩
  ·cases j with
   | zero=>
    rw[h4 _ (by omega),Nat.add_zero,Array.getElem?_setIfInBounds,if_pos rfl,if_pos (by omega)]
    rfl
   | succ j=>
    rw[show o+(j+1)=o+1+j by omega,h3 j (by simpa using hj)]
    rfl
  ·simp only[List.length_cons]at hx
   rw[h4 x (by omega),Array.getElem?_setIfInBounds,if_neg (by omega)]
theorem zdp {S:Nat->Prop}{w:World}{b:Nat}(hb:S b):∀(vs:List Value) (o:Nat) (W:World),Left S w W->Left S w (W.setCells b o vs)
 | [],_,_,h=>h
 | v :: r,o,_,h=>zdp hb r (o+1) _ (h.set hb o v)
theorem zk1 {P:Program}(w:World)(t e ty:TypeId)(z:Value)(zs:List Value)(ht:P.underlying t=some (.slice e))(hv:∀w,(zeroValue e).run P w=.ok z w)(hz:(Builtin.zeroCells z.cells 1).toList=zs)(h1:∀u∈zs,u.oneCell'=true)(b o c:Nat)
 (hc:∀j,j<zs.length->(w.cell? (aD b (o+j))).isSome=true) (hf:∀j,j<zs.length->w.frozen? (aD b (o+j))=false) :
 (Builtin.clear_ #[t] ty #[.l (some (aD b o)) 1 c]).run P w=.ok (.tuple #[]) (w.setCells b o zs):=by
 have hst:=run_storeCells_cells (P:=P) b o zs 0 w (by simpa using hc) (by simpa using hf) h1;simp only[Nat.add_zero]at hst
 simp[Builtin.clear_,run_underlying ht,hv,hz,hst]
theorem znd {α:Type}(row:α->List Value)(n:Nat)(hn:∀p,(row p).length=n)(ps:List α)(k j:Nat)(h:k<=ps.length):((ps.drop k).flatMap row)[j]?=(ps.flatMap row)[k*n+j]?:=by
 have e:ps.flatMap row=(ps.take k).flatMap row++(ps.drop k).flatMap row:=by rw[<- List.flatMap_append,List.take_append_drop]
 rw[e,List.getElem?_append_right (by rw[q9 row n hn,List.length_take,Nat.min_eq_left h];omega),q9 row n hn,List.length_take,Nat.min_eq_left h]
 congr 1
 omega
theorem Pu.zdT (p:Pu):p.row.length=5:=rfl
theorem Pu.row_one {p:Pu}{u:Value}(h:u∈p.row):u.oneCell'=true:=by
 unfold Pu.row at h
 simp at h
 rcases h with rfl|rfl|rfl|rfl|rfl <;> rfl
theorem znV {lo:Nat}{w W:World}{own:Nat->Lb}{g cap:Nat}{ms:List Pu}{k:Nat}(h:zdj lo w own (.l (some (aD g 0)) ms.length cap) ms)(hk:k<ms.length)(zs:List Value)(hz:zs.length=5)
 (hW:W=(w.drew.setCells g (0+k*5) ((ms.drop (k+1)).flatMap Pu.row)).setCells g ((ms.length-1)*5) zs) :
 zdj lo W own (.l (some (aD g 0)) (ms.length-1) cap) (ms.eraseIdx k)/\Left (fun q=>(own q).1=3) w W:=by
 obtain⟨h1,h2⟩:=h;have ho:=h2 g rfl;have hle:(ms.eraseIdx k).length=ms.length-1:=by rw[List.length_eraseIdx,if_pos hk]
 rcases h1 with⟨hl,⟨h3,_⟩|⟨g',cap',cur,h3,hlo,hg,hn,hm,hs,ht⟩⟩
 ·cases h3
 cases h3
 have hd:w.drew.heap[g]?=some (.cells cur 79):=hg;have hln:((ms.drop (k+1)).flatMap Pu.row).length=(ms.length-(k+1))*5:=by rw[q9 _ 5 Pu.zdT,List.length_drop]
 obtain⟨C1,e1,e2,e3,e4⟩:=zbH ((ms.drop (k+1)).flatMap Pu.row) (0+k*5) w.drew cur hd (by rw[hln,hs];omega);obtain⟨C2,f1,f2,f3,f4⟩:=zbH zs ((ms.length-1)*5) _ C1 e1 (by rw[hz,e2,hs];omega);rw[<- hW]at f1;refine⟨⟨?_,fun q hq=>h2 q hq⟩,?_⟩
 ·rw[hle]
  refine⟨by rw[q9 _ 5 Pu.zdT,hle],Or.inr ⟨g,cap,C2,rfl,hlo,f1,by omega,hm,by rw[f2,e2,hs],?_⟩⟩
  apply List.ext_getElem?
  intro j
  by_cases hj:j<(ms.length-1)*5
  ·rw[List.getElem?_take_of_lt hj,Array.getElem?_toList,f4 j (Or.inl hj),List.eraseIdx_eq_take_drop_succ,List.flatMap_append]
   have htl:((ms.take k).flatMap Pu.row).length=k*5:=by rw[q9 _ 5 Pu.zdT,List.length_take,Nat.min_eq_left (by omega)]
   by_cases hj2:j<k*5
   ·rw[e4 j (by omega),List.getElem?_append_left (by omega)]
    have e:(cur.toList.take (ms.length*5))[j]?=(ms.flatMap Pu.row)[j]?:=congrArg (fun l=>l[j]?) ht;rw[List.getElem?_take_of_lt (by omega),Array.getElem?_toList]at e;rw[e]
    conv=>lhs;rw[<- List.take_append_drop k ms,List.flatMap_append]
    rw[List.getElem?_append_left (by omega)]
   ·have e:=e3 (j-k*5) (by rw[hln];omega)
    rw[show 0+k*5+(j-k*5)=j by omega]at e;rw[e,List.getElem?_append_right (by omega),htl]
  ·rw[List.getElem?_eq_none (by rw[List.length_take];omega),List.getElem?_eq_none (by rw[q9 _ 5 Pu.zdT,hle];omega)]
 ·rw[hW]
  have h3:(fun q=>(own q).1=3) g:=by show(own g).1=3;rw[ho]
  exact zdp (S:=fun q=>(own q).1=3) h3 _ _ _ (zdp (S:=fun q=>(own q).1=3) h3 _ _ _ ⟨rfl,rfl,rfl,Nat.le_refl _,fun _ _ _=>rfl⟩)
theorem zpt {lo:Nat}{w:World}{own:Nat->Lb}{g cap:Nat}{ms:List Pu}{k:Nat}(h:zdj lo w own (.l (some (aD g 0)) ms.length cap) ms)(hk:k<ms.length) :
 ∃A:Addr,(if cap=k+1 then some ((aD g 0):Addr) else some (aD g (0+(k+1)*5)))=some A/\∀t u,((ms.drop (k+1)).flatMap Pu.row)[t]?=some u->w.drew.cell? (A.add t)=some u:=by
 obtain⟨h1,h2⟩:=h
 rcases h1 with⟨hl,⟨h3,_⟩|⟨g',cap',cur,h3,hlo,hg,hn,hm,hs,ht⟩⟩
 ·cases h3
 cases h3
 by_cases hc:cap=k+1
 ·refine⟨(aD g 0),by rw[if_pos hc],fun t u hu=>?_⟩
  rw[List.drop_eq_nil_of_le (by omega)]at hu
  simp at hu
 ·refine⟨(aD g (0+(k+1)*5)),by rw[if_neg hc],fun t u hu=>?_⟩
  have hlt:=(List.getElem?_eq_some_iff.1 hu).1;rw[q9 _ 5 Pu.zdT,List.length_drop]at hlt;rw[znd _ 5 Pu.zdT ms (k+1) t (by omega)]at hu;have e:(cur.toList.take (ms.length*5))[(k+1)*5+t]?=(ms.flatMap Pu.row)[(k+1)*5+t]?:=congrArg (fun l=>l[(k+1)*5+t]?) ht;rw[List.getElem?_take_of_lt (by omega),Array.getElem?_toList]at e;have hd:w.drew.heap[g]?=some (.cells cur 79):=hg;rw[Addr.add_lit,cell_of_block hd,Nat.zero_add,e,hu]
def zbh (ss:List Shp)(m:Mnd):Bool:=zJ ss m.kd&&yD (shapeOf ss m.kd).fs m
def zco (ms:List Mnd)(s:Shp):Bool:=decide ((yh s ms s.fs.length).length=s.fs.length)
def jo (ss:List Shp)(ms:List Mnd):Bool:=zZ ss&&decide (ms.length<=12)&&ms.all (zbh ss)&&ss.all (zco ms)
theorem zmh (a:OA)(cap:Nat)(ss:List Shp)(m:Mnd)(w:World)(hw:yR w a ss)(hm:m.Small) :
 Calls Tryz.prog 142 #[.l a ss.length cap,.agg m.cells] w fun e w'=>e=.returned (.bool (zbh ss m))/\Bw w w':=by
 by_cases hk:zJ ss m.kd=true
 ·refine(zme a cap ss m w hw hm hk).mono ?_
  rintro e w'⟨rfl,hb⟩;exact⟨by unfold zbh;rw[hk];rfl,hb⟩
 ·have hkf:zJ ss m.kd=false:=by simpa using hk
  have HF:Hid (zbh ss m=false):=by unfold Hid zbh;rw[hkf];rfl
  unfold Mnd.cells;have hba:=(bRf w.heap.size w).alloc (Nat.le_refl _) (.cells #[.s m.kd,.s m.fd,.s m.wh,.s m.wi,.s m.pt,.s m.fr] 136);go_enter Tryz.func142,Tryz.ntmps142;go_wp2_with fail
  refine(zeg _ _ _ _ _ (hw.mono hba) hkf).mono ?_;rintro e w1⟨rfl,rfl⟩;go_wp2_with fail
  go_ret;exact⟨by rw[HF.o];rfl,hba⟩
set_option maxRecDepth 20000 in
theorem zeB (a a':OA)(cap cap':Nat)(ss:List Shp)(ms:List Mnd)(w:World)(hw:yR w a ss)(hm:qL w a' ms) :
 Calls Tryz.prog 105 #[.l a ss.length cap,.l a' ms.length cap'] w fun e w'=>e=.returned (.bool (jo ss ms))/\Bw w w':=by
 have HW:=qw hw hm;have hl:=hw.len;have hml:=hm.len;unfold maxLen at hl hml;clear hw hm
 by_cases hok:zZ ss=true
 rotate_left
 ·have hokf:zZ ss=false:=by simpa using hok
  have HF:Hid (jo ss ms=false):=by unfold Hid jo;rw[hokf];simp
  go_enter Tryz.func105,Tryz.ntmps105;go_wp2_with fail
  have h:=zbP a cap ss w HW.o.1;rw[hokf]at h;refine h.mono ?_;rintro e w1⟨rfl,hb1⟩;clear h;go_wp2_with fail
  go_ret;exact⟨by rw[HF.o];rfl,hb1⟩
 have HOK:=hid hok
 by_cases h12:ms.length<=12
 rotate_left
 ·have HF:Hid (jo ss ms=false):=by unfold Hid jo;rw[decide_eq_false h12];simp
  go_enter Tryz.func105,Tryz.ntmps105;go_wp2_with fail
  have h:=zbP a cap ss w HW.o.1;rw[hok]at h;refine h.mono ?_;rintro e w1⟨rfl,hb1⟩;clear h hok;go_wp2_with fail
  go_ret;exact⟨by rw[HF.o];rfl,hb1⟩
 have h12I:(ms.length:Int)<=12:=by omega
 go_enter Tryz.func105,Tryz.ntmps105;go_wp2_with fail
 have h:=zbP a cap ss w HW.o.1;rw[hok]at h;refine h.mono ?_;rintro e w1⟨rfl,hb1⟩;have HB1:=hid hb1;clear h hok hb1;go_wp2_with fail
 go_loopw [5] (fun iv wr=>∃k:Nat,k<=ms.length/\iv=.i k/\(ms.take k).all (zbh ss)=true/\Bw w wr) (fun iv _=>ms.length-(intOf iv).toNat)
 case atStart=>exact⟨0,Nat.zero_le _,rfl,rfl,HB1.o⟩
 case round=>
  obtain⟨k,hk,rfl,hall,hB⟩:=hrel;have HB:=hid hB;have HA:=hid hall;clear hall hB
  by_cases hlt:k<ms.length
  ·obtain⟨b,off,rfl,hb,c0,c1,c2,c3,c4,c5⟩:=HW.o.2.load HB.o k hlt
   have hltI:(k:Int)<(ms.length:Int):=by omega
   have HSM:=hid (HW.o.2.small k hlt)
   have HTK:Hid ((ms.take (k+1)).all (zbh ss)=zbh ss ms[k]):=by
    unfold Hid;rw[tSe hlt,List.all_append,HA.o];simp
   have HNO:Hid (zbh ss ms[k]=false->jo ss ms=false):=by
    intro h
    have:ms.all (zbh ss)=false:=by rw[List.all_eq_false];exact⟨_,List.getElem_mem hlt,by rw[h];simp⟩
    unfold jo;rw[this];simp
   go_wp2_with fail
   have h:=zmh a cap ss ms[k] wr (HW.o.1.mono HB.o) HSM.o
   rcases hh:zbh ss ms[k] with _|_
   ·rw[hh]at h
    refine h.mono ?_;rintro e w3⟨rfl,hb3⟩;have HF:=qw (HNO.o hh) (HB.o.trans (hb3.mono HB.o.size));clear h hb3 hh c0 c1 c2 c3 c4 c5;go_wp2_with fail
    go_ret;exact⟨by rw[HF.o.1];rfl,HF.o.2⟩
   ·rw[hh]at h
    refine h.mono ?_;rintro e w3⟨rfl,hb3⟩;have HY:Hid ((ms.take (k+1)).all (zbh ss)=true/\Bw w w3):=⟨by rw[HTK.o];exact hh,HB.o.trans (hb3.mono HB.o.size)⟩
    clear h hb3 hh c0 c1 c2 c3 c4 c5;go_wp2_with fail
    exact⟨⟨k+1,by omega,by go_num,HY.o.1,HY.o.2⟩,zq hlt⟩
  ·have e:k=ms.length:=by omega
   have hall:=HA.o;rw[e,tOl (Nat.le_refl _)]at hall;have HALL:=hid hall;subst e;clear hall HA;go_wp2_with fail
   have HBw:=hid HB.o;clear HB
   go_loopw [6] (fun iv wq=>∃k:Nat,k<=ss.length/\iv=.i k/\(ss.take k).all (zco ms)=true/\Bw w wq) (fun iv _=>ss.length-(intOf iv).toNat)
   case atStart=>exact⟨0,Nat.zero_le _,rfl,rfl,HBw.o⟩
   case round=>
    obtain⟨k,hk,rfl,hall,hB⟩:=hrel;have HB:=hid hB;have HA:=hid hall;clear hall hB
    by_cases hlt:k<ss.length
    ·obtain⟨b,off,rfl,hb,hr⟩:=HW.o.1.rows (by rintro rfl;simp at hlt)
     obtain⟨fa,fcap,hs0⟩:=hr k hlt;have HSI:Hid (∀W,Bw w W->zln W b (off+k*2) ss[k] fa fcap):=fun W hbb=>hs0.mono hb hbb
     have hck:=(HSI.o _ HB.o).kind;have hcl:=(HSI.o _ HB.o).list;have hltI:(k:Int)<(ss.length:Int):=by omega
     have HTK:Hid ((ss.take (k+1)).all (zco ms)=zco ms ss[k]):=by
      unfold Hid;rw[tSe hlt,List.all_append,HA.o];simp
     have HNO:Hid (zco ms ss[k]=false->jo ss ms=false):=by
      intro h
      have:ss.all (zco ms)=false:=by rw[List.all_eq_false];exact⟨_,List.getElem_mem hlt,by rw[h];simp⟩
      unfold jo;rw[this];simp
     have HFW:=hid (zfS HOK.o k hlt);clear hr hs0;go_wp2_with fail
     have hbc:=HB.o.drew;have hL:=(⟨(HSI.o _ hbc).kind,(HSI.o _ hbc).list⟩:_/\_)
     go_region_held3 (fun w'=>w'.cell? (aD b (off+k*2))=some (.s ss[k].kd)/\w'.cell? (aD b (off+k*2+1))=some (.l fa ss[k].fs.length fcap)) (exact hL) (first
      | (go_at_call 143;refine(zld fa a' fcap cap' ss[k] ms _ (by exact(HSI.o _ hbc).zdB) (by exact HW.o.2.mono hbc) h12 HFW.o).mono ?_;rintro e w5⟨v5,rfl,hrow,hb5⟩;obtain⟨ra,rcap,rfl⟩:=qD hrow;have hbc:=hbc.trans (hb5.mono hbc.size);have hL:=(⟨(HSI.o _ hbc).kind,(HSI.o _ hbc).list⟩:_/\_);clear hb5 hrow))
     by_cases hrk:(yh ss[k] ms ss[k].fs.length).length=ss[k].fs.length
     ·have hrI:(((yh ss[k] ms ss[k].fs.length).length:Int) != (ss[k].fs.length:Int))=false:=by rw[hrk];simp
      have HY:Hid ((ss.take (k+1)).all (zco ms)=true):=by unfold Hid;rw[HTK.o];unfold zco;exact decide_eq_true hrk
      clear hrk;go_wp2_with fail
      exact⟨⟨k+1,by omega,by go_num,HY.o,hbc⟩,zq hlt⟩
     ·have hrI:(((yh ss[k] ms ss[k].fs.length).length:Int) != (ss[k].fs.length:Int))=true:=by rw[bne_iff_ne];omega
      have HF:Hid (jo ss ms=false):=HNO.o (by unfold zco;exact decide_eq_false hrk);clear hrk;go_wp2_with fail
      go_ret;exact⟨by rw[HF.o];rfl,hbc⟩
    ·have e:k=ss.length:=by omega
     have hall:=HA.o;rw[e,tOl (Nat.le_refl _)]at hall;have HF:Hid (jo ss ms=true):=by unfold Hid jo;rw[HALL.o,HOK.o,hall,decide_eq_true h12];rfl
     subst e;clear hall HA;go_wp2_with fail
     go_ret;exact⟨by rw[HF.o];rfl,HB.o⟩
theorem zlt (b:Bk)(a0 a1 a2 a3:OA)(c0 c1 c2 c3:Nat)(tm rs:BA)(w:World)(hb:jc w b a0 a1 a2 a3)(hl:b.ps.length<=1000)(ha:∀i (h:i<b.ps.length),0<=b.ps[i].am/\b.ps[i].am<=1000000) :
 Calls Tryz.prog 118 #[.agg (b.cells a0 a1 a2 a3 c0 c1 c2 c3),.s tm,.s rs] w fun e w'=>e=.returned (.i (out b.ps tm rs))/\Bw w w':=by
 have HK:=hid hb;have HA:Hid (∀i (h:i<b.ps.length),0<=b.ps[i].am/\b.ps[i].am<=1000000):=ha;clear hb ha;unfold Bk.cells;go_enter Tryz.func118,Tryz.ntmps118;go_wp2_with fail
 have hX0:=zl w (bC b a0 a1 a2 a3 c0 c1 c2 c3) 40;have HB0:Hid (Bw w (w.alloc (.cells (bC b a0 a1 a2 a3 c0 c1 c2 c3) 40))):=bAl _ _;obtain⟨W0,hW0⟩:=nm (w.alloc (.cells (bC b a0 a1 a2 a3 c0 c1 c2 c3) 40));have hz0:w.heap.size<W0.heap.size:=by rw[hW0];simp
 rw[<- hW0]at HB0 hX0 ⊢;clear hW0
 go_loopw [7,8] (fun nv iv wr=>∃(k:Nat) (s:Int),k<=b.ps.length/\iv=.i k/\nv=.i s/\Hid (s=zbi b.ps tm rs k)/\wr=W0) (fun _ iv _=>b.ps.length-(intOf iv).toNat)
 case atStart=>exact⟨0,0,Nat.zero_le _,rfl,rfl,by simp[zbi,Hid],rfl⟩
 case round=>
  obtain⟨k,s,hk,rfl,rfl,HQ,rfl⟩:=hrel;have hkn:k<=1000:=by omega
  have hsb:0<=s/\s<=1000000000:=by have h1:=HQ.o;have h2:=zbI b.ps tm rs HA.o k hk;omega
  by_cases hlt:k<b.ps.length
  ·obtain⟨ob,off,rfl,hob,d0,d1,d2,d3,d4⟩:=HK.o.ps.load HB0.o k hlt
   have hltI:(k:Int)<(b.ps.length:Int):=by omega
   have HSt:=hid (zfl b.ps tm rs k hlt);have hab:=HA.o k hlt;clear d0 d4
   by_cases h1:b.ps[k].tm=tm
   ·have e1:(b.ps[k].tm.toList == tm.toList)=true:=by rw[beq_toList];simpa using h1
    by_cases h2:b.ps[k].rs=rs
    ·have e2:(b.ps[k].rs.toList == rs.toList)=true:=by rw[beq_toList];simpa using h2
     have HN:Hid (zbi b.ps tm rs (k+1)=s+b.ps[k].am):=by unfold Hid;rw[HSt.o,<- HQ.o,if_pos (by unfold zoQ;simp[h1,h2])]
     clear h1 h2;go_wp2_with fail
     exact⟨⟨k+1,s+b.ps[k].am,by omega,by go_num,by go_num,HN.o.symm,trivial⟩,zq hlt⟩
    ·have e2:(b.ps[k].rs.toList == rs.toList)=false:=by rw[beq_toList];simpa using h2
     have HN:Hid (zbi b.ps tm rs (k+1)=s):=by unfold Hid;rw[HSt.o,<- HQ.o,if_neg (by unfold zoQ;simp[h2])];omega
     clear h1 h2;go_wp2_with fail
     exact⟨⟨k+1,s,by omega,by go_num,rfl,HN.o.symm,trivial⟩,zq hlt⟩
   ·have e1:(b.ps[k].tm.toList == tm.toList)=false:=by rw[beq_toList];simpa using h1
    have HN:Hid (zbi b.ps tm rs (k+1)=s):=by unfold Hid;rw[HSt.o,<- HQ.o,if_neg (by unfold zoQ;simp[h1])];omega
    clear h1;go_wp2_with fail
    exact⟨⟨k+1,s,by omega,by go_num,rfl,HN.o.symm,trivial⟩,zq hlt⟩
  ·have e:k=b.ps.length:=by omega
   subst e;have HE:Hid (out b.ps tm rs=s):=by unfold Hid out;exact HQ.o.symm
   clear HQ hlt hk;go_wp2_with fail
   go_ret;exact⟨zo HE.o.symm,HB0.o⟩
theorem zer (a c:OA)(ca cc:Nat)(xs ys:List BA)(w:World)(hx:zF w a xs)(hy:zF w c ys)(hl:xs.length<=1048576)(hl':ys.length<=1048576) :
 Calls Tryz.prog 110 #[.l a xs.length ca,.l c ys.length cc] w fun e w'=>e=.returned (.bool (decide (xs=ys)))/\Bw w w':=by
 obtain⟨r,hr⟩:=nm (decide (xs=ys));rw[<- hr];have HR:=hid hr;have HX:=qw hx hy;clear hr hx hy
 by_cases hn:xs.length=ys.length
 rotate_left
 ·have HF:Hid (r=false):=by unfold Hid;rw[HR.o,decide_eq_false_iff_not];intro e;exact hn (by rw[e])
  have e1:((xs.length:Int) != (ys.length:Int))=true:=by simp;omega
  clear hn;go_enter Tryz.func110,Tryz.ntmps110;go_wp2_with fail
  go_ret;exact⟨ze HF.o.symm,bRf _ _⟩
 have e1:((xs.length:Int) != (ys.length:Int))=false:=by simp;omega
 have HN:=hid hn;clear hn;go_enter Tryz.func110,Tryz.ntmps110;go_wp2_with fail
 go_loopw [5] (fun iv wr=>∃k:Nat,k<=xs.length/\iv=.i k/\Hid ((∀i (h:i<xs.length) (h':i<ys.length),i<k->xs[i]=ys[i])/\Bw w wr)) (fun iv _=>xs.length-(intOf iv).toNat)
 case atStart=>exact⟨0,Nat.zero_le _,rfl,fun i h h' hk=>by omega,bRf _ _⟩
 case round=>
  obtain⟨k,hk,rfl,HQ⟩:=hrel;have hkn:k<=1048576:=by omega
  by_cases hlt:k<xs.length
  ·have hlt':k<ys.length:=by have:=HN.o;omega
   obtain⟨p,po,rfl,hp,hpc⟩:=HX.o.1.cells (by intro e;rw[e]at hlt;simp at hlt);obtain⟨q,qo,rfl,hq,hqc⟩:=HX.o.2.cells (by intro e;rw[e]at hlt';simp at hlt');have c1:=(HQ.o.2.cell (p:=(aD p (po+k))) hp).trans (hpc k hlt);have c2:=(HQ.o.2.cell (p:=(aD q (qo+k))) hq).trans (hqc k hlt');have hltI:(k:Int)<(xs.length:Int):=by omega
   have hltI':(k:Int)<(ys.length:Int):=by omega
   have hp':=nLt hp HQ.o.2.size;have hq':=nLt hq HQ.o.2.size;have HB:=hid HQ.o.2;clear hpc hqc
   by_cases he:xs[k]=ys[k]
   ·have e2:(xs[k].toList == ys[k].toList)=true:=by rw[beq_toList];simpa using he
    have HA:Hid (∀i (h:i<xs.length) (h':i<ys.length),i<k+1->xs[i]=ys[i]):=by
     intro i h h' hi
     rcases Nat.eq_or_lt_of_le (Nat.le_of_lt_succ hi) with e|h2
     ·subst e;exact he
     ·exact HQ.o.1 i h h' h2
    clear he HQ;go_wp2_with fail
    go_quiet (fail)
    go_wp2_with fail
    exact⟨⟨k+1,by omega,by go_num,HA.o,below_drewN HB.o _⟩,zq hlt⟩
   ·have e2:(xs[k].toList == ys[k].toList)=false:=by rw[beq_toList];simpa using he
    have HF:Hid (r=false):=by
     unfold Hid;rw[HR.o,decide_eq_false_iff_not];intro e;subst e;exact he rfl
    clear he HQ;go_wp2_with fail
    go_quiet (fail)
    go_wp2_with fail
    go_ret;exact⟨ze HF.o.symm,below_drewN HB.o _⟩
  ·have HF:Hid (r=true):=by
    unfold Hid;rw[HR.o,decide_eq_true_eq];exact List.ext_getElem HN.o fun i h h'=>HQ.o.1 i h h' (by omega)
   have HB:=hid HQ.o.2;clear HQ;go_wp2_with fail
   go_ret;exact⟨ze HF.o.symm,HB.o⟩
theorem zd9 {P:Program}{w:World}{ops:Array Oper}{rest:List Oper}{o:Oper}{a:Act}{Q:Exit->Act->World->Prop}(hgd:o.guard=none)(s x:Operand)(t:TypeId)
 (ho:o.op=.call { callee:=.builtin .append,args:=#[s,x],argTypes:=#[t,t] })
 (e:TypeId) (i:TypeInfo) (z:Value) (size bytes:Nat) (ht:P.underlying t=some (.slice e)) (hi:P.info? e=some i) (hz:i.zero=some z)
 (hsize:i.size=size) (hby:i.bytes=bytes) (hzs:z.cells.size=size) (hsz:0<size) (hs:a.eval s=.l none 0 0)
 (ad:OA) (n c:Nat) (news:List Value) (hx:a.eval x=.l ad n c) (hl:news.length=n*size) (hn:n≠0->∃p,ad=some p/\∀j u,news[j]?=some u->w.cell? (p.add j)=some u) (h1:∀u∈news,u.oneCell'=true)
 (h63:n<=maxLen) (hbytes:n*bytes<=140737488355328)
 (h:∀v' w',w'.ownsRow w.heap.size e size v' n news->Bw w w'->wpList P ops Q rest (a.put o.dst v') w'):wpList P ops Q (o :: rest) a w:=by
 by_cases h0:n=0
 ·subst h0
  have hr:(Builtin.append_ #[t,t] o.type #[.l none 0 0,.l ad 0 c]).run P w=.ok (.l none 0 0) w:=by
   have hso:(sizeOf e).run P w=.ok size w:=by
    unfold sizeOf typeInfo
    simp[hi,hsize,go_sem,Result.andThen]
   rcases ad with _|p
   ·simp[Builtin.append_,run_underlying ht,Builtin.lenOf,Builtin.firstCells,go_sem,Result.andThen,hso]
   ·simp[Builtin.append_,run_underlying ht,Builtin.lenOf,Builtin.firstCells,go_sem,Result.andThen,hso]
  refine wpList_plain hgd fun K hK=>?_
  unfold Oper.wp;simp only[execOp,ho,resolve,invoke,builtin,Sem.run_bind,Sem.run_pure,Result.andThen_ok,List.map_toArray,List.map_cons,List.map_nil,hs,hx,hr];have hnews:news=[]:=List.length_eq_zero_iff.1 (by rw[hl];simp);exact hK _ _ (h _ _ (by rw[hnews];exact World.ownsRow_nil _ _ _ _) (bRf _ _))
 ·obtain⟨p,rfl,hc⟩:=hn h0
  refine wpList_append_own w hgd s x t ho w.heap.size e i z size bytes ht hi hz hsize hby hzs hsz (.l none 0 0) 0 [] hs (World.ownsRow_nil _ _ _ _) p n c news hx hl hc h1 (by omega) (by rw[Nat.zero_add];exact hbytes) (Nat.le_refl _) ?_;intro v' w' hown hgr _;rw[Nat.zero_add,List.nil_append]at hown;exact h v' w' hown ((bRf _ _).grown hgr (Nat.le_refl _) (by simp[Value.ownBlock]))
def zi9:List Value:=[.s ByteArray.empty,.s ByteArray.empty,.s ByteArray.empty,.i 0,.i 0]
set_option maxRecDepth 1000000 in
theorem ziB (lo:Nat)(own:Nat->Lb)(a:OA)(cap:Nat)(ms:List Pu)(k j:Nat)(w:World)(h:zdj lo w own (.l a ms.length cap) ms)(hk:k<ms.length)(hj:j=k+1) :
 Calls Tryz.prog 37 #[.l a ms.length cap,.i k,.i j] w fun e w'=>e=.returned (.l a (ms.length-1) cap)/\zdj lo w' own (.l a (ms.length-1) cap) (ms.eraseIdx k)/\Left (fun q=>(own q).1=3) w w':=by
 obtain⟨i0,hi0,hz0,hz1,hz2⟩:=info_parts Tryz.zlJ;have HP:=hid h
 obtain⟨g,cur,rfl,hg,hn,hm,hs⟩:∃g cur,a=some (aD g 0)/\w.heap[g]?=some (.cells cur 79)/\ms.length<=cap/\cap<=maxLen/\cur.size=cap*5:=by
  rcases h.1 with⟨hl,⟨h3,_⟩|⟨g',cap',cur,h3,hlo,hg,hn,hm,hs,ht⟩⟩
  ·simp only[Value.slice.injEq]at h3;omega
  ·cases h3;exact⟨_,cur,rfl,hg,hn,hm,hs⟩
 clear h;obtain⟨A,hA,hsrc⟩:=zpt HP.o hk;rw[<- hj]at hA hsrc;rw[Nat.zero_add]at hA;have HS:=hid hsrc;obtain⟨n,hln⟩:∃n,ms.length=n:=⟨_,rfl⟩
 obtain⟨news,hnews⟩:=nm ((ms.drop j).flatMap Pu.row);rw[<- hnews]at HS;have hd:w.drew.heap[g]?=some (.cells cur 79):=hg;have s1:Hid (news.length=(n-j)*5):=by unfold Hid;rw[hnews,q9 _ 5 Pu.zdT,List.length_drop,hln]
 have s2:Hid (∀u∈news,u.oneCell'=true):=by
  unfold Hid;rw[hnews];intro u hu;obtain⟨p,_,hp⟩:=List.mem_flatMap.1 hu;exact Pu.row_one hp
 have s3:Hid (∀t,t<news.length->(w.drew.cell? (aD g (0+k*5+t))).isSome=true/\w.drew.frozen? (aD g (0+k*5+t))=false):=by
  intro t ht;rw[s1.out]at ht;refine⟨?_,zh hd⟩;rw[cell_of_block hd,Array.getElem?_eq_getElem (by omega)]
  rfl
 obtain⟨W1,hW1⟩:=nm (w.drew.setCells g (0+k*5) news);obtain⟨C1,e1,e2,_,_⟩:=zbH news (0+k*5) w.drew cur hd (by rw[s1.out,hs];omega);rw[<- hW1]at e1
 have hcl:∀ty,(Builtin.clear_ #[38] ty #[.l (some (aD g ((k+(n-j))*5))) (n-(k+(n-j))) (cap-(k+(n-j)))]).run Tryz.prog W1=.ok (.tuple #[]) (W1.setCells g ((k+(n-j))*5) zi9):=by
  intro ty;rw[show n-(k+(n-j))=1 by omega];refine zk1 W1 _ 79 ty (.agg #[.s ByteArray.empty,.s ByteArray.empty,.s ByteArray.empty,.i 0,.i 0]) zi9 Tryz.underlying38 (fun w=>by rfl) (by kernel_rfl) ?_ g _ _ (fun t ht=>?_) (fun t ht=>zh e1)
  ·intro u hu
   unfold zi9 at hu
   simp at hu
   rcases hu with rfl|rfl <;> rfl
  ·have ht':t<5:=ht
   rw[cell_of_block e1,Array.getElem?_eq_getElem (by omega)]
   rfl
 have hW:Hid (W1=w.drew.setCells g (0+k*5) news):=hW1;have X:Hid (ms.length=n/\news=(ms.drop j).flatMap Pu.row/\k<ms.length/\j=k+1):=⟨hln,hnews,hk,hj⟩
 rw[hln]at hn hk ⊢;unfold maxLen at hm;have hkc:k<=cap:=by omega
 have hjc:j<=cap:=by omega
 have hkj:k<j:=by omega
 have hjn:j<=n:=by omega
 clear hW1 e1 e2 hd hnews hsrc hg hln hj;go_enter Tryz.func37,Tryz.ntmps37;go_wp2_with fail
 go_region_law (refine step_append_room rfl (.tmp 22) (.tmp 25) 38 rfl 79 i0 5 Tryz.underlying38 hi0 hz1 g 0 k cap (by simp[Act.eval,Act.put]) A (n-j) (cap-j) news (by simp[Act.eval,Act.put]) s1.out HS.o s2.out (by omega) s3.out ?_;rw[<- hW.out])
 go_wp2
 go_ret;obtain⟨x1,x2,x3,x4⟩:=X.out;have hl:k+(n-j)=n-1:=by omega
 refine⟨by rw[hl];rfl,?_⟩;rw[hW.out,hl,x2,x4,<- x1];exact znV HP.o x3 zi9 rfl rfl
end Go.Proofs.YtecncindgjdbiaaGreat
