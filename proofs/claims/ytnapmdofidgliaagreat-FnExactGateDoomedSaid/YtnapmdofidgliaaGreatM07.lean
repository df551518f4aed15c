import Derived.Test.YtnapmdofidgliaaGreatM05
set_option maxHeartbeats 800000
namespace Go.Proofs.YtnapmdofidgliaaGreat
open Go.RowKit
theorem zi (s:ByteArray)(w:World)(hs:s.size<=maxLen) :
 Calls Tryz.prog 104 #[.string s] w fun e w'=>e=.returned (.bool (zB s))/\w'=w:=by
 unfold maxLen at hs
 by_cases hb:1<=s.size/\s.size<=16
 ·obtain⟨hb1,hb2⟩:=hb
  go_enter Tryz.func104,Tryz.ntmps104
  go_wp2_with (go_at_call 61;refine(zbf _ _ _ _ (by omega) (by omega)).mono ?_;rintro e w'⟨rfl,rfl⟩)
  go_loop [3] (fun i=>∃k:Nat,k<=s.size/\i=.int .i64 k/\(s.data.toList.take k).all zJ=true) (fun i=>s.size-(intOf i).toNat)
  case atStart=>exact⟨0,Nat.zero_le _,rfl,rfl⟩
  case round=>
   obtain⟨k,hk,rfl,hall⟩:=hrel
   by_cases hlt:k<s.size
   ·have HS:Hid ((s.data.toList.take (k+1)).all zJ=(true&&zJ s[k])):=by rw[zaR _ s k hlt,hall];rfl
    have HN:=fun h=>zce zJ s k hlt h
    have HN':Hid (zJ s[k]=false->y5 s=false):=HN;clear HN hall
    by_cases hc:zJ s[k]=true
    ·go_wp2_with (go_at_call 138;refine(zaf _ _).mono ?_;rintro e w'⟨rfl,rfl⟩)
     go_round
     case rel=>exact⟨k+1,by omega,by go_num,by rw[HS.out,hc];rfl⟩
     case measure=>simp[intOf];omega
    ·have hc':zJ s[k]=false:=by simpa using hc
     clear hc
     go_wp2_with (go_at_call 138;refine(zaf _ _).mono ?_;rintro e w'⟨rfl,rfl⟩)
     go_ret;refine⟨ze ?_,rfl⟩
     simp[zB,HN'.out hc']
   ·have HA:Hid (y5 s=true):=by unfold y5 Hid;rw[<- zaA s k (by omega)];exact hall
    clear hall
    go_wp2
    go_ret;refine⟨ze ?_,rfl⟩;simp only[zB,HA.out];simp;omega
 ·go_enter Tryz.func104,Tryz.ntmps104
  go_wp2_with (go_at_call 61;refine(zdc _ _ _ _ (by omega)).mono ?_;rintro e w'⟨rfl,rfl⟩)
  go_ret;refine⟨ze ?_,rfl⟩
  simp[zB];omega
theorem jZ (s:ByteArray)(w:World)(hs:s.size<=maxLen) :
 Calls Tryz.prog 190 #[.string s] w fun e w'=>e=.returned (.bool (y5 s))/\w'=w:=by
 unfold maxLen at hs;go_enter Tryz.func190,Tryz.ntmps190
 go_wp2
 go_loop [7] (fun i=>∃k:Nat,k<=s.size/\i=.int .i64 k/\(s.data.toList.take k).all zJ=true) (fun i=>s.size-(intOf i).toNat)
 case atStart=>exact⟨0,Nat.zero_le _,rfl,rfl⟩
 case round=>
  obtain⟨k,hk,rfl,hall⟩:=hrel
  by_cases hlt:k<s.size
  ·have HS:Hid ((s.data.toList.take (k+1)).all zJ=(true&&zJ s[k])):=by rw[zaR _ s k hlt,hall];rfl
   have HN:Hid (zJ s[k]=false->y5 s=false):=fun h=>zce zJ s k hlt h
   clear hall
   by_cases hd:48<=(s[k].toNat:Int)/\(s[k].toNat:Int)<=57
   ·have HC:Hid (zJ s[k]=true):=by simp[zJ,Hid];omega
    obtain⟨hd1,hd2⟩:=hd
    go_wp2_with (go_at_call 208;refine(zhY _ _ hd1 hd2).mono ?_;rintro e w'⟨rfl,rfl⟩)
    go_round
    case rel=>exact⟨k+1,by omega,by go_num,by rw[HS.out,HC.out];rfl⟩
    case measure=>simp[intOf];omega
   ·have HD:Hid (¬(48<=(s[k].toNat:Int)/\(s[k].toNat:Int)<=57)):=hd
    clear hd
    by_cases h45:(s[k].toNat:Int)=45
    ·have HC:Hid (zJ s[k]=true):=by simp[zJ,Hid];omega
     have h45':((s[k].toNat:Int) != 45)=false:=by simp[h45]
     clear h45
     go_wp2_with (go_at_call 208;refine(zcP _ _ HD.out).mono ?_;rintro e w'⟨rfl,rfl⟩)
     go_round
     case rel=>exact⟨k+1,by omega,by go_num,by rw[HS.out,HC.out];rfl⟩
     case measure=>simp[intOf];omega
    ·have h45':((s[k].toNat:Int) != 45)=true:=by simp[h45]
     by_cases h97:(s[k].toNat:Int)<97
     ·have HC:Hid (zJ s[k]=false):=by have:=HD.out;simp[zJ,Hid];omega
      clear h45
      go_wp2_with (go_at_call 208;refine(zcP _ _ HD.out).mono ?_;rintro e w'⟨rfl,rfl⟩)
      go_ret;exact⟨ze (HN.out HC.out).symm,rfl⟩
     ·by_cases h122:122<(s[k].toNat:Int)
      ·have HC:Hid (zJ s[k]=false):=by have:=HD.out;simp[zJ,Hid];omega
       clear h45
       go_wp2_with (go_at_call 208;refine(zcP _ _ HD.out).mono ?_;rintro e w'⟨rfl,rfl⟩)
       go_ret;exact⟨ze (HN.out HC.out).symm,rfl⟩
      ·have HC:Hid (zJ s[k]=true):=by simp[zJ,Hid];omega
       clear h45
       go_wp2_with (go_at_call 208;refine(zcP _ _ HD.out).mono ?_;rintro e w'⟨rfl,rfl⟩)
       go_round
       case rel=>exact⟨k+1,by omega,by go_num,by rw[HS.out,HC.out];rfl⟩
       case measure=>simp[intOf];omega
  ·have HA:Hid (y5 s=true):=by unfold y5 Hid;rw[<- zaA s k (by omega)];exact hall
   clear hall
   go_wp2
   go_ret;exact⟨ze HA.out.symm,rfl⟩
theorem zF (s:ByteArray)(w:World)(hs:s.size<=maxLen) :
 Calls Tryz.prog 147 #[.string s] w fun e w'=>e=.returned (.bool (zB s))/\w'=w:=by
 have hs':=hs;unfold maxLen at hs'
 by_cases h0:s.size=0
 ·rw[zdn s h0]
  go_enter Tryz.func147,Tryz.ntmps147
  go_wp2
  go_ret;exact⟨rfl,rfl⟩
 ·have hne:s.toList.isEmpty=false:=by rw[zq];simp[h0]
  by_cases h16:s.size<=16
  ·have HF:Hid (zB s=y5 s):=by
    simp only[Hid,zB];rw[decide_eq_true (show 1<=s.size by omega),decide_eq_true h16];simp
   go_enter Tryz.func147,Tryz.ntmps147
   go_wp2_with (go_at_call 190;refine(jZ _ _ hs).mono ?_;rintro e w'⟨rfl,rfl⟩)
   go_ret;exact⟨ze HF.out.symm,rfl⟩
  ·go_enter Tryz.func147,Tryz.ntmps147
   go_wp2_with (go_at_call 190;refine(jZ _ _ hs).mono ?_;rintro e w'⟨rfl,rfl⟩)
   go_ret;refine⟨ze ?_,rfl⟩;simp only[zB];rw[decide_eq_false h16];simp
theorem zi6 {a b:Int}{p q:Bool}(h:a=b)(h2:p=q):Ending.returned (.tuple #[.int .i64 a,.bool p])=.returned (.tuple #[.int .i64 b,.bool q]):=by rw[h,h2]
def zaF (s:ByteArray):Int:=if zao s=true then zgM s else 0
theorem zke (s:ByteArray)(w:World)(h1:1<=s.size)(h7:s.size<=7)(hz:s.size<=1 \/ ¬(s[0].toNat:Int)=48) :
 Calls Tryz.prog 226 #[.string s] w fun e w'=>e=.returned (.tuple #[.int .i64 (zaF s),.bool (zao s)])/\w'=w:=by
 have HF:Hid (zao s=zbb s):=zk8 s h1 h7 hz;have hne:s.toList.isEmpty=false:=by rw[zq];exact decide_eq_false (by omega)
 rcases(show(¬(s[0].toNat:Int)=48) \/ (s.size<=1/\(s[0].toNat:Int)=48) by rcases hz with h|h <;> omega) with hz0|⟨hone,hz0⟩
 all_goals
  clear hz
  first
   | (have hz1:((s[0].toNat:Int) == 48)=true:=by simpa using hz0)
   | (have hz1:((s[0].toNat:Int) == 48)=false:=by simpa using hz0)
  clear hz0;go_enter Tryz.func226,Tryz.ntmps226
  go_wp2
  go_loop [4,25] (fun n i=>∃k:Nat,k<=s.size/\i=.int .i64 k/\(s.data.toList.take k).all digit=true/\n=.int .i64 (dec (s.data.toList.take k))) (fun _ i=>s.size-(intOf i).toNat)
  case atStart=>exact⟨0,Nat.zero_le _,rfl,rfl,rfl⟩
  case round=>
   obtain⟨k,hk,rfl,hall,rfl⟩:=hrel;have hlen:(s.data.toList.take k).length<=k:=List.length_take_le _ _;obtain⟨hd0,hd1⟩:=zfs _ hall k hlen
   by_cases hlt:k<s.size
   ·have hp:=zk6 k (by omega)
    have hd2:dec (s.data.toList.take k)<10000000:=by omega
    clear hp hd1 hlen;have HS:Hid ((s.data.toList.take (k+1)).all digit=(true&&digit s[k])):=by rw[zaR _ s k hlt,hall];rfl
    have HD:Hid (dec (s.data.toList.take (k+1))=dec (s.data.toList.take k)*10+((s[k].toNat:Int)-48)):=by rw[zhU s k hlt];exact znB _ _
    have HN:Hid (digit s[k]=false->zbb s=false):=fun h=>zce digit s k hlt h
    clear hall
    by_cases hd:48<=(s[k].toNat:Int)/\(s[k].toNat:Int)<=57
    ·have HC:Hid (digit s[k]=true):=by simp[digit,Hid];omega
     obtain⟨h48,h57⟩:=hd
     go_wp2_with (go_at_call 208;refine(zhY _ _ h48 h57).mono ?_;rintro e w'⟨rfl,rfl⟩)
     go_round
     case rel=>exact⟨k+1,by omega,by go_num,by rw[HS.out,HC.out];rfl,by rw[HD.out]⟩
     case measure=>simp[intOf];omega
    ·have HC:Hid (digit s[k]=false):=by simp[digit,Hid];omega
     have HDD:Hid (¬(48<=(s[k].toNat:Int)/\(s[k].toNat:Int)<=57)):=hd;clear hd
     go_wp2_with (go_at_call 208;refine(zcP _ _ HDD.out).mono ?_;rintro e w'⟨rfl,rfl⟩)
     go_ret2
     exact⟨zi6 (by unfold zaF;rw[HF.out,HN.out HC.out];rfl) (by rw[HF.out,HN.out HC.out]),rfl⟩
   ·have HA:Hid (zbb s=true):=by unfold zbb Hid;rw[<- zaA s k (by omega)];exact hall
    have HB:Hid (dec (s.data.toList.take k)=zgM s):=by rw[zaA s k (by omega)];rfl
    clear hall hd0 hd1 hlen
    go_wp2
    go_ret2
    exact⟨zi6 (by unfold zaF;rw[HF.out,HA.out,HB.out];rfl) (by rw[HF.out,HA.out]),rfl⟩
theorem zdx (s:ByteArray)(w:World)(hs:s.size<=maxLen) :
 Calls Tryz.prog 226 #[.string s] w fun e w'=>e=.returned (.tuple #[.int .i64 (zaF s),.bool (zao s)])/\w'=w:=by
 unfold maxLen at hs
 by_cases h0:s.size=0
 ·rw[zdn s h0]
  go_enter Tryz.func226,Tryz.ntmps226
  go_wp2
  go_ret2
  exact⟨rfl,rfl⟩
 have hne:s.toList.isEmpty=false:=by rw[zq];simp[h0]
 by_cases h7:s.size<=7
 ·by_cases hz:1<s.size/\(s[0].toNat:Int)=48
  ·obtain⟨hm,hz0⟩:=hz
   have HF:Hid (zao s=false):=zfM s hm hz0;have hz1:((s[0].toNat:Int) == 48)=true:=by simpa using hz0
   clear hz0;go_enter Tryz.func226,Tryz.ntmps226
   go_wp2
   go_ret2
   exact⟨zi6 (by unfold zaF;rw[HF.out];rfl) HF.out.symm,rfl⟩
  ·exact zke s w (by omega) h7 (by omega)
 ·have HF:Hid (zao s=false):=zd9 s (by omega)
  go_enter Tryz.func226,Tryz.ntmps226
  go_wp2
  go_ret2
  exact⟨zi6 (by unfold zaF;rw[HF.out];rfl) HF.out.symm,rfl⟩
def zqg (ss:List Shp)(v:ByteArray)(e:Ending):Prop:=
 (zG ss v=false->e=.returned (.int .i64 (-1)))/\(zG ss v=true->∃k,∃h:k<ss.length,e=.returned (.int .i64 (k:Nat))/\shapeOf ss v=ss[k])
theorem zid (a:Option Addr)(cap:Nat)(ss:List Shp)(v:ByteArray)(w:World)(hw:yU w a ss) :
 Calls Tryz.prog 110 #[.slice a ss.length cap,.string v] w fun e w'=>zqg ss v e/\w'=w:=by
 have hl:=hw.len;unfold maxLen at hl;go_enter Tryz.func110,Tryz.ntmps110
 go_wp2
 go_loop [5] (fun i=>∃k:Nat,k<=ss.length/\i=.int .i64 k/\zG (ss.take k) v=false) (fun i=>ss.length-(intOf i).toNat)
 case atStart=>exact⟨0,Nat.zero_le _,rfl,rfl⟩
 case round=>
  obtain⟨k,hk,rfl,hno⟩:=hrel
  by_cases hlt:k<ss.length
  ·obtain⟨b,off,rfl,hb,hr⟩:=hw.rows (by rintro rfl;simp at hlt)
   obtain⟨fa,fcap,hs⟩:=hr k hlt;have hck:=hs.kind;clear hw hr hs
   by_cases he:ss[k].kd=v
   ·have hbe:(ss[k].kd.toList == v.toList)=true:=by rw[beq_toList];simpa using he
    have HA:Hid (zG ss v=true):=zfY ss v k hlt he;have HB:Hid (shapeOf ss v=ss[k]):=zef ss v k hlt hno he;clear he hno
    go_wp2
    go_ret;exact⟨⟨fun h=>(by rw[HA.out]at h;cases h),fun _=>⟨k,hlt,rfl,HB.out⟩⟩,rfl⟩
   ·have hbe:(ss[k].kd.toList == v.toList)=false:=by rw[beq_toList];simpa using he
    have HS:Hid (zG (ss.take (k+1)) v=false):=by unfold Hid;rw[zd5 ss v k hlt,hno,decide_eq_false he];rfl
    clear he hno
    go_wp2
    go_round
    case rel=>exact⟨k+1,by omega,by go_num,HS.out⟩
    case measure=>simp[intOf];omega
  ·have HA:Hid (zG ss v=false):=by rw[<- ze2 ss v k (by omega)];exact hno
   clear hno hw
   go_wp2
   go_ret;exact⟨⟨fun _=>rfl,fun h=>by rw[HA.out]at h;cases h⟩,rfl⟩
theorem zd2 (a:Option Addr)(cap:Nat)(ss:List Shp)(v:ByteArray)(w:World)(hw:yU w a ss)(h:zG ss v=false) :
 Calls Tryz.prog 110 #[.slice a ss.length cap,.string v] w fun e w'=>e=.returned (.int .i64 (-1))/\w'=w:=by
 refine(zid a cap ss v w hw).mono ?_;rintro e w'⟨⟨h1,_⟩,rfl⟩;exact⟨h1 h,rfl⟩
theorem jJ (a:Option Addr)(cap:Nat)(ss:List Shp)(v:ByteArray)(w:World)(hw:yU w a ss)(h:zG ss v=true) :
 Calls Tryz.prog 110 #[.slice a ss.length cap,.string v] w fun e w'=>∃k,∃h:k<ss.length,e=.returned (.int .i64 (k:Nat))/\shapeOf ss v=ss[k]/\w'=w:=by
 refine(zid a cap ss v w hw).mono ?_;rintro e w'⟨⟨_,h2⟩,rfl⟩;obtain⟨k,hk,he,hs⟩:=h2 h;exact⟨k,hk,he,hs,rfl⟩
end Go.Proofs.YtnapmdofidgliaaGreat
namespace Go.Proofs.YtnapmdofidgliaaGreat
structure Ob where
 kd:ByteArray
 nm:ByteArray
 tm:ByteArray
 vs:List ByteArray
 en:Bool
 hs:List ByteArray
 vr:Int
structure Ob.Small (o:Ob):Prop where
 kd:o.kd.size<=maxLen
 nm:o.nm.size<=maxLen
 tm:o.tm.size<=maxLen
def zaH (f:Fld)(v:ByteArray):Int:=if v.size=0 then (if f.mu then 2 else 0) else if ze1 f v then 0 else 3
def zg0 (fs:List Fld)(vs:List ByteArray)(i:Nat):Int:=zaH (fs.getD i zbO) (vs.getD i ByteArray.empty)
def zbg (fs:List Fld)(vs:List ByteArray)(i:Nat):Bool:=decide (zg0 fs vs i=0)
def jN (fs:List Fld)(vs:List ByteArray):Int × Int:=match (List.range fs.length).find? (fun i=>!zbg fs vs i) with|some i=>(zg0 fs vs i,i)|none=>(0,0)
theorem find_range {P:Nat->Bool}{n k:Nat}(hk:k<n)(hu:up P k=true)(hp:P k=false):(List.range n).find? (fun i=>!P i)=some k:=by
 rw[List.find?_eq_some_iff_getElem];refine⟨by simp[hp],k,by simpa using hk,by simp,fun j hj=>?_⟩
 have:=zfz hj hu
 simp[this]
theorem ziA {P:Nat->Bool}{n:Nat}(hu:up P n=true):(List.range n).find? (fun i=>!P i)=none:=by
 rw[List.find?_eq_none];intro x hx
 have:=zfz (List.mem_range.1 hx) hu
 simp[this]
theorem zls {fs:List Fld}{vs:List ByteArray}{k:Nat}(hk:k<fs.length)(hu:up (zbg fs vs) k=true)(hp:zbg fs vs k=false):jN fs vs=(zg0 fs vs k,(k:Int)):=by
 unfold jN;rw[find_range hk hu hp]
theorem zh0 {fs:List Fld}{vs:List ByteArray}(hu:up (zbg fs vs) fs.length=true):jN fs vs=(0,0):=by
 unfold jN;rw[ziA hu]
theorem zjq {fs:List Fld}{vs:List ByteArray}{k:Nat}(h1:k<fs.length)(h2:k<vs.length):zg0 fs vs k=zaH fs[k] vs[k]:=by
 unfold zg0;rw[getD_at fs k _ h1,getD_at vs k _ h2]
def qH (o:Ob):Bool:=zB o.nm&&zB o.tm
def q8 (o:Ob):Bool:=decide (o.hs.length<=3)&&asc o.hs
def qz (o:Ob):Bool:=decide (0<=o.vr)&&decide (o.vr<=1000000)
def zy (ss:List Shp)(o:Ob):Bool:=zG ss o.kd&&decide (o.vs.length=(shapeOf ss o.kd).fs.length)
def whole (ss:List Shp)(o:Ob):Bool:=qH o&&q8 o&&qz o&&zy ss o
def yH (ss:List Shp)(o:Ob):Int × Int:=if whole ss o=true then jN (shapeOf ss o.kd).fs o.vs else (1,0)
end Go.Proofs.YtnapmdofidgliaaGreat
namespace Go.Proofs.YtnapmdofidgliaaGreat
open Go.RowKit
theorem yg {w:World}{p:Addr}{v:Value}{b o:Nat}(h:b≠p.block):(w.setCell p v).cell? ⟨b,o,none⟩=w.cell? ⟨b,o,none⟩:=by
 unfold World.cell?;rw[Below.heap_setCell _ _ _ _ h]
theorem zhD {w:World}{b g o:Nat}(h:b≠g){v0 v1 v2 v3 v4 v5 v6:Value}:(((((((w.setCell ⟨g,0,none⟩ v0).setCell ⟨g,1,none⟩ v1).setCell ⟨g,2,none⟩ v2).setCell ⟨g,3,none⟩ v3).setCell ⟨g,4,none⟩ v4).setCell ⟨g,5,none⟩ v5).setCell ⟨g,6,none⟩ v6).cell? ⟨b,o,none⟩=w.cell? ⟨b,o,none⟩:=by
 rw[yg h,yg h,yg h,yg h,yg h,yg h,yg h]
end Go.Proofs.YtnapmdofidgliaaGreat
namespace Go.Proofs.YtnapmdofidgliaaGreat
structure Tm where
 nm:ByteArray
 ov:ByteArray
def zbx:Tm:=⟨ByteArray.empty,ByteArray.empty⟩
def yG (ts:List Tm)(v:ByteArray):Bool:=ts.any fun t=>decide (t.nm=v)
def over (ts:List Tm)(v:ByteArray):ByteArray:=((ts.find? fun t=>decide (t.nm=v)).getD zbx).ov
theorem zeo (ts:List Tm)(v:ByteArray)(k:Nat)(h:k<ts.length):yG (ts.take (k+1)) v=(yG (ts.take k) v||decide (ts[k].nm=v)):=by
 unfold yG;rw[tSe h,List.any_append];simp
theorem zos (ts:List Tm)(v:ByteArray)(k:Nat)(h:k<ts.length)(e:ts[k].nm=v):yG ts v=true:=by
 unfold yG;rw[List.any_eq_true];exact⟨ts[k],List.getElem_mem h,by simpa using e⟩
theorem ze9 (ts:List Tm)(v:ByteArray)(k:Nat)(h:ts.length<=k):yG (ts.take k) v=yG ts v:=by rw[tOl h]
theorem zmh (ts:List Tm)(v:ByteArray)(k:Nat)(h:k<ts.length)(hb:yG (ts.take k) v=false)(e:ts[k].nm=v):over ts v=ts[k].ov:=by
 unfold over
 have hn:(ts.take k).find? (fun s=>decide (s.nm=v))=none:=by
  rw[List.find?_eq_none];intro x hx;unfold yG at hb;rw[List.any_eq_false]at hb;exact hb x hx
 have hf:ts.find? (fun s=>decide (s.nm=v))=some ts[k]:=by
  conv=>lhs;rw[<- List.take_append_drop k ts]
  rw[List.find?_append,hn,List.drop_eq_getElem_cons h,List.find?_cons_of_pos (by simpa using e)];rfl
 rw[hf];rfl
theorem zhP (ts:List Tm)(v:ByteArray)(hb:yG ts v=false):over ts v=ByteArray.empty:=by
 unfold over
 have hn:ts.find? (fun s=>decide (s.nm=v))=none:=by
  rw[List.find?_eq_none];intro x hx;unfold yG at hb;rw[List.any_eq_false]at hb;exact hb x hx
 rw[hn];rfl
def under (ts:List Tm):Nat->ByteArray->ByteArray->Bool
 | 0,a,b=>decide (a=b)
 | n+1,a,b=>decide (a=b)||(decide (¬(over ts a).size=0)&&under ts n (over ts a) b)
theorem zdV (ts:List Tm)(n:Nat)(a b:ByteArray)(h:a=b):under ts n a b=true:=by
 cases n <;> simp[under,h]
theorem zla (ts:List Tm){a b:ByteArray}(h:¬a=b):under ts 0 a b=false:=by simp[under,h]
theorem zjr (ts:List Tm)(n:Nat){a b:ByteArray}(h:¬a=b)(h0:(over ts a).size=0):under ts (n+1) a b=false:=by simp[under,h,h0]
theorem zmL (ts:List Tm)(n:Nat){a b:ByteArray}(h:¬a=b)(h0:¬(over ts a).size=0):under ts (n+1) a b=under ts n (over ts a) b:=by simp[under,h,h0]
def qD (ts:List Tm)(i:Nat):Bool:=
 zB (ts.getD i zbx).nm&&(decide (i=0)||less (ts.getD (i-1) zbx).nm (ts.getD i zbx).nm)&&((ts.getD i zbx).ov.toList.isEmpty||yG ts (ts.getD i zbx).ov)
def zeR (ts:List Tm):Nat->ByteArray->ByteArray
 | 0,a=>a
 | n+1,a=>zeR ts n (over ts a)
def qA (ts:List Tm):Nat->ByteArray->ByteArray
 | 0,a=>a
 | n+1,a=>if a.size=0 then a else qA ts n (over ts a)
def zd7 (ts:List Tm)(t:Tm):Bool:=decide ((zeR ts 4 t.ov).size=0)
def zf8 (ts:List Tm)(i:Nat):Bool:=zd7 ts (ts.getD i zbx)
def zbI (ts:List Tm)(i:Nat):Bool:=decide ((qA ts 5 (ts.getD i zbx).nm).size=0)
def zbU (ts:List Tm):Bool:=decide (ts.length<=12)&&(up (qD ts) ts.length&&up (zf8 ts) ts.length)
def zcc (ts:List Tm)(i:Nat):Bool:=qD ts i&&zbI ts i
def zaX (ts:List Tm):Bool:=decide (ts.length<=12)&&up (zcc ts) ts.length
theorem zcN {P:Nat->Bool}{n:Nat}:up P n=true↔∀i,i<n->P i=true:=by
 unfold up;rw[List.all_eq_true];simp
theorem zpP {ts:List Tm}{i:Nat}(hi:i<ts.length)(h:qD ts i=true):zB ts[i].nm=true:=by
 unfold qD at h;rw[getD_at ts i _ hi]at h;simp only[Bool.and_eq_true]at h;exact h.1.1
theorem zps {ts:List Tm}{i:Nat}(hi:i+1<ts.length)(h:qD ts (i+1)=true):less ts[i].nm ts[i+1].nm=true:=by
 unfold qD at h;rw[getD_at ts (i+1) _ hi,Nat.add_sub_cancel,getD_at ts i _ (by omega)]at h;simp only[Bool.and_eq_true]at h
 simpa using h.1.2
theorem zoK {ts:List Tm}(h:up (qD ts) ts.length=true):∀(j:Nat) (hj:j<ts.length) (i:Nat) (hi:i<j),less (ts[i]'(by omega)).nm ts[j].nm=true:=by
 intro j
 induction j with
 | zero=>intro _ i hi;omega
 | succ j ih=>
  intro hj i hi;have h2:=zps hj (zfz hj h)
  rcases Nat.lt_or_ge i j with hlt|hge
  ·exact zbh _ _ _ (ih (by omega) i hlt) h2
  ·have e:i=j:=by omega
   subst e;exact h2
theorem over_self {ts:List Tm}(h:up (qD ts) ts.length=true)(i:Nat)(hi:i<ts.length):over ts ts[i].nm=ts[i].ov:=by
 refine zmh ts _ i hi ?_ rfl;unfold yG;rw[List.any_eq_false];intro x hx;obtain⟨k,hk,rfl⟩:=List.mem_iff_getElem.1 hx;have hk':k<i:=by simp at hk;omega
 have h1:=zoK h i hi k hk';simp only[List.getElem_take,decide_eq_true_eq];intro e;unfold less at h1;rw[e,zb2]at h1
 cases h1
theorem zoF {ts:List Tm}(h:up (qD ts) ts.length=true):over ts ByteArray.empty=ByteArray.empty:=by
 apply zhP
 unfold yG;rw[List.any_eq_false];intro x hx;obtain⟨k,hk,rfl⟩:=List.mem_iff_getElem.1 hx;have h1:=zpP hk (zfz hk h);simp only[decide_eq_true_eq];intro e;rw[e,zg3 _ rfl]at h1
 cases h1
theorem zhZ {ts:List Tm}(h:over ts ByteArray.empty=ByteArray.empty):∀n,zeR ts n ByteArray.empty=ByteArray.empty
 | 0=>rfl
 | n+1=>by unfold zeR;rw[h];exact zhZ h n
theorem zj4 {ts:List Tm}(h:over ts ByteArray.empty=ByteArray.empty):∀n a,qA ts n a=zeR ts n a
 | 0,_=>rfl
 | n+1,a=>by
  unfold qA
  by_cases h0:a.size=0
  ·rw[if_pos h0,zdn a h0,zhZ h]
  ·rw[if_neg h0,zj4 h n];rfl
theorem zlo {ts:List Tm}(h:up (qD ts) ts.length=true)(i:Nat)(hi:i<ts.length):zbI ts i=zf8 ts i:=by
 unfold zbI zf8 zd7;rw[getD_at ts i _ hi,zj4 (zoF h),show zeR ts 5 ts[i].nm=zeR ts 4 (over ts ts[i].nm) from rfl,over_self h i hi]
theorem zl4 (ts:List Tm):zbU ts=zaX ts:=by
 unfold zbU zaX
 congr 1
 rw[Bool.eq_iff_iff,Bool.and_eq_true]
 constructor
 ·rintro⟨h1,h2⟩
  rw[zcN];intro i hi;unfold zcc;rw[zfz hi h1,zlo h1 i hi,zfz hi h2];rfl
 ·intro h
  rw[zcN]at h
  have h1:up (qD ts) ts.length=true:=by
   rw[zcN];intro i hi;have:=h i hi;unfold zcc at this;rw[Bool.and_eq_true]at this;exact this.1
  refine⟨h1,?_⟩;rw[zcN];intro i hi;have:=h i hi;unfold zcc at this;rw[Bool.and_eq_true,zlo h1 i hi]at this;exact this.2
end Go.Proofs.YtnapmdofidgliaaGreat
namespace Go.Proofs.YtnapmdofidgliaaGreat
open Go.RowKit
theorem zaj {w:World}{b:Nat}{X:Array Value}{t:TypeId}(h:w.heap[b]?=some (.cells X t)):∀j,w.cell? ⟨b,j,none⟩=X[j]?:=fun _=>cell_of_block h
theorem zop {w:World}{b:Nat}{X:Array Value}{t:TypeId}(h:w.heap[b]?=some (.cells X t)):∀j,w.frozen? ⟨b,j,none⟩=false:=fun _=>zh h
end Go.Proofs.YtnapmdofidgliaaGreat
namespace Go.Proofs.YtnapmdofidgliaaGreat
open Go.ChangeShapes Go.WideShapes Go.ChangeAt Go.RowKit
theorem Tryz.zkh:Tryz.prog.cellsOf 98=2:=by kernel_rfl
theorem Tryz.zmI:Tryz.prog.cellsOf 96=1:=by kernel_rfl
section
variable {H:Type} {enc:TypeId × Value->H} {w:World} {base:Nat} {spare:Nat->Bool} {held:Bool}
theorem znY {fuel:Nat}{cs:List Value}{x:DataW H × List MemPlace}(h:DataW.trod enc Tryz.prog w base spare held fuel 96 cs=some x) :
 ∃a cap fs,cs=[.slice a (List.length fs) cap]/\zY w a fs:=by
 obtain⟨a,len,cap,rfl,hm,hr⟩:=za0 Tryz.underlying96 Tryz.zjT (by omega) h
 rcases Nat.eq_zero_or_pos len with h0|hp
 ·subst h0
  exact⟨a,cap,[],rfl,⟨by simp[maxLen],fun h=>absurd rfl h⟩⟩
 ·obtain⟨b,off,rfl,hb,hrow⟩:=hr hp
  have hf:∀i,i<len->∃f:Fld,∃wa wcap,zeC w b (off+i*11) f wa wcap:=by
   intro i hi;obtain⟨es,n,y,hel,hcell,hy⟩:=hrow i hi;obtain⟨nm,kd,ls,ms,wa,wcap,ws,to,rl,mu,fx,df,wg,rfl,hS,s0,s5,s9,s10⟩:=zoC hy;refine⟨⟨nm,kd,ls,ms,ws,to,rl,mu,fx,df,wg⟩,wa,wcap,⟨s0,s5,s9,s10⟩,hS,fun j hj=>?_⟩;rw[hcell j hj]
   simp[Fld.cells]
  obtain⟨fs,hl,hfs⟩:=zcg len hf;refine⟨_,cap,fs,by rw[hl],⟨by omega,fun _=>⟨b,off,rfl,hb,fun i hi=>hfs i hi⟩⟩⟩
theorem zoo {fuel:Nat}{cs:List Value}{x:DataW H × List MemPlace}(h:DataW.trod enc Tryz.prog w base spare held fuel 98 cs=some x) :
 ∃kd a cap fs,cs=[.string kd,.slice a (List.length fs) cap]/\kd.size<=maxLen/\zY w a fs:=by
 have hlen:cs.length=2:=by
  obtain⟨_,_,_,_,hl,_,_⟩:=DataW.trod_struct Tryz.underlying98 h;rw[hl];exact Tryz.zkh
 match cs,hlen with
 | [c0,c1],_=>
  have hf:=zak Tryz.underlying98 h;obtain⟨_,_,f0⟩:=hf 0 9 0 c0 rfl Tryz.zW rfl;obtain⟨_,_,f1⟩:=hf 1 96 1 c1 rfl Tryz.zmI rfl;obtain⟨kd,e0,_,s0⟩:=DataW.trod_string Tryz.underlying9 f0;obtain⟨a,cap,fs,e1,hF⟩:=znY f1;simp only[List.cons.injEq,and_true]at e0 e1;subst e0 e1;exact⟨kd,a,cap,fs,rfl,s0,hF⟩
theorem znf {fuel:Nat}{cs:List Value}{x:DataW H × List MemPlace}(h:DataW.trod enc Tryz.prog w base spare held fuel 22 cs=some x) :
 ∃a cap ss,cs=[.slice a (List.length ss) cap]/\yU w a ss:=by
 obtain⟨a,len,cap,rfl,hm,hr⟩:=za0 Tryz.underlying22 Tryz.zkh (by omega) h
 rcases Nat.eq_zero_or_pos len with h0|hp
 ·subst h0
  exact⟨a,cap,[],rfl,⟨by simp[maxLen],fun h=>absurd rfl h⟩⟩
 ·obtain⟨b,off,rfl,hb,hrow⟩:=hr hp
  have hf:∀i,i<len->∃s:Shp,∃fa fcap,zlh w b (off+i*2) s fa fcap:=by
   intro i hi;obtain⟨es,n,y,hel,hcell,hy⟩:=hrow i hi;obtain⟨kd,fa,fcap,fs,rfl,s0,hF⟩:=zoo hy;exact⟨⟨kd,fs⟩,fa,fcap,s0,hF,hcell 0 (by omega),hcell 1 (by omega)⟩
  obtain⟨ss,hl,hss⟩:=zcg len hf;exact⟨_,cap,ss,by rw[hl],⟨by omega,fun _=>⟨b,off,rfl,hb,fun i hi=>hss i hi⟩⟩⟩
end
end Go.Proofs.YtnapmdofidgliaaGreat
