import Derived.Test.YtjebacclfjkabaaGreatM05
set_option maxHeartbeats 800000
namespace Go.Proofs.YtjebacclfjkabaaGreat
open Go.RowKit
theorem zi (s:ByteArray)(w:World)(hs:s.size<=maxLen) :
 Calls Tryz.prog 104 #[.string s] w fun e w'=>e=.returned (.bool (zB s))/\w'=w:=by
 unfold maxLen at hs
 by_cases hb:1<=s.size/\s.size<=16
 ·obtain⟨hb1,hb2⟩:=hb
  go_enter Tryz.func104,Tryz.ntmps104
  go_wp2_with (go_at_call 61;refine(zbe _ _ _ _ (by omega) (by omega)).mono ?_;rintro e w'⟨rfl,rfl⟩)
  go_loop [3] (fun i=>∃k:Nat,k<=s.size/\i=.int .i64 k/\(s.data.toList.take k).all zJ=true) (fun i=>s.size-(intOf i).toNat)
  case atStart=>exact⟨0,Nat.zero_le _,rfl,rfl⟩
  case round=>
   obtain⟨k,hk,rfl,hall⟩:=hrel
   by_cases hlt:k<s.size
   ·have HS:Hid ((s.data.toList.take (k+1)).all zJ=(true&&zJ s[k])):=by rw[zaR _ s k hlt,hall];rfl
    have HN:=fun h=>zcc zJ s k hlt h
    have HN':Hid (zJ s[k]=false->y5 s=false):=HN;clear HN hall
    by_cases hc:zJ s[k]=true
    ·go_wp2_with (go_at_call 138;refine(zaa _ _).mono ?_;rintro e w'⟨rfl,rfl⟩)
     go_round
     case rel=>exact⟨k+1,by omega,by go_num,by rw[HS.out,hc];rfl⟩
     case measure=>simp[intOf];omega
    ·have hc':zJ s[k]=false:=by simpa using hc
     clear hc
     go_wp2_with (go_at_call 138;refine(zaa _ _).mono ?_;rintro e w'⟨rfl,rfl⟩)
     go_ret;refine⟨ze ?_,rfl⟩
     simp[zB,HN'.out hc']
   ·have HA:Hid (y5 s=true):=by unfold y5 Hid;rw[<- zaB s k (by omega)];exact hall
    clear hall
    go_wp2
    go_ret;refine⟨ze ?_,rfl⟩;simp only[zB,HA.out];simp;omega
 ·go_enter Tryz.func104,Tryz.ntmps104
  go_wp2_with (go_at_call 61;refine(zdi _ _ _ _ (by omega)).mono ?_;rintro e w'⟨rfl,rfl⟩)
  go_ret;refine⟨ze ?_,rfl⟩
  simp[zB];omega
theorem jZ (s:ByteArray)(w:World)(hs:s.size<=maxLen) :
 Calls Tryz.prog 190 #[.string s] w fun e w'=>e=.returned (.bool (y5 s))/\w'=w:=by
 unfold maxLen at hs;go_enter Tryz.func190,Tryz.ntmps190
 go_wp2
 go_loop [7] (fun i=>∃k:Nat,k<=s.size/\i=.int .i64 k/\(s.data.toList.take k).all zJ=true) (fun i=>s.size-(intOf i).toNat)
 case atStart=>exact⟨0,Nat.zero_le _,rfl,rfl⟩
 case round=>
  obtain⟨k,hk,rfl,hall⟩:=hrel
  by_cases hlt:k<s.size
  ·have HS:Hid ((s.data.toList.take (k+1)).all zJ=(true&&zJ s[k])):=by rw[zaR _ s k hlt,hall];rfl
   have HN:Hid (zJ s[k]=false->y5 s=false):=fun h=>zcc zJ s k hlt h
   clear hall
   by_cases hd:48<=(s[k].toNat:Int)/\(s[k].toNat:Int)<=57
   ·have HC:Hid (zJ s[k]=true):=by simp[zJ,Hid];omega
    obtain⟨hd1,hd2⟩:=hd
    go_wp2_with (go_at_call 208;refine(zh9 _ _ hd1 hd2).mono ?_;rintro e w'⟨rfl,rfl⟩)
    go_round
    case rel=>exact⟨k+1,by omega,by go_num,by rw[HS.out,HC.out];rfl⟩
    case measure=>simp[intOf];omega
   ·have HD:Hid (¬(48<=(s[k].toNat:Int)/\(s[k].toNat:Int)<=57)):=hd
    clear hd
    by_cases h45:(s[k].toNat:Int)=45
    ·have HC:Hid (zJ s[k]=true):=by simp[zJ,Hid];omega
     have h45':((s[k].toNat:Int) != 45)=false:=by simp[h45]
     clear h45
     go_wp2_with (go_at_call 208;refine(zcY _ _ HD.out).mono ?_;rintro e w'⟨rfl,rfl⟩)
     go_round
     case rel=>exact⟨k+1,by omega,by go_num,by rw[HS.out,HC.out];rfl⟩
     case measure=>simp[intOf];omega
    ·have h45':((s[k].toNat:Int) != 45)=true:=by simp[h45]
     by_cases h97:(s[k].toNat:Int)<97
     ·have HC:Hid (zJ s[k]=false):=by have:=HD.out;simp[zJ,Hid];omega
      clear h45
      go_wp2_with (go_at_call 208;refine(zcY _ _ HD.out).mono ?_;rintro e w'⟨rfl,rfl⟩)
      go_ret;exact⟨ze (HN.out HC.out).symm,rfl⟩
     ·by_cases h122:122<(s[k].toNat:Int)
      ·have HC:Hid (zJ s[k]=false):=by have:=HD.out;simp[zJ,Hid];omega
       clear h45
       go_wp2_with (go_at_call 208;refine(zcY _ _ HD.out).mono ?_;rintro e w'⟨rfl,rfl⟩)
       go_ret;exact⟨ze (HN.out HC.out).symm,rfl⟩
      ·have HC:Hid (zJ s[k]=true):=by simp[zJ,Hid];omega
       clear h45
       go_wp2_with (go_at_call 208;refine(zcY _ _ HD.out).mono ?_;rintro e w'⟨rfl,rfl⟩)
       go_round
       case rel=>exact⟨k+1,by omega,by go_num,by rw[HS.out,HC.out];rfl⟩
       case measure=>simp[intOf];omega
  ·have HA:Hid (y5 s=true):=by unfold y5 Hid;rw[<- zaB s k (by omega)];exact hall
   clear hall
   go_wp2
   go_ret;exact⟨ze HA.out.symm,rfl⟩
theorem zF (s:ByteArray)(w:World)(hs:s.size<=maxLen) :
 Calls Tryz.prog 147 #[.string s] w fun e w'=>e=.returned (.bool (zB s))/\w'=w:=by
 have hs':=hs;unfold maxLen at hs'
 by_cases h0:s.size=0
 ·rw[zdz s h0]
  go_enter Tryz.func147,Tryz.ntmps147
  go_wp2
  go_ret;exact⟨rfl,rfl⟩
 ·have hne:s.toList.isEmpty=false:=by rw[zq];simp[h0]
  by_cases h16:s.size<=16
  ·have HF:Hid (zB s=y5 s):=by
    simp only[Hid,zB];rw[decide_eq_true (show 1<=s.size by omega),decide_eq_true h16];simp
   go_enter Tryz.func147,Tryz.ntmps147
   go_wp2_with (go_at_call 190;refine(jZ _ _ hs).mono ?_;rintro e w'⟨rfl,rfl⟩)
   go_ret;exact⟨ze HF.out.symm,rfl⟩
  ·go_enter Tryz.func147,Tryz.ntmps147
   go_wp2_with (go_at_call 190;refine(jZ _ _ hs).mono ?_;rintro e w'⟨rfl,rfl⟩)
   go_ret;refine⟨ze ?_,rfl⟩;simp only[zB];rw[decide_eq_false h16];simp
theorem zi7 {a b:Int}{p q:Bool}(h:a=b)(h2:p=q):Ending.returned (.tuple #[.int .i64 a,.bool p])=.returned (.tuple #[.int .i64 b,.bool q]):=by rw[h,h2]
def zaF (s:ByteArray):Int:=if zao s=true then zgW s else 0
theorem zjA (s:ByteArray)(w:World)(h1:1<=s.size)(h7:s.size<=7)(hz:s.size<=1 \/ ¬(s[0].toNat:Int)=48) :
 Calls Tryz.prog 226 #[.string s] w fun e w'=>e=.returned (.tuple #[.int .i64 (zaF s),.bool (zao s)])/\w'=w:=by
 have HF:Hid (zao s=zbc s):=zlr s h1 h7 hz;have hne:s.toList.isEmpty=false:=by rw[zq];exact decide_eq_false (by omega)
 rcases(show(¬(s[0].toNat:Int)=48) \/ (s.size<=1/\(s[0].toNat:Int)=48) by rcases hz with h|h <;> omega) with hz0|⟨hone,hz0⟩
 all_goals
  clear hz
  first
   | (have hz1:((s[0].toNat:Int) == 48)=true:=by simpa using hz0)
   | (have hz1:((s[0].toNat:Int) == 48)=false:=by simpa using hz0)
  clear hz0;go_enter Tryz.func226,Tryz.ntmps226
  go_wp2
  go_loop [4,25] (fun n i=>∃k:Nat,k<=s.size/\i=.int .i64 k/\(s.data.toList.take k).all digit=true/\n=.int .i64 (dec (s.data.toList.take k))) (fun _ i=>s.size-(intOf i).toNat)
  case atStart=>exact⟨0,Nat.zero_le _,rfl,rfl,rfl⟩
  case round=>
   obtain⟨k,hk,rfl,hall,rfl⟩:=hrel;have hlen:(s.data.toList.take k).length<=k:=List.length_take_le _ _;obtain⟨hd0,hd1⟩:=zft _ hall k hlen
   by_cases hlt:k<s.size
   ·have hp:=zln k (by omega)
    have hd2:dec (s.data.toList.take k)<10000000:=by omega
    clear hp hd1 hlen;have HS:Hid ((s.data.toList.take (k+1)).all digit=(true&&digit s[k])):=by rw[zaR _ s k hlt,hall];rfl
    have HD:Hid (dec (s.data.toList.take (k+1))=dec (s.data.toList.take k)*10+((s[k].toNat:Int)-48)):=by rw[zhA s k hlt];exact zmF _ _
    have HN:Hid (digit s[k]=false->zbc s=false):=fun h=>zcc digit s k hlt h
    clear hall
    by_cases hd:48<=(s[k].toNat:Int)/\(s[k].toNat:Int)<=57
    ·have HC:Hid (digit s[k]=true):=by simp[digit,Hid];omega
     obtain⟨h48,h57⟩:=hd
     go_wp2_with (go_at_call 208;refine(zh9 _ _ h48 h57).mono ?_;rintro e w'⟨rfl,rfl⟩)
     go_round
     case rel=>exact⟨k+1,by omega,by go_num,by rw[HS.out,HC.out];rfl,by rw[HD.out]⟩
     case measure=>simp[intOf];omega
    ·have HC:Hid (digit s[k]=false):=by simp[digit,Hid];omega
     have HDD:Hid (¬(48<=(s[k].toNat:Int)/\(s[k].toNat:Int)<=57)):=hd;clear hd
     go_wp2_with (go_at_call 208;refine(zcY _ _ HDD.out).mono ?_;rintro e w'⟨rfl,rfl⟩)
     go_ret2
     exact⟨zi7 (by unfold zaF;rw[HF.out,HN.out HC.out];rfl) (by rw[HF.out,HN.out HC.out]),rfl⟩
   ·have HA:Hid (zbc s=true):=by unfold zbc Hid;rw[<- zaB s k (by omega)];exact hall
    have HB:Hid (dec (s.data.toList.take k)=zgW s):=by rw[zaB s k (by omega)];rfl
    clear hall hd0 hd1 hlen
    go_wp2
    go_ret2
    exact⟨zi7 (by unfold zaF;rw[HF.out,HA.out,HB.out];rfl) (by rw[HF.out,HA.out]),rfl⟩
theorem zdv (s:ByteArray)(w:World)(hs:s.size<=maxLen) :
 Calls Tryz.prog 226 #[.string s] w fun e w'=>e=.returned (.tuple #[.int .i64 (zaF s),.bool (zao s)])/\w'=w:=by
 unfold maxLen at hs
 by_cases h0:s.size=0
 ·rw[zdz s h0]
  go_enter Tryz.func226,Tryz.ntmps226
  go_wp2
  go_ret2
  exact⟨rfl,rfl⟩
 have hne:s.toList.isEmpty=false:=by rw[zq];simp[h0]
 by_cases h7:s.size<=7
 ·by_cases hz:1<s.size/\(s[0].toNat:Int)=48
  ·obtain⟨hm,hz0⟩:=hz
   have HF:Hid (zao s=false):=zfG s hm hz0;have hz1:((s[0].toNat:Int) == 48)=true:=by simpa using hz0
   clear hz0;go_enter Tryz.func226,Tryz.ntmps226
   go_wp2
   go_ret2
   exact⟨zi7 (by unfold zaF;rw[HF.out];rfl) HF.out.symm,rfl⟩
  ·exact zjA s w (by omega) h7 (by omega)
 ·have HF:Hid (zao s=false):=zel s (by omega)
  go_enter Tryz.func226,Tryz.ntmps226
  go_wp2
  go_ret2
  exact⟨zi7 (by unfold zaF;rw[HF.out];rfl) HF.out.symm,rfl⟩
def zqF (ss:List Shp)(v:ByteArray)(e:Ending):Prop:=
 (zG ss v=false->e=.returned (.int .i64 (-1)))/\(zG ss v=true->∃k,∃h:k<ss.length,e=.returned (.int .i64 (k:Nat))/\shapeOf ss v=ss[k])
theorem zia (a:Option Addr)(cap:Nat)(ss:List Shp)(v:ByteArray)(w:World)(hw:yV w a ss) :
 Calls Tryz.prog 110 #[.slice a ss.length cap,.string v] w fun e w'=>zqF ss v e/\w'=w:=by
 have hl:=hw.len;unfold maxLen at hl;go_enter Tryz.func110,Tryz.ntmps110
 go_wp2
 go_loop [5] (fun i=>∃k:Nat,k<=ss.length/\i=.int .i64 k/\zG (ss.take k) v=false) (fun i=>ss.length-(intOf i).toNat)
 case atStart=>exact⟨0,Nat.zero_le _,rfl,rfl⟩
 case round=>
  obtain⟨k,hk,rfl,hno⟩:=hrel
  by_cases hlt:k<ss.length
  ·obtain⟨b,off,rfl,hb,hr⟩:=hw.rows (by rintro rfl;simp at hlt)
   obtain⟨fa,fcap,hs⟩:=hr k hlt;have hck:=hs.kind;clear hw hr hs
   by_cases he:ss[k].kd=v
   ·have hbe:(ss[k].kd.toList == v.toList)=true:=by rw[beq_toList];simpa using he
    have HA:Hid (zG ss v=true):=zfY ss v k hlt he;have HB:Hid (shapeOf ss v=ss[k]):=zee ss v k hlt hno he;clear he hno
    go_wp2
    go_ret;exact⟨⟨fun h=>(by rw[HA.out]at h;cases h),fun _=>⟨k,hlt,rfl,HB.out⟩⟩,rfl⟩
   ·have hbe:(ss[k].kd.toList == v.toList)=false:=by rw[beq_toList];simpa using he
    have HS:Hid (zG (ss.take (k+1)) v=false):=by unfold Hid;rw[zdX ss v k hlt,hno,decide_eq_false he];rfl
    clear he hno
    go_wp2
    go_round
    case rel=>exact⟨k+1,by omega,by go_num,HS.out⟩
    case measure=>simp[intOf];omega
  ·have HA:Hid (zG ss v=false):=by rw[<- ze1 ss v k (by omega)];exact hno
   clear hno hw
   go_wp2
   go_ret;exact⟨⟨fun _=>rfl,fun h=>by rw[HA.out]at h;cases h⟩,rfl⟩
theorem zd0 (a:Option Addr)(cap:Nat)(ss:List Shp)(v:ByteArray)(w:World)(hw:yV w a ss)(h:zG ss v=false) :
 Calls Tryz.prog 110 #[.slice a ss.length cap,.string v] w fun e w'=>e=.returned (.int .i64 (-1))/\w'=w:=by
 refine(zia a cap ss v w hw).mono ?_;rintro e w'⟨⟨h1,_⟩,rfl⟩;exact⟨h1 h,rfl⟩
theorem jH (a:Option Addr)(cap:Nat)(ss:List Shp)(v:ByteArray)(w:World)(hw:yV w a ss)(h:zG ss v=true) :
 Calls Tryz.prog 110 #[.slice a ss.length cap,.string v] w fun e w'=>∃k,∃h:k<ss.length,e=.returned (.int .i64 (k:Nat))/\shapeOf ss v=ss[k]/\w'=w:=by
 refine(zia a cap ss v w hw).mono ?_;rintro e w'⟨⟨_,h2⟩,rfl⟩;obtain⟨k,hk,he,hs⟩:=h2 h;exact⟨k,hk,he,hs,rfl⟩
end Go.Proofs.YtjebacclfjkabaaGreat
namespace Go.Proofs.YtjebacclfjkabaaGreat
structure Ob where
 kd:ByteArray
 nm:ByteArray
 tm:ByteArray
 vs:List ByteArray
 en:Bool
 hs:List ByteArray
 vr:Int
structure Ob.Small (o:Ob):Prop where
 kd:o.kd.size<=maxLen
 nm:o.nm.size<=maxLen
 tm:o.tm.size<=maxLen
def zaG (f:Fld)(v:ByteArray):Int:=if v.size=0 then (if f.mu then 2 else 0) else if ze5 f v then 0 else 3
def zgk (fs:List Fld)(vs:List ByteArray)(i:Nat):Int:=zaG (fs.getD i zbS) (vs.getD i ByteArray.empty)
def zbn (fs:List Fld)(vs:List ByteArray)(i:Nat):Bool:=decide (zgk fs vs i=0)
def jT (fs:List Fld)(vs:List ByteArray):Int × Int:=match (List.range fs.length).find? (fun i=>!zbn fs vs i) with|some i=>(zgk fs vs i,i)|none=>(0,0)
theorem find_range {P:Nat->Bool}{n k:Nat}(hk:k<n)(hu:up P k=true)(hp:P k=false):(List.range n).find? (fun i=>!P i)=some k:=by
 rw[List.find?_eq_some_iff_getElem];refine⟨by simp[hp],k,by simpa using hk,by simp,fun j hj=>?_⟩
 have:=zfI hj hu
 simp[this]
theorem ziE {P:Nat->Bool}{n:Nat}(hu:up P n=true):(List.range n).find? (fun i=>!P i)=none:=by
 rw[List.find?_eq_none];intro x hx
 have:=zfI (List.mem_range.1 hx) hu
 simp[this]
theorem zk7 {fs:List Fld}{vs:List ByteArray}{k:Nat}(hk:k<fs.length)(hu:up (zbn fs vs) k=true)(hp:zbn fs vs k=false):jT fs vs=(zgk fs vs k,(k:Int)):=by
 unfold jT;rw[find_range hk hu hp]
theorem zie {fs:List Fld}{vs:List ByteArray}(hu:up (zbn fs vs) fs.length=true):jT fs vs=(0,0):=by
 unfold jT;rw[ziE hu]
theorem zjx {fs:List Fld}{vs:List ByteArray}{k:Nat}(h1:k<fs.length)(h2:k<vs.length):zgk fs vs k=zaG fs[k] vs[k]:=by
 unfold zgk;rw[getD_at fs k _ h1,getD_at vs k _ h2]
def qH (o:Ob):Bool:=zB o.nm&&zB o.tm
def qW (o:Ob):Bool:=decide (o.hs.length<=3)&&asc o.hs
def qA (o:Ob):Bool:=decide (0<=o.vr)&&decide (o.vr<=1000000)
def zy (ss:List Shp)(o:Ob):Bool:=zG ss o.kd&&decide (o.vs.length=(shapeOf ss o.kd).fs.length)
def whole (ss:List Shp)(o:Ob):Bool:=qH o&&qW o&&qA o&&zy ss o
def yH (ss:List Shp)(o:Ob):Int × Int:=if whole ss o=true then jT (shapeOf ss o.kd).fs o.vs else (1,0)
end Go.Proofs.YtjebacclfjkabaaGreat
namespace Go.Proofs.YtjebacclfjkabaaGreat
open Go.RowKit
theorem yg {w:World}{p:Addr}{v:Value}{b o:Nat}(h:b≠p.block):(w.setCell p v).cell? ⟨b,o,none⟩=w.cell? ⟨b,o,none⟩:=by
 unfold World.cell?;rw[Below.heap_setCell _ _ _ _ h]
theorem zhm {w:World}{b g o:Nat}(h:b≠g){v0 v1 v2 v3 v4 v5 v6:Value}:(((((((w.setCell ⟨g,0,none⟩ v0).setCell ⟨g,1,none⟩ v1).setCell ⟨g,2,none⟩ v2).setCell ⟨g,3,none⟩ v3).setCell ⟨g,4,none⟩ v4).setCell ⟨g,5,none⟩ v5).setCell ⟨g,6,none⟩ v6).cell? ⟨b,o,none⟩=w.cell? ⟨b,o,none⟩:=by
 rw[yg h,yg h,yg h,yg h,yg h,yg h,yg h]
end Go.Proofs.YtjebacclfjkabaaGreat
namespace Go.Proofs.YtjebacclfjkabaaGreat
structure Tm where
 nm:ByteArray
 ov:ByteArray
def zbw:Tm:=⟨ByteArray.empty,ByteArray.empty⟩
def yG (ts:List Tm)(v:ByteArray):Bool:=ts.any fun t=>decide (t.nm=v)
def over (ts:List Tm)(v:ByteArray):ByteArray:=((ts.find? fun t=>decide (t.nm=v)).getD zbw).ov
theorem zek (ts:List Tm)(v:ByteArray)(k:Nat)(h:k<ts.length):yG (ts.take (k+1)) v=(yG (ts.take k) v||decide (ts[k].nm=v)):=by
 unfold yG;rw[tSe h,List.any_append];simp
theorem zoT (ts:List Tm)(v:ByteArray)(k:Nat)(h:k<ts.length)(e:ts[k].nm=v):yG ts v=true:=by
 unfold yG;rw[List.any_eq_true];exact⟨ts[k],List.getElem_mem h,by simpa using e⟩
theorem zfh (ts:List Tm)(v:ByteArray)(k:Nat)(h:ts.length<=k):yG (ts.take k) v=yG ts v:=by rw[tOl h]
theorem zmo (ts:List Tm)(v:ByteArray)(k:Nat)(h:k<ts.length)(hb:yG (ts.take k) v=false)(e:ts[k].nm=v):over ts v=ts[k].ov:=by
 unfold over
 have hn:(ts.take k).find? (fun s=>decide (s.nm=v))=none:=by
  rw[List.find?_eq_none];intro x hx;unfold yG at hb;rw[List.any_eq_false]at hb;exact hb x hx
 have hf:ts.find? (fun s=>decide (s.nm=v))=some ts[k]:=by
  conv=>lhs;rw[<- List.take_append_drop k ts]
  rw[List.find?_append,hn,List.drop_eq_getElem_cons h,List.find?_cons_of_pos (by simpa using e)];rfl
 rw[hf];rfl
theorem zhq (ts:List Tm)(v:ByteArray)(hb:yG ts v=false):over ts v=ByteArray.empty:=by
 unfold over
 have hn:ts.find? (fun s=>decide (s.nm=v))=none:=by
  rw[List.find?_eq_none];intro x hx;unfold yG at hb;rw[List.any_eq_false]at hb;exact hb x hx
 rw[hn];rfl
def under (ts:List Tm):Nat->ByteArray->ByteArray->Bool
 | 0,a,b=>decide (a=b)
 | n+1,a,b=>decide (a=b)||(decide (¬(over ts a).size=0)&&under ts n (over ts a) b)
theorem zej (ts:List Tm)(n:Nat)(a b:ByteArray)(h:a=b):under ts n a b=true:=by
 cases n <;> simp[under,h]
theorem zlm (ts:List Tm){a b:ByteArray}(h:¬a=b):under ts 0 a b=false:=by simp[under,h]
theorem zjD (ts:List Tm)(n:Nat){a b:ByteArray}(h:¬a=b)(h0:(over ts a).size=0):under ts (n+1) a b=false:=by simp[under,h,h0]
theorem znB (ts:List Tm)(n:Nat){a b:ByteArray}(h:¬a=b)(h0:¬(over ts a).size=0):under ts (n+1) a b=under ts n (over ts a) b:=by simp[under,h,h0]
def qD (ts:List Tm)(i:Nat):Bool:=
 zB (ts.getD i zbw).nm&&(decide (i=0)||less (ts.getD (i-1) zbw).nm (ts.getD i zbw).nm)&&((ts.getD i zbw).ov.toList.isEmpty||yG ts (ts.getD i zbw).ov)
def zeP (ts:List Tm):Nat->ByteArray->ByteArray
 | 0,a=>a
 | n+1,a=>zeP ts n (over ts a)
def qz (ts:List Tm):Nat->ByteArray->ByteArray
 | 0,a=>a
 | n+1,a=>if a.size=0 then a else qz ts n (over ts a)
def zd6 (ts:List Tm)(t:Tm):Bool:=decide ((zeP ts 4 t.ov).size=0)
def zfU (ts:List Tm)(i:Nat):Bool:=zd6 ts (ts.getD i zbw)
def zbI (ts:List Tm)(i:Nat):Bool:=decide ((qz ts 5 (ts.getD i zbw).nm).size=0)
def zbY (ts:List Tm):Bool:=decide (ts.length<=12)&&(up (qD ts) ts.length&&up (zfU ts) ts.length)
def zcf (ts:List Tm)(i:Nat):Bool:=qD ts i&&zbI ts i
def zaN (ts:List Tm):Bool:=decide (ts.length<=12)&&up (zcf ts) ts.length
theorem zc3 {P:Nat->Bool}{n:Nat}:up P n=true↔∀i,i<n->P i=true:=by
 unfold up;rw[List.all_eq_true];simp
theorem zpT {ts:List Tm}{i:Nat}(hi:i<ts.length)(h:qD ts i=true):zB ts[i].nm=true:=by
 unfold qD at h;rw[getD_at ts i _ hi]at h;simp only[Bool.and_eq_true]at h;exact h.1.1
theorem zp0 {ts:List Tm}{i:Nat}(hi:i+1<ts.length)(h:qD ts (i+1)=true):less ts[i].nm ts[i+1].nm=true:=by
 unfold qD at h;rw[getD_at ts (i+1) _ hi,Nat.add_sub_cancel,getD_at ts i _ (by omega)]at h;simp only[Bool.and_eq_true]at h
 simpa using h.1.2
theorem zn9 {ts:List Tm}(h:up (qD ts) ts.length=true):∀(j:Nat) (hj:j<ts.length) (i:Nat) (hi:i<j),less (ts[i]'(by omega)).nm ts[j].nm=true:=by
 intro j
 induction j with
 | zero=>intro _ i hi;omega
 | succ j ih=>
  intro hj i hi;have h2:=zp0 hj (zfI hj h)
  rcases Nat.lt_or_ge i j with hlt|hge
  ·exact zbm _ _ _ (ih (by omega) i hlt) h2
  ·have e:i=j:=by omega
   subst e;exact h2
theorem over_self {ts:List Tm}(h:up (qD ts) ts.length=true)(i:Nat)(hi:i<ts.length):over ts ts[i].nm=ts[i].ov:=by
 refine zmo ts _ i hi ?_ rfl;unfold yG;rw[List.any_eq_false];intro x hx;obtain⟨k,hk,rfl⟩:=List.mem_iff_getElem.1 hx;have hk':k<i:=by simp at hk;omega
 have h1:=zn9 h i hi k hk';simp only[List.getElem_take,decide_eq_true_eq];intro e;unfold less at h1;rw[e,zca]at h1
 cases h1
theorem zoD {ts:List Tm}(h:up (qD ts) ts.length=true):over ts ByteArray.empty=ByteArray.empty:=by
 apply zhq
 unfold yG;rw[List.any_eq_false];intro x hx;obtain⟨k,hk,rfl⟩:=List.mem_iff_getElem.1 hx;have h1:=zpT hk (zfI hk h);simp only[decide_eq_true_eq];intro e;rw[e,zgy _ rfl]at h1
 cases h1
theorem zif {ts:List Tm}(h:over ts ByteArray.empty=ByteArray.empty):∀n,zeP ts n ByteArray.empty=ByteArray.empty
 | 0=>rfl
 | n+1=>by unfold zeP;rw[h];exact zif h n
theorem zjG {ts:List Tm}(h:over ts ByteArray.empty=ByteArray.empty):∀n a,qz ts n a=zeP ts n a
 | 0,_=>rfl
 | n+1,a=>by
  unfold qz
  by_cases h0:a.size=0
  ·rw[if_pos h0,zdz a h0,zif h]
  ·rw[if_neg h0,zjG h n];rfl
theorem zlh {ts:List Tm}(h:up (qD ts) ts.length=true)(i:Nat)(hi:i<ts.length):zbI ts i=zfU ts i:=by
 unfold zbI zfU zd6;rw[getD_at ts i _ hi,zjG (zoD h),show zeP ts 5 ts[i].nm=zeP ts 4 (over ts ts[i].nm) from rfl,over_self h i hi]
theorem zl1 (ts:List Tm):zbY ts=zaN ts:=by
 unfold zbY zaN
 congr 1
 rw[Bool.eq_iff_iff,Bool.and_eq_true]
 constructor
 ·rintro⟨h1,h2⟩
  rw[zc3];intro i hi;unfold zcf;rw[zfI hi h1,zlh h1 i hi,zfI hi h2];rfl
 ·intro h
  rw[zc3]at h
  have h1:up (qD ts) ts.length=true:=by
   rw[zc3];intro i hi;have:=h i hi;unfold zcf at this;rw[Bool.and_eq_true]at this;exact this.1
  refine⟨h1,?_⟩;rw[zc3];intro i hi;have:=h i hi;unfold zcf at this;rw[Bool.and_eq_true,zlh h1 i hi]at this;exact this.2
end Go.Proofs.YtjebacclfjkabaaGreat
namespace Go.Proofs.YtjebacclfjkabaaGreat
open Go.RowKit
theorem zan {w:World}{b:Nat}{X:Array Value}{t:TypeId}(h:w.heap[b]?=some (.cells X t)):∀j,w.cell? ⟨b,j,none⟩=X[j]?:=fun _=>cell_of_block h
theorem zoS {w:World}{b:Nat}{X:Array Value}{t:TypeId}(h:w.heap[b]?=some (.cells X t)):∀j,w.frozen? ⟨b,j,none⟩=false:=fun _=>zh h
end Go.Proofs.YtjebacclfjkabaaGreat
namespace Go.Proofs.YtjebacclfjkabaaGreat
open Go.ChangeShapes Go.WideShapes Go.ChangeAt Go.RowKit
theorem Tryz.zjP:Tryz.prog.cellsOf 98=2:=by kernel_rfl
theorem Tryz.znv:Tryz.prog.cellsOf 96=1:=by kernel_rfl
section
variable {H:Type} {enc:TypeId × Value->H} {w:World} {base:Nat} {spare:Nat->Bool} {held:Bool}
theorem zn6 {fuel:Nat}{cs:List Value}{x:DataW H × List MemPlace}(h:DataW.trod enc Tryz.prog w base spare held fuel 96 cs=some x) :
 ∃a cap fs,cs=[.slice a (List.length fs) cap]/\zY w a fs:=by
 obtain⟨a,len,cap,rfl,hm,hr⟩:=za0 Tryz.underlying96 Tryz.zjQ (by omega) h
 rcases Nat.eq_zero_or_pos len with h0|hp
 ·subst h0
  exact⟨a,cap,[],rfl,⟨by simp[maxLen],fun h=>absurd rfl h⟩⟩
 ·obtain⟨b,off,rfl,hb,hrow⟩:=hr hp
  have hf:∀i,i<len->∃f:Fld,∃wa wcap,zeI w b (off+i*11) f wa wcap:=by
   intro i hi;obtain⟨es,n,y,hel,hcell,hy⟩:=hrow i hi;obtain⟨nm,kd,ls,ms,wa,wcap,ws,to,rl,mu,fx,df,wg,rfl,hS,s0,s5,s9,s10⟩:=zo6 hy;refine⟨⟨nm,kd,ls,ms,ws,to,rl,mu,fx,df,wg⟩,wa,wcap,⟨s0,s5,s9,s10⟩,hS,fun j hj=>?_⟩;rw[hcell j hj]
   simp[Fld.cells]
  obtain⟨fs,hl,hfs⟩:=zcd len hf;refine⟨_,cap,fs,by rw[hl],⟨by omega,fun _=>⟨b,off,rfl,hb,fun i hi=>hfs i hi⟩⟩⟩
theorem zoE {fuel:Nat}{cs:List Value}{x:DataW H × List MemPlace}(h:DataW.trod enc Tryz.prog w base spare held fuel 98 cs=some x) :
 ∃kd a cap fs,cs=[.string kd,.slice a (List.length fs) cap]/\kd.size<=maxLen/\zY w a fs:=by
 have hlen:cs.length=2:=by
  obtain⟨_,_,_,_,hl,_,_⟩:=DataW.trod_struct Tryz.underlying98 h;rw[hl];exact Tryz.zjP
 match cs,hlen with
 | [c0,c1],_=>
  have hf:=zaj Tryz.underlying98 h;obtain⟨_,_,f0⟩:=hf 0 9 0 c0 rfl Tryz.zW rfl;obtain⟨_,_,f1⟩:=hf 1 96 1 c1 rfl Tryz.znv rfl;obtain⟨kd,e0,_,s0⟩:=DataW.trod_string Tryz.underlying9 f0;obtain⟨a,cap,fs,e1,hF⟩:=zn6 f1;simp only[List.cons.injEq,and_true]at e0 e1;subst e0 e1;exact⟨kd,a,cap,fs,rfl,s0,hF⟩
theorem zng {fuel:Nat}{cs:List Value}{x:DataW H × List MemPlace}(h:DataW.trod enc Tryz.prog w base spare held fuel 22 cs=some x) :
 ∃a cap ss,cs=[.slice a (List.length ss) cap]/\yV w a ss:=by
 obtain⟨a,len,cap,rfl,hm,hr⟩:=za0 Tryz.underlying22 Tryz.zjP (by omega) h
 rcases Nat.eq_zero_or_pos len with h0|hp
 ·subst h0
  exact⟨a,cap,[],rfl,⟨by simp[maxLen],fun h=>absurd rfl h⟩⟩
 ·obtain⟨b,off,rfl,hb,hrow⟩:=hr hp
  have hf:∀i,i<len->∃s:Shp,∃fa fcap,zlk w b (off+i*2) s fa fcap:=by
   intro i hi;obtain⟨es,n,y,hel,hcell,hy⟩:=hrow i hi;obtain⟨kd,fa,fcap,fs,rfl,s0,hF⟩:=zoE hy;exact⟨⟨kd,fs⟩,fa,fcap,s0,hF,hcell 0 (by omega),hcell 1 (by omega)⟩
  obtain⟨ss,hl,hss⟩:=zcd len hf;exact⟨_,cap,ss,by rw[hl],⟨by omega,fun _=>⟨b,off,rfl,hb,fun i hi=>hss i hi⟩⟩⟩
end
end Go.Proofs.YtjebacclfjkabaaGreat
