import Derived.Test.YtaickbhifenbjaaGreatM27
import Derived.Test.YtaickbhifenbjaaGreatM21
import Derived.WalkMore
import Derived.Deep.RegionHeld3
set_option maxHeartbeats 4000000
namespace Go.Proofs.YtaickbhifenbjaaGreat.Gate
theorem zoC (ws:List ByteArray) (v:ByteArray):has ws v=true ↔ v ∈ ws:=by
 unfold has
 rw [List.any_eq_true]
 constructor
 ·rintro ⟨x,hx,he⟩
  have:x=v:=by simpa using he
  rw [<- this];exact hx
 ·intro h;exact ⟨v,h,by simp⟩
theorem zkL {ss:List Shp} (h:yt ss=true) (i:Nat) (hi:i < ss.length) (j:Nat) (hj:j < ss[i].fs.length):zdD ss ss[i].fs j=true:=by
 have h1:=zgv h i hi
 unfold yX at h1
 rw [getD_at ss i _ hi] at h1
 simp only [Bool.and_eq_true] at h1
 have h2:=h1.2
 unfold yY at h2
 simp only [Bool.and_eq_true] at h2
 exact zfF hj h2.2
theorem zlz {ss:List Shp} (h:yt ss=true) (i:Nat) (hi:i < ss.length) (j:Nat) (hj:j < ss[i].fs.length):isSet ss[i].fs[j].nm=true:=by
 have h1:=zkL h i hi j hj
 rw [zhD _ _ _ hj] at h1
 simp only [Bool.and_eq_true] at h1
 have h2:=h1.1.1
 rw [znz]
 intro e
 rw [e] at h2
 revert h2
 decide
theorem zef {ss:List Shp} (h:yt ss=true) (i:Nat) (hi:i < ss.length) (j k:Nat) (hj:j < k) (hk:k < ss[i].fs.length):(ss[i].fs[j]'(by omega)).nm ≠ ss[i].fs[k].nm:=by
 have h1:=zkL h i hi k hk
 rw [zhD _ _ _ hk] at h1
 simp only [Bool.and_eq_true,Bool.not_eq_true'] at h1
 have h2:=h1.1.2
 intro e
 unfold hasName at h2
 rw [List.any_eq_false] at h2
 have hm:ss[i].fs[j]'(by omega) ∈ ss[i].fs.take k:=by
  rw [List.mem_iff_getElem]
  exact ⟨j,by simp;omega,by simp⟩
 exact h2 _ hm (by simpa using e)
theorem zoc {ss:List Shp} (h:yt ss=true) (i:Nat) (hi:i < ss.length) (j k:Nat) (hj:j < ss[i].fs.length) (hk:k < ss[i].fs.length) (e:zaR ss[i] j=zaR ss[i] k):j=k:=by
 unfold zaR at e
 rw [getD_at _ _ _ hj,getD_at _ _ _ hk] at e
 rcases Nat.lt_trichotomy j k with h1 | h1 | h1
 ·exact absurd e (zef h i hi j k h1 hk)
 ·exact h1
 ·exact absurd e.symm (zef h i hi k j h1 hj)
theorem znu {ss:List Shp} (h:yt ss=true) (m:Mnd):jI ss m=zav ss m:=by
 unfold jI zav
 by_cases hk:zH ss m.kd=true
 ·rw [hk,Bool.true_and,Bool.true_and]
  unfold zH at hk
  rw [List.any_eq_true] at hk
  obtain ⟨x,hx,he⟩:=hk
  obtain ⟨i,hi,rfl⟩:=List.mem_iff_getElem.1 hx
  have hkd:ss[i].kd=m.kd:=by simpa using he
  rw [<- hkd,zdj h i hi]
  unfold zaL yB
  by_cases hp:plain ss[i].fs m.fd=true
  ·have hfd:isSet m.fd=true:=by
    rcases jl ss[i].fs m.fd with ⟨_,h2⟩ | ⟨k,hk',_,h2,_⟩
    ·rw [zah h2] at hp;cases hp
    ·rw [<- h2];exact zlz h i hi k hk'
   have hne:∀ v,isSet v=false->v ≠ m.fd:=fun v hv e=>by rw [e,hfd] at hv;cases hv
   rw [hp,Bool.true_and,Bool.true_and]
   have e:(zK m).all (jG ss[i].fs m)=((!isSet m.wh || plain ss[i].fs m.wh) && (!isSet m.fr || plain ss[i].fs m.fr) && !decide (m.wh=m.fd) && !decide (m.fr=m.fd)):=by
    unfold zK
    rw [List.all_filter]
    unfold jG
    rcases hw:isSet m.wh with _ | _ <;> rcases hf:isSet m.fr with _ | _
    ·simp [hw,hf,hne _ hw,hne _ hf]
    ·simp [hw,hf,hne _ hw]
     cases plain ss[i].fs m.fr <;> simp
    ·simp [hw,hf,hne _ hf]
     cases plain ss[i].fs m.wh <;> simp
    ·simp [hw,hf]
     cases plain ss[i].fs m.wh <;> cases plain ss[i].fs m.fr <;> simp
   rw [e]
  ·have hpf:plain ss[i].fs m.fd=false:=by simpa using hp
   rw [hpf];simp
 ·have hkf:zH ss m.kd=false:=by simpa using hk
  rw [hkf];rfl
theorem zmV {ss:List Shp} {ms:List Mnd} (h:yt ss=true) (hm:ms.all (jI ss)=true) (i:Nat) (hi:i < ss.length) (row:List Nat) (hrow:∀ q ∈ row,q < ss[i].fs.length) (j:Nat) (hj:j < ss[i].fs.length) :
 jo ss[i] ms (row.map (zaR ss[i])) j=ready (zk ss[i] ms) row j:=by
 have hmem:∀ q,q < ss[i].fs.length->(has (row.map (zaR ss[i])) (zaR ss[i] q)=true ↔ q ∈ row):=by
  intro q hq
  rw [zoC,List.mem_map]
  constructor
  ·rintro ⟨p,hp,e⟩
   rw [<- zoc h i hi p q (hrow p hp) hq e];exact hp
  ·intro hp;exact ⟨q,hp,rfl⟩
 rw [Bool.eq_iff_iff,zgq]
 unfold jo
 rw [Bool.and_eq_true,Bool.not_eq_true',<- Bool.not_eq_true,hmem j hj]
 refine and_congr Iff.rfl ?_
 unfold zbX
 rw [List.all_eq_true]
 -- what a mend that turns j reads
 have hread:∀ m ∈ ms,turns m ss[i] j=true->∀ v ∈ zK m,∃ q,q < ss[i].fs.length/\zP ss[i].fs v=(q:Int)/\zaR ss[i] q=v:=by
  intro m hmm ht v hv
  unfold turns at ht
  simp only [Bool.and_eq_true,decide_eq_true_eq] at ht
  have h1:=List.all_eq_true.1 hm m hmm
  unfold jI at h1
  rw [ht.1,zdj h i hi] at h1
  simp only [Bool.and_eq_true] at h1
  have h2:=h1.2
  unfold zaL at h2
  simp only [Bool.and_eq_true] at h2
  have h3:=List.all_eq_true.1 h2.1.2 v hv
  unfold jG at h3
  simp only [Bool.and_eq_true] at h3
  rcases jl ss[i].fs v with ⟨_,h5⟩ | ⟨k,hk,h4,h5,_⟩
  ·rw [zah h5] at h3;exact absurd h3.2 (by simp)
  ·exact ⟨k,hk,h4,by unfold zaR;rw [getD_at _ _ _ hk];exact h5⟩
 have hR:∀ m,qC ss[i].kd (zaR ss[i] j) (row.map (zaR ss[i])) m=true ↔ (turns m ss[i] j=true->∀ v ∈ zK m,has (row.map (zaR ss[i])) v=true):=by
  intro m
  have e1:turns m ss[i] j=(decide (m.kd=ss[i].kd) && decide (m.fd=zaR ss[i] j)):=rfl
  unfold qC
  rw [<- e1]
  rcases turns m ss[i] j with _ | _
  ·simp
  ·unfold zK
   rcases hw:isSet m.wh with _ | _ <;> rcases hf:isSet m.fr with _ | _ <;> simp [hw,hf]
 constructor
 ·intro hall q hq
  unfold zk at hq
  obtain ⟨x,hx,rfl⟩:=List.mem_map.1 hq
  unfold zT at hx
  obtain ⟨m,hmm,hx⟩:=List.mem_flatMap.1 hx
  by_cases ht:turns m ss[i] j=true
  ·rw [if_pos ht] at hx
   obtain ⟨v,hv,rfl⟩:=List.mem_map.1 hx
   obtain ⟨q,hq,e1,e2⟩:=hread m hmm ht v hv
   have:=(hR m).1 (hall m hmm) ht v hv
   rw [e1,Int.toNat_natCast]
   rw [<- e2] at this
   exact (hmem q hq).1 this
  ·rw [if_neg ht] at hx;cases hx
 ·intro hall m hmm
  rw [hR]
  intro ht v hv
  obtain ⟨q,hq,e1,e2⟩:=hread m hmm ht v hv
  rw [<- e2,hmem q hq]
  refine hall q ?_
  unfold zk
  rw [List.mem_map]
  refine ⟨(q:Int),?_,Int.toNat_natCast _⟩
  unfold zT
  rw [List.mem_flatMap]
  refine ⟨m,hmm,?_⟩
  rw [if_pos ht,List.mem_map]
  exact ⟨v,hv,e1⟩
theorem find_congr {α:Type} {f g:α->Bool}:∀ {l:List α},(∀ x ∈ l,f x=g x)->l.find? f=l.find? g
 | [],_=>rfl
 | a :: l,h=>by
  have h1:=h a (by simp)
  have h2:=find_congr (f:=f) (g:=g) (l:=l) (fun x hx=>h x (by simp [hx]))
  rw [List.find?_cons,List.find?_cons,h1,h2]
theorem zdC {ss:List Shp} {ms:List Mnd} (h:yt ss=true) (hm:ms.all (jI ss)=true) (i:Nat) (hi:i < ss.length):∀ k,zS ss[i] ms k=(greedy (zk ss[i] ms) ss[i].fs.length k).map (zaR ss[i])
 | 0=>rfl
 | k+1=>by
  show zdW ss[i] ms (zS ss[i] ms k)=(more (zk ss[i] ms) ss[i].fs.length (greedy (zk ss[i] ms) ss[i].fs.length k)).map (zaR ss[i])
  rw [zdC h hm i hi k]
  have hpart:=zbT (zk ss[i] ms) ss[i].fs.length k
  have e:(List.range ss[i].fs.length).find? (jo ss[i] ms ((greedy (zk ss[i] ms) ss[i].fs.length k).map (zaR ss[i])))=pick (zk ss[i] ms) ss[i].fs.length (greedy (zk ss[i] ms) ss[i].fs.length k):=by
   unfold pick
   apply find_congr
   intro x hx
   exact zmV h hm i hi _ hpart.mem x (List.mem_range.1 hx)
  unfold zdW more
  rw [e]
  cases pick (zk ss[i] ms) ss[i].fs.length (greedy (zk ss[i] ms) ss[i].fs.length k) with
  | none=>rfl
  | some q=>simp
theorem zla {ss:List Shp} {ms:List Mnd} (h:yt ss=true) (hm:ms.all (jI ss)=true) (i:Nat) (hi:i < ss.length):rowOk ms ss[i]=zbC ms ss[i]:=by
 unfold rowOk zbC
 rw [zdC h hm i hi,List.length_map]
 refine zhs (fun p hp q hq=>?_)
 unfold zk at hq
 obtain ⟨x,hx,rfl⟩:=List.mem_map.1 hq
 have:=zhN h hm i hi p hp x hx
 omega
theorem ze7 (ss:List Shp) (ms:List Mnd):yx ss ms=jm ss ms:=by
 unfold yx jm
 by_cases h:yt ss=true
 ·have e1:ms.all (zav ss)=ms.all (jI ss):=by congr 1;funext m;exact (znu h m).symm
  rw [e1,h]
  by_cases hm:ms.all (jI ss)=true
  ·have e2:ss.all (rowOk ms)=ss.all (zbC ms):=by
    rw [Bool.eq_iff_iff,List.all_eq_true,List.all_eq_true]
    constructor
    ·intro ha x hx
     obtain ⟨i,hi,rfl⟩:=List.mem_iff_getElem.1 hx
     rw [<- zla h hm i hi];exact ha _ hx
    ·intro ha x hx
     obtain ⟨i,hi,rfl⟩:=List.mem_iff_getElem.1 hx
     rw [zla h hm i hi];exact ha _ hx
   rw [e2];cases decide (ms.length<=12) <;> simp
  ·have hmf:ms.all (jI ss)=false:=by simpa using hm
   rw [hmf];simp
 ·have hf:yt ss=false:=by simpa using h
  rw [hf];simp
end Go.Proofs.YtaickbhifenbjaaGreat.Gate
namespace Go.Proofs.YtaickbhifenbjaaGreat.Gate
def qO (fs:List Fld) (vs:List ByteArray) (v:ByteArray):ByteArray:=match fs.findIdx? (fun f=>decide (f.nm=v)) with | some j=>vs.getD j ByteArray.empty | none=>ByteArray.empty
def gives (s:Shp) (vs:List ByteArray) (p:Nat) (m:Mnd):Option ByteArray :=
 if turns m s p=true/\¬ (isSet m.wh=true/\qO s.fs vs m.wh ≠ m.wi) then
  if isSet m.fr=true then (if isSet (qO s.fs vs m.fr)=true then some (qO s.fs vs m.fr) else none) else some m.pt
 else none
def decided (s:Shp) (ms:List Mnd) (p:Nat) (vs:List ByteArray):ByteArray:=(ms.findSome? (gives s vs p)).getD (vs.getD p ByteArray.empty)
theorem zcZ {fs:List Fld} {vs:List ByteArray} {v:ByteArray} {j:Nat} (h:zP fs v=(j:Int)):qO fs vs v=vs.getD j ByteArray.empty:=by
 unfold zP at h
 unfold qO
 cases hf:fs.findIdx? (fun f=>decide (f.nm=v)) with
 | none=>rw [hf] at h;simp at h
 | some k =>
  rw [hf] at h
  have:k=j:=by simp only at h;omega
  rw [this]
theorem zeR {fs:List Fld} {vs:List ByteArray} {v:ByteArray} (h:zP fs v=-1):qO fs vs v=ByteArray.empty:=by
 unfold zP at h
 unfold qO
 cases hf:fs.findIdx? (fun f=>decide (f.nm=v)) with
 | none=>rfl
 | some k=>rw [hf] at h;simp only at h;omega
theorem zeo {α β:Type} {f g:α->Option β}:∀ {l:List α},(∀ x ∈ l,f x=g x)->l.findSome? f=l.findSome? g
 | [],_=>rfl
 | a :: l,h=>by
  have h1:=h a (by simp)
  have h2:=zeo (f:=f) (g:=g) (l:=l) (fun x hx=>h x (by simp [hx]))
  rw [List.findSome?_cons,List.findSome?_cons,h1,h2]
theorem ziW (s:Shp) (ms:List Mnd):zoR (zk s ms) s.fs.length (decided s ms):=by
 intro p _ us vs _ _ hr hown
 have hgd:∀ q,us[q]?=vs[q]?->us.getD q ByteArray.empty=vs.getD q ByteArray.empty:=by
  intro q e
  rw [List.getD_eq_getElem?_getD,List.getD_eq_getElem?_getD,e]
 unfold decided
 have e:ms.findSome? (gives s us p)=ms.findSome? (gives s vs p):=by
  apply zeo
  intro m hmm
  unfold gives
  by_cases ht:turns m s p=true
  ·have hread:∀ v ∈ zK m,qO s.fs us v=qO s.fs vs v:=by
    intro v hv'
    rcases jl s.fs v with ⟨h1,_⟩ | ⟨k,_,h1,_⟩
    ·rw [zeR h1,zeR h1]
    ·rw [zcZ h1,zcZ h1]
     apply hgd
     apply hr
     unfold zk
     rw [List.mem_map]
     refine ⟨(k:Int),?_,Int.toNat_natCast _⟩
     unfold zT
     rw [List.mem_flatMap]
     refine ⟨m,hmm,?_⟩
     rw [if_pos ht,List.mem_map]
     exact ⟨v,hv',h1⟩
   have hw:isSet m.wh=true->qO s.fs us m.wh=qO s.fs vs m.wh:=fun hs=>hread _ (by unfold zK;rw [List.mem_filter];exact ⟨by simp,hs⟩)
   have hf:isSet m.fr=true->qO s.fs us m.fr=qO s.fs vs m.fr:=fun hs=>hread _ (by unfold zK;rw [List.mem_filter];exact ⟨by simp,hs⟩)
   have c1:(isSet m.wh=true/\qO s.fs us m.wh ≠ m.wi) ↔ (isSet m.wh=true/\qO s.fs vs m.wh ≠ m.wi):=by
    constructor
    ·rintro ⟨a,b⟩;exact ⟨a,by rw [<- hw a];exact b⟩
    ·rintro ⟨a,b⟩;exact ⟨a,by rw [hw a];exact b⟩
   have c2:(if isSet m.fr=true then (if isSet (qO s.fs us m.fr)=true then some (qO s.fs us m.fr) else none) else some m.pt)=(if isSet m.fr=true then (if isSet (qO s.fs vs m.fr)=true then some (qO s.fs vs m.fr) else none) else some m.pt):=by
    by_cases hsf:isSet m.fr=true
    ·rw [hf hsf]
    ·rw [if_neg hsf,if_neg hsf]
   rw [c2]
   by_cases hc:turns m s p=true/\¬ (isSet m.wh=true/\qO s.fs us m.wh ≠ m.wi)
   ·have hc':turns m s p=true/\¬ (isSet m.wh=true/\qO s.fs vs m.wh ≠ m.wi):=⟨hc.1,fun h'=>hc.2 (c1.2 h')⟩
    rw [if_pos hc,if_pos hc']
   ·have hc':¬ (turns m s p=true/\¬ (isSet m.wh=true/\qO s.fs vs m.wh ≠ m.wi)):=fun h'=>hc ⟨h'.1,fun h''=>h'.2 (c1.1 h'')⟩
    rw [if_neg hc,if_neg hc']
  ·simp [ht]
 rw [e,hgd p hown]
end Go.Proofs.YtaickbhifenbjaaGreat.Gate
namespace Go.Proofs.YtaickbhifenbjaaGreat
open Go.RowKit
theorem zcj (s:Shp) (vs:List ByteArray) (v:ByteArray) (fa va:Option Addr) (fcap vcap:Nat) (w:World) (hf:zR w fa s.fs) (hv:zF w va vs) (hc:vs.length=s.fs.length) :
 Calls Tryz.prog 221 #[.agg #[.string s.kd,.slice fa s.fs.length fcap],.slice va vs.length vcap,.string v] w fun e w'=>e = .returned (.string (Gate.qO s.fs vs v))/\Below w.heap.size w w':=by
 have hl:=hv.len
 unfold maxLen at hl
 have hba:=(Below.refl w.heap.size w).alloc (Nat.le_refl _) (.cells #[.string s.kd,.slice fa s.fs.length fcap] 115)
 rcases Gate.jl s.fs v with ⟨h1,_⟩ | ⟨i,hi,h1,_⟩
 ·have HV:Hid (Gate.qO s.fs vs v=ByteArray.empty):=Gate.zeR h1
  go_enter Tryz.func221,Tryz.ntmps221
  go_wp2_with fail
  have h:=jk fa fcap s.fs v _ (hf.mono hba)
  rw [h1] at h
  refine h.mono ?_
  rintro e w1 ⟨rfl,hb1⟩
  clear h
  go_wp2_with fail
  go_ret
  exact ⟨by rw [HV.out];rfl,hba.trans (hb1.mono hba.size)⟩
 ·have hiv:i < vs.length:=by omega
  have HV:Hid (Gate.qO s.fs vs v=vs[i]):=by unfold Hid;rw [Gate.zcZ h1,Gate.getD_at _ _ _ hiv]
  obtain ⟨b,off,rfl,hb,hcell⟩:=hv.cells (by rintro rfl;simp at hiv)
  go_enter Tryz.func221,Tryz.ntmps221
  go_wp2_with fail
  have h:=jk fa fcap s.fs v _ (hf.mono hba)
  rw [h1] at h
  refine h.mono ?_
  rintro e w1 ⟨rfl,hb1⟩
  have hB1:Below w.heap.size w w1:=hba.trans (hb1.mono hba.size)
  have hci:w1.cell? ⟨b,off+i,none⟩=some (.string vs[i]):=(hB1.cell (p:=⟨b,off+i,none⟩) hb).trans (hcell i hiv)
  have hiI:(i:Int) < (vs.length:Int):=by omega
  have hi0:decide ((i:Int) < 0)=false:=by simp
  clear h hcell hba hb1
  go_wp2_with fail
  go_ret
  exact ⟨by rw [HV.out];rfl,hB1⟩
set_option maxRecDepth 20000 in
theorem zgd (s:Shp) (ms:List Mnd) (vs:List ByteArray) (p:Nat) (fa ma va:Option Addr) (fcap mcap vcap:Nat) (w:World) (hf:zR w fa s.fs) (hm:y7 w ma ms) (hv:zF w va vs) (hc:vs.length=s.fs.length) (hp:p < s.fs.length) :
 Calls Tryz.prog 218 #[.agg #[.string s.kd,.slice fa s.fs.length fcap],.slice ma ms.length mcap,.slice va vs.length vcap,.int .i64 p] w fun e w'=>e = .returned (.string (Gate.decided s ms p vs))/\Below w.heap.size w w':=by
 have hpv:p < vs.length:=by omega
 have hl:=hv.len
 have hml:=hm.len
 unfold maxLen at hl hml
 have HH:Hid (zR w fa s.fs/\y7 w ma ms/\zF w va vs/\vs.length=s.fs.length):=⟨hf,hm,hv,hc⟩
 obtain ⟨b,off,rfl,hb,hcell⟩:=hv.cells (by rintro rfl;simp at hpv)
 have hcp:=hcell p hpv
 have hpI:(p:Int) < (vs.length:Int):=by omega
 clear hf hm hv hcell hc
 go_enter Tryz.func218,Tryz.ntmps218
 go_wp2_with fail
 go_step3
 go_wp2_with fail
 go_step3
 go_wp2_with fail
 go_loopw [9,19] (fun v0 iv wr=>∃ k:Nat,v0 = .string vs[p]/\k<=ms.length/\iv = .int .i64 k/\(ms.take k).findSome? (Gate.gives s vs p)=none/\Below (w.heap.size+1) (w.alloc (.cells #[.string s.kd,.slice fa s.fs.length fcap] 115)) wr) (fun _ iv _=>ms.length - (intOf iv).toNat)
 case atStart=>exact ⟨0,rfl,Nat.zero_le _,rfl,rfl,Below.refl _ _⟩
 case round =>
  obtain ⟨k,rfl,hk,rfl,hnone,hBw⟩:=hrel
  have HB:Hid (Below w.heap.size w wr/\Below (w.heap.size+1) (w.alloc (.cells #[.string s.kd,.slice fa s.fs.length fcap] 115)) wr):=⟨((Below.refl _ _).alloc (Nat.le_refl _) _).trans (hBw.mono (by omega)),hBw⟩
  have hzr:w.heap.size < wr.heap.size:=by have:=hBw.size;simp at this;omega
  have hXr:∀ j,wr.cell? ⟨w.heap.size,j,none⟩=(#[.string s.kd,.slice fa s.fs.length fcap]:Array Value)[j]?:=fun j=>cell_of_block ((hBw.block w.heap.size (by omega)).trans (alloc_at _ _))
  have HN:Hid ((ms.take k).findSome? (Gate.gives s vs p)=none):=hnone
  clear hnone hBw
  by_cases hlt:k < ms.length
  ·obtain ⟨mb,moff,rfl,hmb,c0,c1,c2,c3,c4,c5⟩:=HH.out.2.1.load HB.out.1 k hlt
   have hltI:(k:Int) < (ms.length:Int):=by omega
   have hba:=(Below.refl wr.heap.size wr).alloc (Nat.le_refl _) (.cells #[.string ms[k].kd,.string ms[k].fd,.string ms[k].wh,.string ms[k].wi,.string ms[k].pt,.string ms[k].fr] 117)
   have HBA:Hid (Below w.heap.size w (wr.alloc (.cells #[.string ms[k].kd,.string ms[k].fd,.string ms[k].wh,.string ms[k].wi,.string ms[k].pt,.string ms[k].fr] 117))):=HB.out.1.trans (hba.mono HB.out.1.size)
   go_wp2_with fail
   have HNX:Hid (Gate.gives s vs p ms[k]=none->(ms.take (k+1)).findSome? (Gate.gives s vs p)=none):=by
    intro h
    rw [List.take_succ_eq_append_getElem hlt,List.findSome?_append,HN.out]
    simp [h]
   have HSX:Hid (∀ x,Gate.gives s vs p ms[k]=some x->Gate.decided s ms p vs=x):=by
    intro x h
    unfold Gate.decided
    have e:ms.findSome? (Gate.gives s vs p)=some x:=by
     conv=>lhs;rw [<- List.take_append_drop k ms,List.drop_eq_getElem_cons hlt]
     rw [List.findSome?_append,HN.out,List.findSome?_cons,h]
     rfl
    rw [e];rfl
   refine (zcj s vs ms[k].fr fa _ fcap vcap _ (HH.out.1.mono HBA.out) (HH.out.2.2.1.mono HBA.out) HH.out.2.2.2).mono ?_
   rintro e w3 ⟨rfl,hb3⟩
   have HB3:Hid (Below wr.heap.size wr w3):=hba.trans (hb3.mono hba.size)
   have hXm:=za (zl wr _ _) (by simp) hb3
   have hzm:wr.heap.size < w3.heap.size:=by have:=hb3.size;simp at this;omega
   have hXs:=za hXr hzr HB3.out
   have HBW3:Hid (Below w.heap.size w w3):=HB.out.1.trans (HB3.out.mono HB.out.1.size)
   clear hba hb3 hXr c0 c1 c2 c3 c4 c5
   go_wp2_with fail
   have h:=zjM ms[k] s fa fcap p w3 (HH.out.1.mono HBW3.out) hp
   rcases htt:Gate.turns ms[k] s p with _ | _
   ·have HG:Hid (Gate.gives s vs p ms[k]=none):=by unfold Hid Gate.gives;simp [htt]
    rw [htt] at h
    refine h.mono ?_
    rintro e w4 ⟨rfl,hb4⟩
    have HBX:Hid (Below (w.heap.size+1) (w.alloc (.cells #[.string s.kd,.slice fa s.fs.length fcap] 115)) w4):=HB.out.2.trans ((HB3.out.trans (hb4.mono HB3.out.size)).mono hzr)
    clear h hb4
    clear htt hXm hXs
    go_wp2_with fail
    exact ⟨⟨k+1,rfl,by omega,by go_num,HNX.out HG.out,HBX.out⟩,zw hlt⟩
   rw [htt] at h
   refine h.mono ?_
   rintro e w4 ⟨rfl,hb4⟩
   have HB4:Hid (Below wr.heap.size wr w4):=HB3.out.trans (hb4.mono HB3.out.size)
   have hXm4:=za hXm hzm hb4
   have hzm4:wr.heap.size < w4.heap.size:=Nat.lt_of_lt_of_le hzm hb4.size
   have hXs4:=za hXs (Nat.lt_trans hzr hzm) hb4
   have HBW4:Hid (Below w.heap.size w w4):=HB.out.1.trans (HB4.out.mono HB.out.1.size)
   clear h hb4 hXm hXs
   rcases hwh:ms[k].wh.toList.isEmpty with _ | _
   ·by_cases ev:Gate.qO s.fs vs ms[k].wh=ms[k].wi
    ·have hev:((Gate.qO s.fs vs ms[k].wh).toList == ms[k].wi.toList)=true:=by rw [Gate.beq_toList];simpa using ev
     have HEV:Hid (Gate.qO s.fs vs ms[k].wh=ms[k].wi):=ev
     clear ev
     go_wp2_with fail
     have hbd:Below w4.heap.size w4 w4.drew:=(Below.refl _ _).drew
     have hXm5:=za hXm4 hzm4 hbd
     have hXs5:=za hXs4 (Nat.lt_trans hzr hzm4) hbd
     have hbc:Below w.heap.size w w4.drew:=HBW4.out.drew
     go_region_held3 (fun w'=>(∀ j,w'.cell? ⟨wr.heap.size,j,none⟩=(#[.string ms[k].kd,.string ms[k].fd,.string ms[k].wh,.string ms[k].wi,.string ms[k].pt,.string ms[k].fr]:Array Value)[j]?)/\∀ j,w'.cell? ⟨w.heap.size,j,none⟩=(#[.string s.kd,.slice fa s.fs.length fcap]:Array Value)[j]?) (exact ⟨hXm5,hXs5⟩) (first
      | (go_at_call 221;refine (zcj s vs ms[k].wh fa _ fcap vcap _ (by exact HH.out.1.mono hbc) (by exact HH.out.2.2.1.mono hbc) HH.out.2.2.2).mono ?_;rintro e w5 ⟨rfl,hb5⟩;have hbd:=hbd.trans (hb5.mono hbd.size);have hbc:=hbc.trans (hb5.mono hbc.size);have hXm5:=za hXm4 hzm4 hbd;have hXs5:=za hXs4 (Nat.lt_trans hzr hzm4) hbd;clear hb5))
     have HBX:Hid (Below (w.heap.size+1) (w.alloc (.cells #[.string s.kd,.slice fa s.fs.length fcap] 115)) w5):=HB.out.2.trans ((HB4.out.trans (hbd.mono HB4.out.size)).mono hzr)
     have HBY:Hid (Below w.heap.size w w5):=hbc
     clear hbd hbc hXm4 hXs4
     rcases hfr:ms[k].fr.toList.isEmpty with _ | _
     ·rcases hF:(Gate.qO s.fs vs ms[k].fr).toList.isEmpty with _ | _
      ·have HG:Hid (Gate.gives s vs p ms[k]=some (Gate.qO s.fs vs ms[k].fr)):=by unfold Hid Gate.gives Gate.isSet;simp [HEV.out, *]
       clear htt
       go_wp2_with fail
       rw [Exit.noGoto_ret]
       go_ret
       exact ⟨by rw [HSX.out _ HG.out];rfl,HBY.out⟩
      ·have HG:Hid (Gate.gives s vs p ms[k]=none):=by unfold Hid Gate.gives Gate.isSet;simp [HEV.out, *]
       clear htt
       go_wp2_with fail
       exact ⟨⟨k+1,rfl,by omega,by go_num,HNX.out HG.out,HBX.out⟩,zw hlt⟩
     ·have HG:Hid (Gate.gives s vs p ms[k]=some ms[k].pt):=by unfold Hid Gate.gives Gate.isSet;simp [HEV.out, *]
      clear htt
      go_wp2_with fail
      rw [Exit.noGoto_ret]
      go_ret
      exact ⟨by rw [HSX.out _ HG.out];rfl,HBY.out⟩
    ·have hev:((Gate.qO s.fs vs ms[k].wh).toList == ms[k].wi.toList)=false:=by rw [Gate.beq_toList];simpa using ev
     have HG:Hid (Gate.gives s vs p ms[k]=none):=by unfold Hid Gate.gives Gate.isSet;simp [*]
     clear ev
     go_wp2_with fail
     have hbd:Below w4.heap.size w4 w4.drew:=(Below.refl _ _).drew
     have hXm5:=za hXm4 hzm4 hbd
     have hXs5:=za hXs4 (Nat.lt_trans hzr hzm4) hbd
     have hbc:Below w.heap.size w w4.drew:=HBW4.out.drew
     go_region_held3 (fun w'=>(∀ j,w'.cell? ⟨wr.heap.size,j,none⟩=(#[.string ms[k].kd,.string ms[k].fd,.string ms[k].wh,.string ms[k].wi,.string ms[k].pt,.string ms[k].fr]:Array Value)[j]?)/\∀ j,w'.cell? ⟨w.heap.size,j,none⟩=(#[.string s.kd,.slice fa s.fs.length fcap]:Array Value)[j]?) (exact ⟨hXm5,hXs5⟩) (first
      | (go_at_call 221;refine (zcj s vs ms[k].wh fa _ fcap vcap _ (by exact HH.out.1.mono hbc) (by exact HH.out.2.2.1.mono hbc) HH.out.2.2.2).mono ?_;rintro e w5 ⟨rfl,hb5⟩;have hbd:=hbd.trans (hb5.mono hbd.size);have hbc:=hbc.trans (hb5.mono hbc.size);have hXm5:=za hXm4 hzm4 hbd;have hXs5:=za hXs4 (Nat.lt_trans hzr hzm4) hbd;clear hb5))
     have HBX:Hid (Below (w.heap.size+1) (w.alloc (.cells #[.string s.kd,.slice fa s.fs.length fcap] 115)) w5):=HB.out.2.trans ((HB4.out.trans (hbd.mono HB4.out.size)).mono hzr)
     have HBY:Hid (Below w.heap.size w w5):=hbc
     clear hbd hbc hXm4 hXs4
     clear htt
     go_wp2_with fail
     exact ⟨⟨k+1,rfl,by omega,by go_num,HNX.out HG.out,HBX.out⟩,zw hlt⟩
   ·have HBX:Hid (Below (w.heap.size+1) (w.alloc (.cells #[.string s.kd,.slice fa s.fs.length fcap] 115)) w4):=HB.out.2.trans (HB4.out.mono hzr)
    have HBY:Hid (Below w.heap.size w w4):=HBW4.out
    rcases hfr:ms[k].fr.toList.isEmpty with _ | _
    ·rcases hF:(Gate.qO s.fs vs ms[k].fr).toList.isEmpty with _ | _
     ·have HG:Hid (Gate.gives s vs p ms[k]=some (Gate.qO s.fs vs ms[k].fr)):=by unfold Hid Gate.gives Gate.isSet;simp [*]
      clear htt
      go_wp2_with fail
      go_quiet (fail)
      go_wp2_with fail
      rw [Exit.noGoto_ret]
      go_ret
      exact ⟨by rw [HSX.out _ HG.out];rfl,below_drewN HBY.out _⟩
     ·have HG:Hid (Gate.gives s vs p ms[k]=none):=by unfold Hid Gate.gives Gate.isSet;simp [*]
      clear htt
      go_wp2_with fail
      go_quiet (fail)
      go_wp2_with fail
      exact ⟨⟨k+1,rfl,by omega,by go_num,HNX.out HG.out,below_drewN HBX.out _⟩,zw hlt⟩
    ·have HG:Hid (Gate.gives s vs p ms[k]=some ms[k].pt):=by unfold Hid Gate.gives Gate.isSet;simp [*]
     clear htt
     go_wp2_with fail
     go_quiet (fail)
     go_wp2_with fail
     rw [Exit.noGoto_ret]
     go_ret
     exact ⟨by rw [HSX.out _ HG.out];rfl,below_drewN HBY.out _⟩
  ·have e:k=ms.length:=by omega
   have hn:=HN.out
   rw [e,List.take_of_length_le (Nat.le_refl _)] at hn
   have HD:Hid (Gate.decided s ms p vs=vs[p]):=by unfold Hid Gate.decided;rw [hn,Gate.getD_at _ _ _ hpv];rfl
   subst e
   clear hn HN
   go_wp2_with fail
   rw [Exit.noGoto_ret]
   go_ret
   exact ⟨by rw [HD.out];rfl,HB.out.1⟩
end Go.Proofs.YtaickbhifenbjaaGreat
