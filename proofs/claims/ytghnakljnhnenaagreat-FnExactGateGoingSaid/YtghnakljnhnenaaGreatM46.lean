import Derived.Test.YtghnakljnhnenaaGreatM22
import Derived.Laws.IdiomStrings
set_option maxHeartbeats 4000000
namespace Go.Proofs.YtghnakljnhnenaaGreat
open Go.RowKit
structure Marked (lo hi:Nat) (w w':World):Prop where
 os:w'.os=w.os
 tape:w'.tape=w.tape
 output:w'.output=w.output
 size:w.heap.size<=w'.heap.size
 out:∀ k,k < w.heap.size->(k < lo \/ hi<=k)->w'.heap[k]?=w.heap[k]?
 inn:∀ (k:Nat) (C:Array Value) (t:TypeId),lo<=k->k < hi->w.heap[k]?=some (.cells C t)->∃ C':Array Value,w'.heap[k]?=some (.cells C' t)/\C'.size=C.size/\∀ (j:Nat) a n c,C'[j]?=some (Value.slice a n c) ↔ C[j]?=some (Value.slice a n c)
theorem Marked.refl (lo hi:Nat) (w:World):Marked lo hi w w:=⟨rfl,rfl,rfl,Nat.le_refl _,fun _ _ _=>rfl,fun _ C _ _ _ h=>⟨C,h,rfl,fun _ _ _ _=>Iff.rfl⟩⟩
theorem Marked.trans {lo hi:Nat} {a b c:World} (h:Marked lo hi a b) (k:Marked lo hi b c):Marked lo hi a c :=
 ⟨k.os.trans h.os,k.tape.trans h.tape,k.output.trans h.output,Nat.le_trans h.size k.size,
  fun i hi ho=>(k.out i (nLt hi h.size) ho).trans (h.out i hi ho),
  fun i C t h1 h2 hC=>by
   obtain ⟨C1,hC1,hs1,hk1⟩:=h.inn i C t h1 h2 hC;obtain ⟨C2,hC2,hs2,hk2⟩:=k.inn i C1 t h1 h2 hC1;exact ⟨C2,hC2,hs2.trans hs1,fun j a n c=>(hk2 j a n c).trans (hk1 j a n c)⟩⟩
theorem Marked.of_below {lo hi:Nat} {w w':World} (h:Below w.heap.size w w'):Marked lo hi w w' :=
 ⟨h.os,h.tape,h.output,h.size,fun k hk _=>h.block k hk,fun k C _ _ _ hC=>⟨C,(h.block k (gES hC).1).trans hC,rfl,fun _ _ _ _=>Iff.rfl⟩⟩
theorem Marked.wide {lo hi lo' hi':Nat} {w w':World} (h:Marked lo hi w w') (h1:lo'<=lo) (h2:hi<=hi'):Marked lo' hi' w w' :=
 ⟨h.os,h.tape,h.output,h.size,fun k hk ho=>h.out k hk (by omega),fun k C t g1 g2 hC=>by
  by_cases hin:lo<=k/\k < hi
  ·exact h.inn k C t hin.1 hin.2 hC
  ·exact ⟨C,(h.out k (gES hC).1 (by omega)).trans hC,rfl,fun _ _ _ _=>Iff.rfl⟩⟩
theorem Marked.put {lo hi b j:Nat} {w w1:World} {C:Array Value} {t:TypeId} (h:Marked lo hi w w1) (hlo:lo<=b) (hhi:b < hi) (hC:w.heap[b]?=some (.cells C t)) (hj:∀ a n c,C[j]? ≠ some (Value.slice a n c)) (v:Value) (hv:∀ a n c,v ≠ Value.slice a n c):Marked lo hi w (w1.setCell ⟨b,j,none⟩ v):=by
 refine ⟨h.os,h.tape,h.output,by have:=h.size;simpa [World.setCell] using this,fun k hk ho=>?_,fun k C0 t0 g1 g2 hC0=>?_⟩
 ·rw [Below.heap_setCell _ _ _ _ (by show k ≠ b;omega)];exact h.out k hk ho
 ·obtain ⟨C1,hC1,hs1,hk1⟩:=h.inn k C0 t0 g1 g2 hC0
  by_cases hkb:k=b
  ·subst hkb
   rw [hC] at hC0;simp only [Option.some.injEq,Obj.cells.injEq] at hC0;obtain ⟨rfl,rfl,_⟩:=hC0;refine ⟨C1.setIfInBounds j v,zk hC1 _,by simpa using hs1,fun i a n c=>?_⟩
   by_cases hij:j=i
   ·subst hij
    refine ⟨fun h=>?_,fun h=>absurd h (hj a n c)⟩
    exfalso
    rw [Array.getElem?_setIfInBounds] at h;simp only [if_true] at h
    split at h
    ·exact hv a n c (Option.some.inj h)
    ·cases h
   ·rw [Array.getElem?_setIfInBounds_ne hij];exact hk1 i a n c
  ·exact ⟨C1,(Below.heap_setCell _ _ _ _ (by show k ≠ b;exact hkb)).trans hC1,hs1,hk1⟩
theorem Marked.cell {lo hi:Nat} {w w':World} (h:Marked lo hi w w') {p:Addr} (hp:p.block < w.heap.size) (ho:p.block < lo \/ hi<=p.block):w'.cell? p=w.cell? p:=by
 unfold World.cell?;rw [h.out p.block hp ho]
theorem Marked.box {lo hi b:Nat} {w w':World} {X:Array Value} (h:Marked lo hi w w') (hX:∀ o,w.cell? ⟨b,o,none⟩=X[o]?) (hb:b < w.heap.size) (ho:b < lo \/ hi<=b):∀ o,w'.cell? ⟨b,o,none⟩=X[o]? :=
 fun o=>(h.cell (p:=⟨b,o,none⟩) hb ho).trans (hX o)
theorem Marked.below {lo hi B:Nat} {w w':World} (h:Marked lo hi w w') (h1:B<=lo) (h2:B<=w.heap.size):Below B w w' :=
 ⟨h.os,h.tape,h.output,h.size,fun k hk=>h.out k (by omega) (Or.inl (by omega))⟩
namespace Gate
def zeI (n:Nat):ByteArray:=⟨#[UInt8.ofNat (48+n)]⟩
def digits (n:Nat) (acc:ByteArray):ByteArray:=if n=0 then acc else digits (n / 10) (zeI (n % 10) ++ acc)
termination_by n
decreasing_by omega
theorem zlW (acc:ByteArray):digits 0 acc=acc:=by rw [digits];rfl
theorem znR {n:Nat} (h:0 < n) (acc:ByteArray):digits n acc=digits (n / 10) (zeI (n % 10) ++ acc):=by
 conv=>lhs;rw [digits]
 rw [if_neg (by omega)]
def zdS (k:Nat):ByteArray:=⟨#[109]⟩ ++ digits k ByteArray.empty
end Gate
theorem zml (n:Nat) (h:n < 9000000000000000000):wrap64 ((n:Int) / 10)=((n / 10:Nat):Int):=by
 rw [yw _ ⟨by omega,by omega⟩];omega
theorem zpU {k:Nat} (h:k < 9000000000000000000):k < 10 ^ 19:=Nat.lt_trans h (by decide)
theorem znk (n:Nat) (hn:0 < n) (h:n < 9000000000000000000):(intOf (.int .i64 (wrap64 ((n:Int) / 10)))).toNat < (intOf (.int .i64 (n:Int))).toNat:=by
 rw [zml n h]
 show (((n / 10:Nat):Int)).toNat < ((n:Nat):Int).toNat
 rw [Int.toNat_natCast,Int.toNat_natCast];omega
theorem zoM (n:Nat):((UInt8.ofNat (48+n % 10)).toNat:Int)=48+(n:Int) % 10:=by
 rw [UInt8.toNat_ofNat',Nat.mod_eq_of_lt (by omega)];omega
theorem znW (w:World) (n:Nat):(convert 188 9 (.slice (some ⟨w.heap.size,0,none⟩) 1 1)).run Tryz.prog (w.alloc (.cells #[.int .u8 (48+(n:Int) % 10)] 5)) = .ok (.string (Gate.zeI (n % 10))) (w.alloc (.cells #[.int .u8 (48+(n:Int) % 10)] 5)):=by
 refine run_convert_bytes_back _ _ _ 5 ⟨w.heap.size,0,none⟩ 1 [UInt8.ofNat (48+n % 10)] Tryz.underlying188 Tryz.underlying5 Tryz.underlying9 (fun j hj=>?_);have e:j=0:=by simp at hj;omega
 subst e;rw [List.getElem_cons_zero,zoM];have e2:(⟨w.heap.size,0,none⟩:Addr).add 0=⟨w.heap.size,0,none⟩:=rfl;rw [e2,World.cell?_alloc_at (hn:=rfl)]
 rfl
set_option maxRecDepth 20000 in
theorem zf8 (k:Nat) (w:World) (hk:0 < k) (hk2:k < 9000000000000000000) :
 Calls Tryz.prog 82 #[.int .i64 k] w fun e w'=>e = .returned (.string (Gate.zdS k))/\Below w.heap.size w w':=by
 have hk0:decide ((k:Int)<=0)=false:=by simp;omega
 go_enter Tryz.func82,Tryz.ntmps82;go_wp2_with fail
 go_loopw [0,3] (fun kv ov wr=>∃ (n:Nat) (acc:ByteArray) (d:Nat),kv = .int .i64 n/\ov = .string acc/\n<=k/\n < 10 ^ d/\acc.size+d<=19/\Gate.digits n acc=Gate.digits k ByteArray.empty/\Below w.heap.size w wr) (fun kv _ _=>(intOf kv).toNat)
 case atStart=>exact ⟨k,ByteArray.empty,19,rfl,rfl,Nat.le_refl _,zpU hk2,by simp,rfl,bRf _ _⟩
 case round =>
  obtain ⟨n,acc,d,rfl,rfl,hnk,hnd,had,hdig,hB⟩:=hrel;have HF:Hid (n<=k/\n < 10 ^ d/\acc.size+d<=19/\Gate.digits n acc=Gate.digits k ByteArray.empty/\Below w.heap.size w wr):=⟨hnk,hnd,had,hdig,hB⟩
  have HK:Hid (k < 9000000000000000000):=hk2;have hacc:acc.size<=19:=by omega
  clear hnk hnd had hdig hB hk2
  by_cases hn:0 < n
  ·have hn0:decide ((n:Int) > 0)=true:=by simp;omega
   have hcv:=znW wr n;have hds:(Gate.zeI (n % 10)).size=1:=rfl;go_wp2_with fail
   go_roundw
   case rel =>
    obtain ⟨hnk,hnd,had,hdig,hB⟩:=HF.out;have hk2:=HK.out;have hd0:d ≠ 0:=by rintro rfl;simp at hnd;omega
    obtain ⟨e,rfl⟩:∃ e,d=e+1:=⟨d - 1,by omega⟩
    exact ⟨n / 10,Gate.zeI (n % 10) ++ acc,e,by rw [zml n (by omega)],rfl,by omega,by rw [Nat.pow_succ] at hnd;omega,by rw [ByteArray.size_append,hds];omega,by rw [<- Gate.znR hn];exact hdig,hB.alloc hB.size _⟩
   case measure =>
    have hnk:=HF.out.1;have hk2:=HK.out;exact znk n hn (by omega)
  ·have hn0:decide ((n:Int) > 0)=false:=by simp;omega
   go_wp2_with fail
   go_ret;have e0:n=0:=by omega
   obtain ⟨_,_,_,hdig,hB⟩:=HF.out;subst e0;rw [Gate.zlW] at hdig;exact ⟨by unfold Gate.zdS;rw [<- hdig];rfl,hB⟩
theorem zh8 (g n cap:Nat) (C:Array Value) (k:Nat) (w:World) (hC:w.heap[g]?=some (.cells C 9)) (hn:n<=C.size) (hns:∀ i,i < n->∀ a m c,C[i]? ≠ some (Value.slice a m c)) (hk:0 < k) (hkn:k+n < 9000000000000000000) :
 Calls Tryz.prog 84 #[.slice (some ⟨g,0,none⟩) n cap,.int .i64 k] w fun e w'=>e = .returned (.int .i64 ((k+n:Nat):Int))/\Marked g (g+1) w w'/\∃ C',w'.heap[g]?=some (.cells C' 9)/\C'.size=C.size/\∀ i,i < n->C'[i]?=some (.string (Gate.zdS (k+i))):=by
 have HS:Hid (∀ i,i < n->∀ a m c,C[i]? ≠ some (Value.slice a m c)):=hns;have HC:Hid (w.heap[g]?=some (.cells C 9)):=hC;have HN:Hid (n<=C.size):=hn;have HKN:Hid (k+n < 9000000000000000000):=hkn;clear hns hC hn hkn;go_enter Tryz.func84,Tryz.ntmps84;go_wp2_with fail
 go_loopw [1,5] (fun kv iv wr=>∃ i:Nat,i<=n/\kv = .int .i64 ((k+i:Nat):Int)/\iv = .int .i64 i/\Marked g (g+1) w wr/\∃ C',wr.heap[g]?=some (.cells C' 9)/\C'.size=C.size/\∀ j,j < i->C'[j]?=some (.string (Gate.zdS (k+j)))) (fun _ iv _=>n - (intOf iv).toNat)
 case atStart=>exact ⟨0,Nat.zero_le _,by simp,rfl,Marked.refl _ _ _,C,HC.out,rfl,fun j h=>absurd h (by omega)⟩
 case round =>
  obtain ⟨i,hi,rfl,rfl,hM,C',hC',hs',hc'⟩:=hrel
  by_cases hlt:i < n
  ·have hkn:=HKN.out
   have hltI:(i:Int) < (n:Int):=by omega
   have HX:Hid (Marked g (g+1) w wr/\wr.heap[g]?=some (.cells C' 9)/\C'.size=C.size/\∀ j,j < i->C'[j]?=some (.string (Gate.zdS (k+j)))):=⟨hM,hC',hs',hc'⟩
   have hglt:g < wr.heap.size:=(gES hC').1;clear hM hC' hs' hc' hkn;go_wp2_with fail
   rw [<- Int.natCast_add];refine (zf8 (k+i) _ (by omega) (by have:=HKN.out;omega)).mono ?_;rintro e w1 ⟨rfl,hb1⟩;have hC1:w1.heap[g]?=some (.cells C' 9):=(hb1.block g hglt).trans HX.out.2.1;have hi1:i < C'.size:=by have h1:=HX.out.2.2.1;have h2:=HN.out;omega
   have hcell:w1.cell? ⟨g,i,none⟩=some C'[i]:=by rw [cell_of_block hC1];exact Array.getElem?_eq_getElem hi1
   have hfz:w1.frozen? ⟨g,i,none⟩=false:=zi hC1;have HC1:Hid (w1.heap[g]?=some (.cells C' 9)):=hC1;have HM1:Hid (Marked g (g+1) w w1):=HX.out.1.trans (Marked.of_below hb1);have HR:Hid (wrap64 ((k:Int)+i+1)=((k+(i+1):Nat):Int)):=by have:=HKN.out;rw [Hid,yw _ ⟨by omega,by omega⟩];omega
   clear hb1 hC1;go_wp2_with fail
   go_roundw
   case rel =>
    refine ⟨i+1,by omega,?_,by rw [wrap_one (by have:=HKN.out;omega)],?_,C'.setIfInBounds i (.string (Gate.zdS (k+i))),zk HC1.out _,by simp [HX.out.2.2.1],fun j hj=>?_⟩
    ·rw [HR.out]
    ·exact HM1.out.put (Nat.le_refl _) (Nat.lt_succ_self _) HC.out (HS.out i hlt) _ (fun _ _ _ h=>by cases h)
    ·by_cases e:j=i
     ·subst e;rw [Array.getElem?_setIfInBounds_self_of_lt hi1]
     ·rw [Array.getElem?_setIfInBounds_ne (fun h=>e h.symm)];exact HX.out.2.2.2 j (by omega)
   case measure =>
    have hkn:=HKN.out;exact jr hlt (by omega)
  ·have e:i=n:=by omega
   have HX:Hid (Marked g (g+1) w wr/\∃ C',wr.heap[g]?=some (.cells C' 9)/\C'.size=C.size/\∀ j,j < n->C'[j]?=some (.string (Gate.zdS (k+j)))):=⟨hM,C',hC',hs',by rw [<- e];exact hc'⟩
   clear hM hC' hs' hc';subst e;go_wp2_with fail
   go_ret;exact ⟨rfl,HX.out⟩
def zbi (C:Array Value) (j:Nat):Prop:=∀ a n c,C[j]? ≠ some (Value.slice a n c)
structure jD (lo hi:Nat) (w:World) (b n:Nat):Prop where
 low:lo<=b
 high:b < hi
 rows:∃ C,w.heap[b]?=some (.cells C 9)/\n<=C.size/\∀ j,j < n->zbi C j
structure jc (lo hi:Nat) (w:World) (bo:Nat) (fs:List Fld):Prop where
 low:lo<=bo
 high:bo < hi
 rows:∃ C,w.heap[bo]?=some (.cells C 165)/\C.size=fs.length * 11 /\
  ∀ i (h:i < fs.length),∃ bk cap,jD lo hi w bk fs[i].ws.length/\C[i * 11+4]?=some (.slice (some ⟨bk,0,none⟩) fs[i].ws.length cap)/\∀ j,j < 11->j ≠ 4->zbi C (i * 11+j)
structure jC (lo hi:Nat) (w:World) (bo:Nat) (ss:List Shp):Prop where
 low:lo<=bo
 high:bo < hi
 rows:∃ C,w.heap[bo]?=some (.cells C 123)/\C.size=ss.length * 2 /\
  ∀ i (h:i < ss.length),∃ bf cap,jc lo hi w bf ss[i].fs/\C[i * 2+1]?=some (.slice (some ⟨bf,0,none⟩) ss[i].fs.length cap)/\zbi C (i * 2)
theorem jD.mono {lo hi:Nat} {w w':World} {b n:Nat} (h:jD lo hi w b n) (hM:Marked lo hi w w'):jD lo hi w' b n:=by
 obtain ⟨C,hC,hs,hn⟩:=h.rows;obtain ⟨C',hC',hs',hk⟩:=hM.inn b C _ h.low h.high hC;exact ⟨h.low,h.high,C',hC',by omega,fun j hj a m c he=>hn j hj a m c ((hk j a m c).1 he)⟩
theorem jc.mono {lo hi:Nat} {w w':World} {b:Nat} {fs:List Fld} (h:jc lo hi w b fs) (hM:Marked lo hi w w'):jc lo hi w' b fs:=by
 obtain ⟨C,hC,hs,hn⟩:=h.rows;obtain ⟨C',hC',hs',hk⟩:=hM.inn b C _ h.low h.high hC;refine ⟨h.low,h.high,C',hC',by omega,fun i hi=>?_⟩;obtain ⟨bk,cap,h1,h2,h3⟩:=hn i hi;exact ⟨bk,cap,h1.mono hM,(hk _ _ _ _).2 h2,fun j hj hj4 a m c he=>h3 j hj hj4 a m c ((hk _ a m c).1 he)⟩
theorem jC.mono {lo hi:Nat} {w w':World} {b:Nat} {ss:List Shp} (h:jC lo hi w b ss) (hM:Marked lo hi w w'):jC lo hi w' b ss:=by
 obtain ⟨C,hC,hs,hn⟩:=h.rows;obtain ⟨C',hC',hs',hk⟩:=hM.inn b C _ h.low h.high hC;refine ⟨h.low,h.high,C',hC',by omega,fun i hi=>?_⟩;obtain ⟨bk,cap,h1,h2,h3⟩:=hn i hi;exact ⟨bk,cap,h1.mono hM,(hk _ _ _ _).2 h2,fun a m c he=>h3 a m c ((hk _ a m c).1 he)⟩
theorem zcE (ws:List ByteArray) (j:Nat):zbi (jB ws) j:=by
 intro a n c h;simp only [jB,List.getElem?_toArray,List.getElem?_map,Option.map_eq_some_iff] at h;obtain ⟨_,_,h⟩:=h
 cases h
theorem qL.form {lo:Nat} {w:World} {bo:Nat} {fs:List Fld} (h:qL lo w bo fs fs.length):jc lo w.heap.size w bo fs:=by
 obtain ⟨C,hC,hsz,hr⟩:=h.rows;refine ⟨h.low,(gES hC).1,C,hC,hsz,fun i hi=>?_⟩;obtain ⟨bk,h1,_,hk,hc⟩:=hr i hi hi;refine ⟨bk,fs[i].ws.length,⟨h1,(gES hk).1,jB fs[i].ws,hk,by simp [jB],fun j _=>zcE _ _⟩,by rw [hc 4 (by omega)];rfl,fun j hj hj4 a n c he=>?_⟩;rw [hc j hj] at he
 rcases j with _ | _ | _ | _ | _ | _ | _ | _ | _ | _ | _ | j <;> first | omega | (simp [Fld.cells] at he)
theorem jU.form {lo:Nat} {w:World} {bo:Nat} {ss:List Shp} (h:jU lo w bo ss ss.length):jC lo w.heap.size w bo ss:=by
 obtain ⟨C,hC,hsz,hr⟩:=h.rows;refine ⟨h.low,(gES hC).1,C,hC,hsz,fun i hi=>?_⟩;obtain ⟨bf,h1,h2,hf,hk,hl⟩:=hr i hi hi;have hf':=hf.form;have hlow:lo<=bo:=h.low;refine ⟨bf,ss[i].fs.length,⟨h1,hf'.high,?_⟩,hl,fun a n c he=>by rw [hk] at he;cases he⟩;obtain ⟨C',hC',hs',hr'⟩:=hf'.rows;refine ⟨C',hC',hs',fun j hj=>?_⟩;obtain ⟨bk,cap,g1,g2,g3⟩:=hr' j hj;exact ⟨bk,cap,⟨by have:=g1.low;omega,g1.high,g1.rows⟩,g2,g3⟩
theorem zS (k:Int) (w:World) (hk:0 < k) (hk2:k < 9000000000000000000) :
 Calls Tryz.prog 82 #[.int .i64 k] w fun e w'=>∃ s,e = .returned (.string s)/\Below w.heap.size w w':=by
 obtain ⟨n,rfl⟩:∃ n:Nat,k=n:=⟨k.toNat,by omega⟩
 exact (zf8 n w (by omega) (by omega)).mono fun e w' ⟨h1,h2⟩=>⟨_,h1,h2⟩
theorem zbV (lo hi b n cap:Nat) (k:Int) (w:World) (h:jD lo hi w b n) (hn:n<=1048576) (hk:0 < k) (hk2:k < 8000000000000000000) :
 Calls Tryz.prog 84 #[.slice (some ⟨b,0,none⟩) n cap,.int .i64 k] w fun e w'=>∃ k',e = .returned (.int .i64 k')/\k'=k+n/\Marked lo hi w w':=by
 obtain ⟨m,rfl⟩:∃ m:Nat,k=m:=⟨k.toNat,by omega⟩
 obtain ⟨C,hC,hs,hns⟩:=h.rows;refine (zh8 b n cap C m w hC hs hns (by omega) (by omega)).mono fun e w' ⟨h1,h2,_⟩=>⟨_,h1,Int.natCast_add _ _,h2.wide h.low h.high⟩
theorem jc.ready {lo hi bo:Nat} {w W:World} {fs:List Fld} (h:jc lo hi w bo fs) (hM:Marked lo hi w W) (i:Nat) (hi':i < fs.length) :
 (∀ j,j < 11->∃ v,W.cell? ⟨bo,i * 11+j,none⟩=some v)/\(∀ o,W.frozen? ⟨bo,o,none⟩=false):=by
 have h':=h.mono hM;obtain ⟨C,hC,hs,hn⟩:=h'.rows;exact ⟨fun j hj=>⟨C[i * 11+j]'(by omega),by rw [cell_of_block hC];exact Array.getElem?_eq_getElem (by omega)⟩,fun o=>zi hC⟩
theorem jc.words {lo hi bo:Nat} {w:World} {fs:List Fld} (h:jc lo hi w bo fs) (i:Nat) (hi':i < fs.length) :
 ∃ bk cap,jD lo hi w bk fs[i].ws.length/\∀ W,Marked lo hi w W->W.cell? ⟨bo,i * 11+4,none⟩=some (.slice (some ⟨bk,0,none⟩) fs[i].ws.length cap):=by
 obtain ⟨C,hC,hs,hn⟩:=h.rows;obtain ⟨bk,cap,h1,h2,_⟩:=hn i hi';refine ⟨bk,cap,h1,fun W hM=>?_⟩;obtain ⟨C',hC',_,hk⟩:=hM.inn bo C _ h.low h.high hC;rw [cell_of_block hC'];exact (hk _ _ _ _).2 h2
theorem jc.put {lo hi bo:Nat} {w W:World} {fs:List Fld} (h:jc lo hi w bo fs) (hM:Marked lo hi w W) (i j:Nat) (hi':i < fs.length) (hj:j < 11) (hj4:j ≠ 4) (v:Value) (hv:∀ a n c,v ≠ Value.slice a n c):Marked lo hi w (W.setCell ⟨bo,i * 11+j,none⟩ v):=by
 obtain ⟨C,hC,_,hn⟩:=h.rows;obtain ⟨_,_,_,_,h3⟩:=hn i hi';exact hM.put h.low h.high hC (h3 j hj hj4) v hv
set_option maxRecDepth 20000 in
theorem zfx (lo hi bo cap:Nat) (fs:List Fld) (k:Int) (w:World) (h:jc lo hi w bo fs) (hl:fs.length<=1048576) (hls:∀ i (h:i < fs.length),fs[i].ws.length<=1048576) (hk:0 < k) (hk2:k < 4000000000000000000) :
 Calls Tryz.prog 83 #[.slice (some ⟨bo,0,none⟩) fs.length cap,.int .i64 k] w fun e w'=>∃ k',e = .returned (.int .i64 k')/\k<=k'/\k'<=k+fs.length * 1048586/\Marked lo hi w w':=by
 have HF:Hid (jc lo hi w bo fs):=h;have HL:Hid (fs.length<=1048576/\∀ i (h:i < fs.length),fs[i].ws.length<=1048576):=⟨hl,hls⟩
 have HK:Hid (0 < k/\k < 4000000000000000000):=⟨hk,hk2⟩
 clear h hl hls hk hk2;go_enter Tryz.func83,Tryz.ntmps83;go_wp2_with fail
 go_loopw [1,5] (fun kv iv wr=>∃ (i:Nat) (kk:Int),i<=fs.length/\kv = .int .i64 kk/\iv = .int .i64 i/\k<=kk/\kk<=k+i * 1048586/\Marked lo hi w wr) (fun _ iv _=>fs.length - (intOf iv).toNat)
 case atStart=>exact ⟨0,k,Nat.zero_le _,rfl,rfl,Int.le_refl _,by simp,Marked.refl _ _ _⟩
 case round =>
  obtain ⟨i,kk,hile,rfl,rfl,h1,h2,hM⟩:=hrel
  by_cases hlt:i < fs.length
  ·have hltI:(i:Int) < (fs.length:Int):=by omega
   have HB:Hid (0 < kk/\kk < 7000000000000000000/\kk<=k+i * 1048586/\k<=kk):=by have a:=HK.out;have b:=HL.out.1;exact ⟨by omega,by omega,h2,h1⟩
   have HM:Hid (Marked lo hi w wr):=hM;clear h1 h2 hM;obtain ⟨bk,bcap,hT,hsl⟩:=HF.out.words i hlt;have HT:Hid (jD lo hi w bk fs[i].ws.length/\∀ W,Marked lo hi w W->W.cell? ⟨bo,i * 11+4,none⟩=some (.slice (some ⟨bk,0,none⟩) fs[i].ws.length bcap)):=⟨hT,hsl⟩
   clear hT hsl;go_wp2_with fail
   refine (zS _ _ HB.out.1 (by have:=HB.out;omega)).mono ?_;rintro e w1 ⟨s1,rfl,hb1⟩;have HM1:Hid (Marked lo hi w w1):=HM.out.trans (Marked.of_below hb1);clear hb1;have hsl:=HT.out.2 _ HM1.out;obtain ⟨hex,hfz⟩:=HF.out.ready HM1.out i hlt;obtain ⟨v0,hv0⟩:=hex 0 (by omega);obtain ⟨v1,hv1⟩:=hex 1 (by omega);obtain ⟨v2,hv2⟩:=hex 2 (by omega);obtain ⟨v3,hv3⟩:=hex 3 (by omega);rw [Nat.add_zero] at hv0;have hwkk1:wrap64 (kk+1)=kk+1:=by have:=HB.out;exact yw _ ⟨by omega,by omega⟩
   have hwkk2:wrap64 (kk+1+1)=kk+1+1:=by have:=HB.out;exact yw _ ⟨by omega,by omega⟩
   have hwkk3:wrap64 (kk+1+1+1)=kk+1+1+1:=by have:=HB.out;exact yw _ ⟨by omega,by omega⟩
   have hwkk4:wrap64 (kk+1+1+1+1)=kk+1+1+1+1:=by have:=HB.out;exact yw _ ⟨by omega,by omega⟩
   clear hex;go_wp2_with fail
   have HMW:=HF.out.put (HF.out.put (HF.out.put (HF.out.put HM1.out i 0 hlt (by omega) (by omega) (.string s1) (fun _ _ _ h=>by cases h)) i 1 hlt (by omega) (by omega) (.int .i64 (kk+1)) (fun _ _ _ h=>by cases h)) i 2 hlt (by omega) (by omega) (.int .i64 (kk+1+1)) (fun _ _ _ h=>by cases h)) i 3 hlt (by omega) (by omega) (.int .i64 (kk+1+1+1)) (fun _ _ _ h=>by cases h);refine (zbV lo hi bk _ bcap _ _ (HT.out.1.mono HMW) (HL.out.2 i hlt) (by have:=HB.out;omega) (by have:=HB.out;omega)).mono ?_;rintro e w2 ⟨k2,rfl,hk2,hM2⟩;have HM2:Hid (Marked lo hi w w2):=HMW.trans hM2;have HB2:Hid (kk < k2/\k2<=kk+4+1048576/\0 < k2):=by have a:=HL.out.2 i hlt;have b:=HB.out;exact ⟨by omega,by omega,by omega⟩
   clear HMW hM2 hk2 hv0 hv1 hv2 hv3 hfz hsl;go_wp2_with fail
   refine (zS _ _ HB2.out.2.2 (by have:=HB.out;have:=HB2.out;omega)).mono ?_;rintro e w3 ⟨s3,rfl,hb3⟩;have HM3:Hid (Marked lo hi w w3):=HM2.out.trans (Marked.of_below hb3);clear hb3;obtain ⟨hex,hfz⟩:=HF.out.ready HM3.out i hlt;obtain ⟨v5,hv5⟩:=hex 5 (by omega);obtain ⟨v6,hv6⟩:=hex 6 (by omega);obtain ⟨v7,hv7⟩:=hex 7 (by omega);obtain ⟨v8,hv8⟩:=hex 8 (by omega);have hwk21:wrap64 (k2+1)=k2+1:=by have:=HB.out;have:=HB2.out;exact yw _ ⟨by omega,by omega⟩
   have hwk22:wrap64 (k2+1+1)=k2+1+1:=by have:=HB.out;have:=HB2.out;exact yw _ ⟨by omega,by omega⟩
   have hwk23:wrap64 (k2+1+1+1)=k2+1+1+1:=by have:=HB.out;have:=HB2.out;exact yw _ ⟨by omega,by omega⟩
   have hwk24:wrap64 (k2+1+1+1+1)=k2+1+1+1+1:=by have:=HB.out;have:=HB2.out;exact yw _ ⟨by omega,by omega⟩
   have hwk25:wrap64 (k2+1+1+1+1+1)=k2+1+1+1+1+1:=by have:=HB.out;have:=HB2.out;exact yw _ ⟨by omega,by omega⟩
   have hwk26:wrap64 (k2+1+1+1+1+1+1)=k2+1+1+1+1+1+1:=by have:=HB.out;have:=HB2.out;exact yw _ ⟨by omega,by omega⟩
   clear hex;go_wp2_with fail
   have HMW:=HF.out.put (HF.out.put (HF.out.put (HF.out.put HM3.out i 5 hlt (by omega) (by omega) (.string s3) (fun _ _ _ h=>by cases h)) i 6 hlt (by omega) (by omega) (.int .i64 (k2+1)) (fun _ _ _ h=>by cases h)) i 7 hlt (by omega) (by omega) (.bool ((k2+1+1).tmod 3 == 0)) (fun _ _ _ h=>by cases h)) i 8 hlt (by omega) (by omega) (.bool ((k2+1+1+1).tmod 3 == 0)) (fun _ _ _ h=>by cases h);refine (zS _ _ (by have:=HB2.out;omega) (by have:=HB.out;have:=HB2.out;omega)).mono ?_;rintro e w4 ⟨s4,rfl,hb4⟩;have HM4:Hid (Marked lo hi w w4):=HMW.trans (Marked.of_below hb4);clear HMW hb4 hv5 hv6 hv7 hv8 hfz;obtain ⟨hex,hfz⟩:=HF.out.ready HM4.out i hlt;obtain ⟨v9,hv9⟩:=hex 9 (by omega);clear hex;go_wp2_with fail
   have HMW:=HF.out.put HM4.out i 9 hlt (by omega) (by omega) (.string s4) (fun _ _ _ h=>by cases h);refine (zS _ _ (by have:=HB2.out;omega) (by have:=HB.out;have:=HB2.out;omega)).mono ?_;rintro e w5 ⟨s5,rfl,hb5⟩;have HM5:Hid (Marked lo hi w w5):=HMW.trans (Marked.of_below hb5);clear HMW hb5 hv9 hfz;obtain ⟨hex,hfz⟩:=HF.out.ready HM5.out i hlt;obtain ⟨v10,hv10⟩:=hex 10 (by omega);clear hex;go_wp2_with fail
   go_roundw
   case rel=>exact ⟨i+1,k2+1+1+1+1+1+1,by omega,by rw [hwk26],by rw [wrap_one (by have:=HL.out.1;omega)],by have a:=HB.out;have b:=HB2.out;omega,by have a:=HB.out;have b:=HB2.out;omega,HF.out.put HM5.out i 10 hlt (by omega) (by omega) (.string s5) (fun _ _ _ h=>by cases h)⟩
   case measure=>exact jr hlt (by have:=HL.out.1;omega)
  ·have e:i=fs.length:=by omega
   subst e;go_wp2_with fail
   go_ret;exact ⟨kk,rfl,h1,h2,hM⟩
theorem jC.ready {lo hi bo:Nat} {w W:World} {ss:List Shp} (h:jC lo hi w bo ss) (hM:Marked lo hi w W) (i:Nat) (hi':i < ss.length) :
 (∀ j,j < 2->∃ v,W.cell? ⟨bo,i * 2+j,none⟩=some v)/\(∀ o,W.frozen? ⟨bo,o,none⟩=false):=by
 have h':=h.mono hM;obtain ⟨C,hC,hs,hn⟩:=h'.rows;exact ⟨fun j hj=>⟨C[i * 2+j]'(by omega),by rw [cell_of_block hC];exact Array.getElem?_eq_getElem (by omega)⟩,fun o=>zi hC⟩
theorem jC.zdk {lo hi bo:Nat} {w:World} {ss:List Shp} (h:jC lo hi w bo ss) (i:Nat) (hi':i < ss.length) :
 ∃ bf cap,jc lo hi w bf ss[i].fs/\∀ W,Marked lo hi w W->W.cell? ⟨bo,i * 2+1,none⟩=some (.slice (some ⟨bf,0,none⟩) ss[i].fs.length cap):=by
 obtain ⟨C,hC,hs,hn⟩:=h.rows;obtain ⟨bk,cap,h1,h2,_⟩:=hn i hi';refine ⟨bk,cap,h1,fun W hM=>?_⟩;obtain ⟨C',hC',_,hk⟩:=hM.inn bo C _ h.low h.high hC;rw [cell_of_block hC'];exact (hk _ _ _ _).2 h2
theorem jC.put {lo hi bo:Nat} {w W:World} {ss:List Shp} (h:jC lo hi w bo ss) (hM:Marked lo hi w W) (i:Nat) (hi':i < ss.length) (v:Value) (hv:∀ a n c,v ≠ Value.slice a n c):Marked lo hi w (W.setCell ⟨bo,i * 2,none⟩ v):=by
 obtain ⟨C,hC,_,hn⟩:=h.rows;obtain ⟨_,_,_,_,h3⟩:=hn i hi';exact hM.put h.low h.high hC h3 v hv
theorem zfu (lo hi bo cap:Nat) (ss:List Shp) (k:Int) (w:World) (h:jC lo hi w bo ss) (hl:ss.length<=1048576) (hls:∀ i (h:i < ss.length),ss[i].fs.length<=1048576/\∀ j (h':j < ss[i].fs.length),ss[i].fs[j].ws.length<=1048576) (hk:0 < k) (hk2:k < 1000000000000000000) :
 Calls Tryz.prog 44 #[.slice (some ⟨bo,0,none⟩) ss.length cap,.int .i64 k] w fun e w'=>∃ k',e = .returned (.int .i64 k')/\k<=k'/\k'<=k+ss.length * 1099522113537/\Marked lo hi w w':=by
 have HF:Hid (jC lo hi w bo ss):=h;have HL:Hid (ss.length<=1048576/\∀ i (h:i < ss.length),ss[i].fs.length<=1048576/\∀ j (h':j < ss[i].fs.length),ss[i].fs[j].ws.length<=1048576):=⟨hl,hls⟩
 have HK:Hid (0 < k/\k < 1000000000000000000):=⟨hk,hk2⟩
 clear h hl hls hk hk2;go_enter Tryz.func44,Tryz.ntmps44;go_wp2_with fail
 go_loopw [1,5] (fun kv iv wr=>∃ (i:Nat) (kk:Int),i<=ss.length/\kv = .int .i64 kk/\iv = .int .i64 i/\k<=kk/\kk<=k+i * 1099522113537/\Marked lo hi w wr) (fun _ iv _=>ss.length - (intOf iv).toNat)
 case atStart=>exact ⟨0,k,Nat.zero_le _,rfl,rfl,Int.le_refl _,by simp,Marked.refl _ _ _⟩
 case round =>
  obtain ⟨i,kk,hile,rfl,rfl,h1,h2,hM⟩:=hrel
  by_cases hlt:i < ss.length
  ·have hltI:(i:Int) < (ss.length:Int):=by omega
   have HB:Hid (0 < kk/\kk < 3000000000000000000/\kk<=k+i * 1099522113537/\k<=kk):=by have a:=HK.out;have b:=HL.out.1;exact ⟨by omega,by omega,h2,h1⟩
   have HM:Hid (Marked lo hi w wr):=hM;clear h1 h2 hM;obtain ⟨bf,bcap,hT,hsl⟩:=HF.out.zdk i hlt;have HT:Hid (jc lo hi w bf ss[i].fs/\∀ W,Marked lo hi w W->W.cell? ⟨bo,i * 2+1,none⟩=some (.slice (some ⟨bf,0,none⟩) ss[i].fs.length bcap)):=⟨hT,hsl⟩
   clear hT hsl;go_wp2_with fail
   refine (zS _ _ HB.out.1 (by have:=HB.out;omega)).mono ?_;rintro e w1 ⟨s1,rfl,hb1⟩;have HM1:Hid (Marked lo hi w w1):=HM.out.trans (Marked.of_below hb1);clear hb1;have hsl:=HT.out.2 _ HM1.out;obtain ⟨hex,hfz⟩:=HF.out.ready HM1.out i hlt;obtain ⟨v0,hv0⟩:=hex 0 (by omega);rw [Nat.add_zero] at hv0;have hw1:wrap64 (kk+1)=kk+1:=by have:=HB.out;exact yw _ ⟨by omega,by omega⟩
   clear hex;go_wp2_with fail
   have HMW:=HF.out.put HM1.out i hlt (.string s1) (fun _ _ _ h=>by cases h);refine (zfx lo hi bf bcap _ _ _ (HT.out.1.mono HMW) (HL.out.2 i hlt).1 (HL.out.2 i hlt).2 (by have:=HB.out;omega) (by have:=HB.out;omega)).mono ?_;rintro e w2 ⟨k2,rfl,h3,h4,hM2⟩;have HM2:Hid (Marked lo hi w w2):=HMW.trans hM2;have HB2:Hid (kk < k2/\k2<=kk+1099522113537):=by have a:=(HL.out.2 i hlt).1;exact ⟨by omega,by omega⟩
   clear HMW hM2 h3 h4 hv0 hfz hsl;go_wp2_with fail
   go_roundw
   case rel=>exact ⟨i+1,k2,by omega,rfl,by rw [wrap_one (by have:=HL.out.1;omega)],by have a:=HB.out;have b:=HB2.out;omega,by have a:=HB.out;have b:=HB2.out;omega,HM2.out⟩
   case measure=>exact jr hlt (by have:=HL.out.1;omega)
  ·have e:i=ss.length:=by omega
   subst e;go_wp2_with fail
   go_ret;exact ⟨kk,rfl,h1,h2,hM⟩
end Go.Proofs.YtghnakljnhnenaaGreat
