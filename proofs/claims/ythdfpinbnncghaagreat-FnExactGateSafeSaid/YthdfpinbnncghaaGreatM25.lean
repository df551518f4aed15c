import Derived.Test.YthdfpinbnncghaaGreatM21
import Derived.Test.YthdfpinbnncghaaGreatM20
set_option maxHeartbeats 1000000
namespace Go.Proofs.YthdfpinbnncghaaGreat
open Go.RowKit
theorem zrs (who kd nm tm:BA)(vs hs:List BA)(sn:Int)(hd to:BA)(r:Rl)(no:Int)(a0 a1 a2:OA)(c0 c1 c2:Nat)(w:World) :
 Calls Tryz.prog 197 #[.agg ((⟨who,1,kd,nm,tm,vs,hs,sn,hd,to,r,no⟩:Ak).cells a0 a1 a2 c0 c1 c2)] w fun e w'=>e=.returned (.agg ((⟨ByteArray.empty,1,ByteArray.empty,ByteArray.empty,ByteArray.empty,[],[],sn,hd,to,r,no⟩:Ak).cells none none a2 0 0 c2))/\Bw w w':=by
 have HB:Hid (∀o1 o2,Bw w ((w.alloc o1).alloc o2)):=fun o1 o2=>zx w o1 o2
 unfold Ak.cells;dsimp only;go_enter Tryz.func197,Tryz.ntmps197;go_wp2_with fail
 refine bodyPost_ret (v:=.agg ((⟨ByteArray.empty,1,ByteArray.empty,ByteArray.empty,ByteArray.empty,[],[],sn,hd,to,r,no⟩:Ak).cells none none a2 0 0 c2)) (by simp[results,Tryz.results197,go_sem];rfl) rfl ⟨rfl,?_⟩;exact HB.o _ _
theorem zrG (who kd nm tm:BA)(vs hs:List BA)(sn:Int)(hd to:BA)(r:Rl)(no:Int)(a0 a1 a2:OA)(c0 c1 c2:Nat)(w:World) :
 Calls Tryz.prog 197 #[.agg ((⟨who,2,kd,nm,tm,vs,hs,sn,hd,to,r,no⟩:Ak).cells a0 a1 a2 c0 c1 c2)] w fun e w'=>e=.returned (.agg ((⟨ByteArray.empty,2,ByteArray.empty,ByteArray.empty,tm,[],hs,0,hd,to,r,no⟩:Ak).cells none a1 a2 0 c1 c2))/\Bw w w':=by
 have HB:Hid (∀o1 o2,Bw w ((w.alloc o1).alloc o2)):=fun o1 o2=>zx w o1 o2
 unfold Ak.cells;dsimp only;go_enter Tryz.func197,Tryz.ntmps197;go_wp2_with fail
 refine bodyPost_ret (v:=.agg ((⟨ByteArray.empty,2,ByteArray.empty,ByteArray.empty,tm,[],hs,0,hd,to,r,no⟩:Ak).cells none a1 a2 0 c1 c2)) (by simp[results,Tryz.results197,go_sem];rfl) rfl ⟨rfl,?_⟩;exact HB.o _ _
theorem zq4 (who kd nm tm:BA)(vs hs:List BA)(sn:Int)(hd to:BA)(r:Rl)(no:Int)(a0 a1 a2:OA)(c0 c1 c2:Nat)(w:World) :
 Calls Tryz.prog 197 #[.agg ((⟨who,3,kd,nm,tm,vs,hs,sn,hd,to,r,no⟩:Ak).cells a0 a1 a2 c0 c1 c2)] w fun e w'=>e=.returned (.agg ((⟨ByteArray.empty,3,ByteArray.empty,ByteArray.empty,tm,vs,hs,0,hd,to,r,no⟩:Ak).cells a0 a1 a2 c0 c1 c2))/\Bw w w':=by
 have HB:Hid (∀o1 o2,Bw w ((w.alloc o1).alloc o2)):=fun o1 o2=>zx w o1 o2
 unfold Ak.cells;dsimp only;go_enter Tryz.func197,Tryz.ntmps197;go_wp2_with fail
 refine bodyPost_ret (v:=.agg ((⟨ByteArray.empty,3,ByteArray.empty,ByteArray.empty,tm,vs,hs,0,hd,to,r,no⟩:Ak).cells a0 a1 a2 c0 c1 c2)) (by simp[results,Tryz.results197,go_sem];rfl) rfl ⟨rfl,?_⟩;exact HB.o _ _
theorem zrB (who kd nm tm:BA)(vs hs:List BA)(sn:Int)(hd to:BA)(r:Rl)(no:Int)(a0 a1 a2:OA)(c0 c1 c2:Nat)(w:World) :
 Calls Tryz.prog 197 #[.agg ((⟨who,4,kd,nm,tm,vs,hs,sn,hd,to,r,no⟩:Ak).cells a0 a1 a2 c0 c1 c2)] w fun e w'=>e=.returned (.agg ((⟨ByteArray.empty,4,ByteArray.empty,ByteArray.empty,tm,vs,hs,sn,ByteArray.empty,to,r,no⟩:Ak).cells a0 a1 a2 c0 c1 c2))/\Bw w w':=by
 have HB:Hid (∀o1 o2,Bw w ((w.alloc o1).alloc o2)):=fun o1 o2=>zx w o1 o2
 unfold Ak.cells;dsimp only;go_enter Tryz.func197,Tryz.ntmps197;go_wp2_with fail
 refine bodyPost_ret (v:=.agg ((⟨ByteArray.empty,4,ByteArray.empty,ByteArray.empty,tm,vs,hs,sn,ByteArray.empty,to,r,no⟩:Ak).cells a0 a1 a2 c0 c1 c2)) (by simp[results,Tryz.results197,go_sem];rfl) rfl ⟨rfl,?_⟩;exact HB.o _ _
theorem zqV (who kd nm tm:BA)(vs hs:List BA)(sn:Int)(hd to:BA)(r:Rl)(no:Int)(a0 a1 a2:OA)(c0 c1 c2:Nat)(w:World) :
 Calls Tryz.prog 197 #[.agg ((⟨who,5,kd,nm,tm,vs,hs,sn,hd,to,r,no⟩:Ak).cells a0 a1 a2 c0 c1 c2)] w fun e w'=>e=.returned (.agg ((⟨ByteArray.empty,5,kd,nm,tm,vs,hs,sn,hd,ByteArray.empty,zgg,no⟩:Ak).cells a0 a1 none c0 c1 0))/\Bw w w':=by
 have HB:Hid (∀o1 o2,Bw w ((w.alloc o1).alloc o2)):=fun o1 o2=>zx w o1 o2
 unfold Ak.cells;dsimp only;go_enter Tryz.func197,Tryz.ntmps197;go_wp2_with fail
 refine bodyPost_ret (v:=.agg ((⟨ByteArray.empty,5,kd,nm,tm,vs,hs,sn,hd,ByteArray.empty,zgg,no⟩:Ak).cells a0 a1 none c0 c1 0)) (by simp[results,Tryz.results197,go_sem];rfl) rfl ⟨rfl,?_⟩;exact HB.o _ _
theorem zrp (who kd nm tm:BA)(vs hs:List BA)(sn:Int)(hd to:BA)(r:Rl)(no:Int)(a0 a1 a2:OA)(c0 c1 c2:Nat)(w:World) :
 Calls Tryz.prog 197 #[.agg ((⟨who,6,kd,nm,tm,vs,hs,sn,hd,to,r,no⟩:Ak).cells a0 a1 a2 c0 c1 c2)] w fun e w'=>e=.returned (.agg ((⟨ByteArray.empty,6,kd,nm,tm,vs,hs,sn,hd,to,r,0⟩:Ak).cells a0 a1 a2 c0 c1 c2))/\Bw w w':=by
 have HB:Hid (∀o1 o2,Bw w ((w.alloc o1).alloc o2)):=fun o1 o2=>zx w o1 o2
 unfold Ak.cells;dsimp only;go_enter Tryz.func197,Tryz.ntmps197;go_wp2_with fail
 refine bodyPost_ret (v:=.agg ((⟨ByteArray.empty,6,kd,nm,tm,vs,hs,sn,hd,to,r,0⟩:Ak).cells a0 a1 a2 c0 c1 c2)) (by simp[results,Tryz.results197,go_sem];rfl) rfl ⟨rfl,?_⟩;exact HB.o _ _
theorem zj5 {v:Int}(h:within v 1 6=true):v=1 \/ v=2 \/ v=3 \/ v=4 \/ v=5 \/ v=6:=by
 unfold within at h;simp at h;omega
theorem y9 (x:Ak)(a0 a1 a2:OA)(c0 c1 c2:Nat)(w:World)(hv:within x.vb 1 6=true) :
 Calls Tryz.prog 197 #[.agg (x.cells a0 a1 a2 c0 c1 c2)] w fun e w'=>∃y b0 b1 b2 d0 d1 d2,e=.returned (.agg (Ak.cells y b0 b1 b2 d0 d1 d2))/\unused y=unused (qE x)/\Bw w w':=by
 obtain⟨who,vb,kd,nm,tm,vs,hs,sn,hd,to,r,no⟩:=x
 rcases zj5 hv with e|e|e|e|e|e <;> (dsimp only at e;subst e)
 ·refine(zrs who kd nm tm vs hs sn hd to r no a0 a1 a2 c0 c1 c2 w).mono ?_
  rintro e w1⟨rfl,hb⟩;exact⟨_,none,none,a2,0,0,c2,rfl,rfl,hb⟩
 ·refine(zrG who kd nm tm vs hs sn hd to r no a0 a1 a2 c0 c1 c2 w).mono ?_
  rintro e w1⟨rfl,hb⟩;exact⟨_,none,a1,a2,0,c1,c2,rfl,rfl,hb⟩
 ·refine(zq4 who kd nm tm vs hs sn hd to r no a0 a1 a2 c0 c1 c2 w).mono ?_
  rintro e w1⟨rfl,hb⟩;exact⟨_,a0,a1,a2,c0,c1,c2,rfl,rfl,hb⟩
 ·refine(zrB who kd nm tm vs hs sn hd to r no a0 a1 a2 c0 c1 c2 w).mono ?_
  rintro e w1⟨rfl,hb⟩;exact⟨_,a0,a1,a2,c0,c1,c2,rfl,rfl,hb⟩
 ·refine(zqV who kd nm tm vs hs sn hd to r no a0 a1 a2 c0 c1 c2 w).mono ?_
  rintro e w1⟨rfl,hb⟩;exact⟨_,a0,a1,none,c0,c1,0,rfl,rfl,hb⟩
 ·refine(zrp who kd nm tm vs hs sn hd to r no a0 a1 a2 c0 c1 c2 w).mono ?_
  rintro e w1⟨rfl,hb⟩;exact⟨_,a0,a1,a2,c0,c1,c2,rfl,rfl,hb⟩
end Go.Proofs.YthdfpinbnncghaaGreat
