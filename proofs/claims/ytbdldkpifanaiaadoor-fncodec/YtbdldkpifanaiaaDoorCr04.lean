import Derived.Test.YtbdldkpifanaiaaDoorCr03
set_option maxHeartbeats 1600000
set_option linter.unusedVariables false
set_option linter.unusedSimpArgs false
namespace Go.Proofs.YtbdldkpifanaiaaDoor.Cd
open Go Go.RowKit Mem Syn
attribute [local go_sem ↓] Go.wp_at_zero Go.wp_at_succ
theorem zr {w:World} {p:Addr} {v:Value} (h:w.cell? p=some v) (o:Obj):(w.alloc o).cell? p=some v:=by
 rw[World.cell?_alloc_lt _ _ _ (World.block_lt_of_cell? w _ h)];exact h
def opT (k v x y z:Int):Int:=
 if k=1 then 1 else if k=3 then (if v<11 then 1 else 2)else if k=4∨k=5∨k=6 then 2
 else if k=7 then (if x=1 then 1 else 0)else if k=8 then (if x=2 then 2 else 0)
 else if k=10 then (if v=2 then (if x=2∧y=z then y else 0)else if x=1∧y=1 then 1 else 0)
 else if v=5 then (if x=y then 2 else 0)else if v=6∨v=7 then (if x=2∧y=2 then 2 else 0)
 else if x≠1∨y≠1 then 0 else if v=3∨v=4 then 2 else 1
theorem ot1 (v:Int) (nm:List UInt8) (a:Option Addr) (c:Nat) (x y z:Int) (w:World):
  Calls Tryd.prog 85 #[.agg #[.int .i64 1,.int .i64 v,.string ⟨nm.toArray⟩],.slice a 0 c] w fun e w'=>e=.returned (.int .i64 (opT 1 v x y z))∧Below w.heap.size w w':=by
 obtain⟨W1,hW1⟩:∃W1,W1=w.alloc (.cells #[.int .i64 1,.int .i64 v,.string ⟨nm.toArray⟩] 97):=⟨_,rfl⟩;have B1:Hid (Below w.heap.size w W1):=by rw[hW1];exact zf (Below.refl _ _) _
 have x0:W1.cell? ⟨w.heap.size,0,none⟩=some (.int .i64 1):=by rw[hW1];exact za (zi _ _) 0
 have x1:W1.cell? ⟨w.heap.size,1,none⟩=some (.int .i64 v):=by rw[hW1];exact za (zi _ _) 1
 go_enter Tryd.func85,Tryd.ntmps85;go_upto_region 1 with fail;rw[←hW1];clear hW1;go_wp2;go_ret;exact⟨rfl,B1.out⟩
theorem ot4 (v:Int) (nm:List UInt8) (a:Option Addr) (c:Nat) (x y z:Int) (w:World):
  Calls Tryd.prog 85 #[.agg #[.int .i64 4,.int .i64 v,.string ⟨nm.toArray⟩],.slice a 0 c] w fun e w'=>e=.returned (.int .i64 (opT 4 v x y z))∧Below w.heap.size w w':=by
 obtain⟨W1,hW1⟩:∃W1,W1=w.alloc (.cells #[.int .i64 4,.int .i64 v,.string ⟨nm.toArray⟩] 97):=⟨_,rfl⟩;have B1:Hid (Below w.heap.size w W1):=by rw[hW1];exact zf (Below.refl _ _) _
 have x0:W1.cell? ⟨w.heap.size,0,none⟩=some (.int .i64 4):=by rw[hW1];exact za (zi _ _) 0
 have x1:W1.cell? ⟨w.heap.size,1,none⟩=some (.int .i64 v):=by rw[hW1];exact za (zi _ _) 1
 go_enter Tryd.func85,Tryd.ntmps85;go_upto_region 1 with fail;rw[←hW1];clear hW1;go_wp2;go_ret;exact⟨rfl,B1.out⟩
theorem ot5 (v:Int) (nm:List UInt8) (a:Option Addr) (c:Nat) (x y z:Int) (w:World):
  Calls Tryd.prog 85 #[.agg #[.int .i64 5,.int .i64 v,.string ⟨nm.toArray⟩],.slice a 0 c] w fun e w'=>e=.returned (.int .i64 (opT 5 v x y z))∧Below w.heap.size w w':=by
 obtain⟨W1,hW1⟩:∃W1,W1=w.alloc (.cells #[.int .i64 5,.int .i64 v,.string ⟨nm.toArray⟩] 97):=⟨_,rfl⟩;have B1:Hid (Below w.heap.size w W1):=by rw[hW1];exact zf (Below.refl _ _) _
 have x0:W1.cell? ⟨w.heap.size,0,none⟩=some (.int .i64 5):=by rw[hW1];exact za (zi _ _) 0
 have x1:W1.cell? ⟨w.heap.size,1,none⟩=some (.int .i64 v):=by rw[hW1];exact za (zi _ _) 1
 go_enter Tryd.func85,Tryd.ntmps85;go_upto_region 1 with fail;rw[←hW1];clear hW1;go_wp2;go_ret;exact⟨rfl,B1.out⟩
theorem ot6 (v:Int) (nm:List UInt8) (a:Option Addr) (c:Nat) (x y z:Int) (w:World):
  Calls Tryd.prog 85 #[.agg #[.int .i64 6,.int .i64 v,.string ⟨nm.toArray⟩],.slice a 0 c] w fun e w'=>e=.returned (.int .i64 (opT 6 v x y z))∧Below w.heap.size w w':=by
 obtain⟨W1,hW1⟩:∃W1,W1=w.alloc (.cells #[.int .i64 6,.int .i64 v,.string ⟨nm.toArray⟩] 97):=⟨_,rfl⟩;have B1:Hid (Below w.heap.size w W1):=by rw[hW1];exact zf (Below.refl _ _) _
 have x0:W1.cell? ⟨w.heap.size,0,none⟩=some (.int .i64 6):=by rw[hW1];exact za (zi _ _) 0
 have x1:W1.cell? ⟨w.heap.size,1,none⟩=some (.int .i64 v):=by rw[hW1];exact za (zi _ _) 1
 go_enter Tryd.func85,Tryd.ntmps85;go_upto_region 1 with fail;rw[←hW1];clear hW1;go_wp2;go_ret;exact⟨rfl,B1.out⟩
theorem ot3 (v:Int) (nm:List UInt8) (a:Option Addr) (c:Nat) (x y z:Int) (w:World):
  Calls Tryd.prog 85 #[.agg #[.int .i64 3,.int .i64 v,.string ⟨nm.toArray⟩],.slice a 0 c] w fun e w'=>e=.returned (.int .i64 (opT 3 v x y z))∧Below w.heap.size w w':=by
 obtain⟨W1,hW1⟩:∃W1,W1=w.alloc (.cells #[.int .i64 3,.int .i64 v,.string ⟨nm.toArray⟩] 97):=⟨_,rfl⟩;have B1:Hid (Below w.heap.size w W1):=by rw[hW1];exact zf (Below.refl _ _) _
 have x0:W1.cell? ⟨w.heap.size,0,none⟩=some (.int .i64 3):=by rw[hW1];exact za (zi _ _) 0
 have x1:W1.cell? ⟨w.heap.size,1,none⟩=some (.int .i64 v):=by rw[hW1];exact za (zi _ _) 1
 by_cases h:v<11
 ·go_enter Tryd.func85,Tryd.ntmps85
  go_upto_region 1 with fail;rw[←hW1];clear hW1;go_wp2;go_ret;exact⟨zP (by simp[opT,h]),B1.out⟩
 ·have h':decide (v<11)=false:=by simpa using h
  go_enter Tryd.func85,Tryd.ntmps85;go_upto_region 1 with fail;rw[←hW1];clear hW1;go_wp2;go_ret;exact⟨zP (by simp[opT,h]),B1.out⟩
theorem ot7 (v:Int) (nm:List UInt8) (b off c:Nat) (x y z:Int) (w:World) (c0:w.cell? ⟨b,off,none⟩=some (.int .i64 x)):
  Calls Tryd.prog 85 #[.agg #[.int .i64 7,.int .i64 v,.string ⟨nm.toArray⟩],.slice (some ⟨b,off,none⟩) 1 c] w fun e w'=>e=.returned (.int .i64 (opT 7 v x y z))∧Below w.heap.size w w':=by
 obtain⟨W1,hW1⟩:∃W1,W1=w.alloc (.cells #[.int .i64 7,.int .i64 v,.string ⟨nm.toArray⟩] 97):=⟨_,rfl⟩;have B1:Hid (Below w.heap.size w W1):=by rw[hW1];exact zf (Below.refl _ _) _
 have x0:W1.cell? ⟨w.heap.size,0,none⟩=some (.int .i64 7):=by rw[hW1];exact za (zi _ _) 0
 have x1:W1.cell? ⟨w.heap.size,1,none⟩=some (.int .i64 v):=by rw[hW1];exact za (zi _ _) 1
 have y0:W1.cell? ⟨b,off,none⟩=some (.int .i64 x):=by rw[hW1];exact zr c0 _
 clear c0;by_cases hx1:x=1
 ·subst hx1
  go_enter Tryd.func85,Tryd.ntmps85;go_upto_region 1 with fail;rw[←hW1];clear hW1;go_wp2;go_ret;exact⟨rfl,B1.out⟩
 ·have fx1:(x==1)=false:=by simpa using hx1
  go_enter Tryd.func85,Tryd.ntmps85;go_upto_region 1 with fail;rw[←hW1];clear hW1;go_wp2;go_ret;exact⟨zP (by simp[opT,hx1]),B1.out⟩
theorem ot8 (v:Int) (nm:List UInt8) (b off c:Nat) (x y z:Int) (w:World) (c0:w.cell? ⟨b,off,none⟩=some (.int .i64 x)):
  Calls Tryd.prog 85 #[.agg #[.int .i64 8,.int .i64 v,.string ⟨nm.toArray⟩],.slice (some ⟨b,off,none⟩) 1 c] w fun e w'=>e=.returned (.int .i64 (opT 8 v x y z))∧Below w.heap.size w w':=by
 obtain⟨W1,hW1⟩:∃W1,W1=w.alloc (.cells #[.int .i64 8,.int .i64 v,.string ⟨nm.toArray⟩] 97):=⟨_,rfl⟩;have B1:Hid (Below w.heap.size w W1):=by rw[hW1];exact zf (Below.refl _ _) _
 have x0:W1.cell? ⟨w.heap.size,0,none⟩=some (.int .i64 8):=by rw[hW1];exact za (zi _ _) 0
 have x1:W1.cell? ⟨w.heap.size,1,none⟩=some (.int .i64 v):=by rw[hW1];exact za (zi _ _) 1
 have y0:W1.cell? ⟨b,off,none⟩=some (.int .i64 x):=by rw[hW1];exact zr c0 _
 clear c0;by_cases hx2:x=2
 ·subst hx2
  go_enter Tryd.func85,Tryd.ntmps85;go_upto_region 1 with fail;rw[←hW1];clear hW1;go_wp2;go_ret;exact⟨rfl,B1.out⟩
 ·have fx2:(x==2)=false:=by simpa using hx2
  go_enter Tryd.func85,Tryd.ntmps85;go_upto_region 1 with fail;rw[←hW1];clear hW1;go_wp2;go_ret;exact⟨zP (by simp[opT,hx2]),B1.out⟩
theorem ot10_0 (nm:List UInt8) (b off c:Nat) (x y z:Int) (w:World) (c0:w.cell? ⟨b,off,none⟩=some (.int .i64 x)) (c1:w.cell? ⟨b,off+1,none⟩=some (.int .i64 y)):
  Calls Tryd.prog 85 #[.agg #[.int .i64 10,.int .i64 0,.string ⟨nm.toArray⟩],.slice (some ⟨b,off,none⟩) 2 c] w fun e w'=>e=.returned (.int .i64 (opT 10 0 x y z))∧Below w.heap.size w w':=by
 obtain⟨W1,hW1⟩:∃W1,W1=w.alloc (.cells #[.int .i64 10,.int .i64 0,.string ⟨nm.toArray⟩] 97):=⟨_,rfl⟩;have B1:Hid (Below w.heap.size w W1):=by rw[hW1];exact zf (Below.refl _ _) _
 have x0:W1.cell? ⟨w.heap.size,0,none⟩=some (.int .i64 10):=by rw[hW1];exact za (zi _ _) 0
 have x1:W1.cell? ⟨w.heap.size,1,none⟩=some (.int .i64 0):=by rw[hW1];exact za (zi _ _) 1
 have y0:W1.cell? ⟨b,off,none⟩=some (.int .i64 x):=by rw[hW1];exact zr c0 _
 have y1:W1.cell? ⟨b,off+1,none⟩=some (.int .i64 y):=by rw[hW1];exact zr c1 _
 clear c0 c1;by_cases hx1:x=1
 ·subst hx1
  by_cases hy1:y=1
  ·subst hy1
   go_enter Tryd.func85,Tryd.ntmps85;go_upto_region 1 with fail;rw[←hW1];clear hW1;go_wp2;go_ret;exact⟨rfl,B1.out⟩
  ·have fy1:(y==1)=false:=by simpa using hy1
   go_enter Tryd.func85,Tryd.ntmps85;go_upto_region 1 with fail;rw[←hW1];clear hW1;go_wp2;go_ret;exact⟨zP (by simp[opT,hy1]),B1.out⟩
 ·have fx1:(x==1)=false:=by simpa using hx1
  go_enter Tryd.func85,Tryd.ntmps85;go_upto_region 1 with fail;rw[←hW1];clear hW1;go_wp2;go_ret;exact⟨zP (by simp[opT,hx1]),B1.out⟩
theorem ot10_1 (nm:List UInt8) (b off c:Nat) (x y z:Int) (w:World) (c0:w.cell? ⟨b,off,none⟩=some (.int .i64 x)) (c1:w.cell? ⟨b,off+1,none⟩=some (.int .i64 y)):
  Calls Tryd.prog 85 #[.agg #[.int .i64 10,.int .i64 1,.string ⟨nm.toArray⟩],.slice (some ⟨b,off,none⟩) 2 c] w fun e w'=>e=.returned (.int .i64 (opT 10 1 x y z))∧Below w.heap.size w w':=by
 obtain⟨W1,hW1⟩:∃W1,W1=w.alloc (.cells #[.int .i64 10,.int .i64 1,.string ⟨nm.toArray⟩] 97):=⟨_,rfl⟩;have B1:Hid (Below w.heap.size w W1):=by rw[hW1];exact zf (Below.refl _ _) _
 have x0:W1.cell? ⟨w.heap.size,0,none⟩=some (.int .i64 10):=by rw[hW1];exact za (zi _ _) 0
 have x1:W1.cell? ⟨w.heap.size,1,none⟩=some (.int .i64 1):=by rw[hW1];exact za (zi _ _) 1
 have y0:W1.cell? ⟨b,off,none⟩=some (.int .i64 x):=by rw[hW1];exact zr c0 _
 have y1:W1.cell? ⟨b,off+1,none⟩=some (.int .i64 y):=by rw[hW1];exact zr c1 _
 clear c0 c1;by_cases hx1:x=1
 ·subst hx1
  by_cases hy1:y=1
  ·subst hy1
   go_enter Tryd.func85,Tryd.ntmps85;go_upto_region 1 with fail;rw[←hW1];clear hW1;go_wp2;go_ret;exact⟨rfl,B1.out⟩
  ·have fy1:(y==1)=false:=by simpa using hy1
   go_enter Tryd.func85,Tryd.ntmps85;go_upto_region 1 with fail;rw[←hW1];clear hW1;go_wp2;go_ret;exact⟨zP (by simp[opT,hy1]),B1.out⟩
 ·have fx1:(x==1)=false:=by simpa using hx1
  go_enter Tryd.func85,Tryd.ntmps85;go_upto_region 1 with fail;rw[←hW1];clear hW1;go_wp2;go_ret;exact⟨zP (by simp[opT,hx1]),B1.out⟩
theorem ot10_2 (nm:List UInt8) (b off c:Nat) (x y z:Int) (w:World) (c0:w.cell? ⟨b,off,none⟩=some (.int .i64 x)) (c1:w.cell? ⟨b,off+1,none⟩=some (.int .i64 y)) (c2:w.cell? ⟨b,off+2,none⟩=some (.int .i64 z)):
  Calls Tryd.prog 85 #[.agg #[.int .i64 10,.int .i64 2,.string ⟨nm.toArray⟩],.slice (some ⟨b,off,none⟩) 3 c] w fun e w'=>e=.returned (.int .i64 (opT 10 2 x y z))∧Below w.heap.size w w':=by
 obtain⟨W1,hW1⟩:∃W1,W1=w.alloc (.cells #[.int .i64 10,.int .i64 2,.string ⟨nm.toArray⟩] 97):=⟨_,rfl⟩;have B1:Hid (Below w.heap.size w W1):=by rw[hW1];exact zf (Below.refl _ _) _
 have x0:W1.cell? ⟨w.heap.size,0,none⟩=some (.int .i64 10):=by rw[hW1];exact za (zi _ _) 0
 have x1:W1.cell? ⟨w.heap.size,1,none⟩=some (.int .i64 2):=by rw[hW1];exact za (zi _ _) 1
 have y0:W1.cell? ⟨b,off,none⟩=some (.int .i64 x):=by rw[hW1];exact zr c0 _
 have y1:W1.cell? ⟨b,off+1,none⟩=some (.int .i64 y):=by rw[hW1];exact zr c1 _
 have y2:W1.cell? ⟨b,off+2,none⟩=some (.int .i64 z):=by rw[hW1];exact zr c2 _
 clear c0 c1 c2;by_cases hx2:x=2
 ·subst hx2
  by_cases hyz:y=z
  ·subst hyz
   have f:(y==y)=true:=by simp
   go_enter Tryd.func85,Tryd.ntmps85;go_upto_region 1 with fail;rw[←hW1];clear hW1;go_wp2_with fail
   go_quiet (fail)
   go_wp2;go_ret;exact⟨zP (by simp[opT]),below_drewN' B1.out _⟩
  ·have f:(y==z)=false:=by simpa using hyz
   go_enter Tryd.func85,Tryd.ntmps85;go_upto_region 1 with fail;rw[←hW1];clear hW1;go_wp2_with fail
   go_quiet (fail)
   go_wp2;go_ret;exact⟨zP (by simp[opT,hyz]),below_drewN' B1.out _⟩
 ·have f:(x==2)=false:=by simpa using hx2
  go_enter Tryd.func85,Tryd.ntmps85;go_upto_region 1 with fail;rw[←hW1];clear hW1;go_wp2_with fail
  go_quiet (fail)
  go_wp2;go_ret;exact⟨zP (by simp[opT,hx2]),below_drewN' B1.out _⟩
theorem ot9_5 (nm:List UInt8) (b off c:Nat) (x y z:Int) (w:World) (c0:w.cell? ⟨b,off,none⟩=some (.int .i64 x)) (c1:w.cell? ⟨b,off+1,none⟩=some (.int .i64 y)):
  Calls Tryd.prog 85 #[.agg #[.int .i64 9,.int .i64 5,.string ⟨nm.toArray⟩],.slice (some ⟨b,off,none⟩) 2 c] w fun e w'=>e=.returned (.int .i64 (opT 9 5 x y z))∧Below w.heap.size w w':=by
 obtain⟨W1,hW1⟩:∃W1,W1=w.alloc (.cells #[.int .i64 9,.int .i64 5,.string ⟨nm.toArray⟩] 97):=⟨_,rfl⟩;have B1:Hid (Below w.heap.size w W1):=by rw[hW1];exact zf (Below.refl _ _) _
 have x0:W1.cell? ⟨w.heap.size,0,none⟩=some (.int .i64 9):=by rw[hW1];exact za (zi _ _) 0
 have x1:W1.cell? ⟨w.heap.size,1,none⟩=some (.int .i64 5):=by rw[hW1];exact za (zi _ _) 1
 have y0:W1.cell? ⟨b,off,none⟩=some (.int .i64 x):=by rw[hW1];exact zr c0 _
 have y1:W1.cell? ⟨b,off+1,none⟩=some (.int .i64 y):=by rw[hW1];exact zr c1 _
 clear c0 c1;by_cases hxy:x=y
 ·subst hxy
  have f:(x==x)=true:=by simp
  go_enter Tryd.func85,Tryd.ntmps85;go_upto_region 1 with fail;rw[←hW1];clear hW1;go_wp2_with fail
  go_quiet (fail)
  go_wp2;go_ret;exact⟨zP (by simp[opT]),below_drewN' B1.out _⟩
 ·have f:(x==y)=false:=by simpa using hxy
  go_enter Tryd.func85,Tryd.ntmps85;go_upto_region 1 with fail;rw[←hW1];clear hW1;go_wp2_with fail
  go_quiet (fail)
  go_wp2;go_ret;exact⟨zP (by simp[opT,hxy]),below_drewN' B1.out _⟩
theorem ot9_6 (nm:List UInt8) (b off c:Nat) (x y z:Int) (w:World) (c0:w.cell? ⟨b,off,none⟩=some (.int .i64 x)) (c1:w.cell? ⟨b,off+1,none⟩=some (.int .i64 y)):
  Calls Tryd.prog 85 #[.agg #[.int .i64 9,.int .i64 6,.string ⟨nm.toArray⟩],.slice (some ⟨b,off,none⟩) 2 c] w fun e w'=>e=.returned (.int .i64 (opT 9 6 x y z))∧Below w.heap.size w w':=by
 obtain⟨W1,hW1⟩:∃W1,W1=w.alloc (.cells #[.int .i64 9,.int .i64 6,.string ⟨nm.toArray⟩] 97):=⟨_,rfl⟩;have B1:Hid (Below w.heap.size w W1):=by rw[hW1];exact zf (Below.refl _ _) _
 have x0:W1.cell? ⟨w.heap.size,0,none⟩=some (.int .i64 9):=by rw[hW1];exact za (zi _ _) 0
 have x1:W1.cell? ⟨w.heap.size,1,none⟩=some (.int .i64 6):=by rw[hW1];exact za (zi _ _) 1
 have y0:W1.cell? ⟨b,off,none⟩=some (.int .i64 x):=by rw[hW1];exact zr c0 _
 have y1:W1.cell? ⟨b,off+1,none⟩=some (.int .i64 y):=by rw[hW1];exact zr c1 _
 clear c0 c1;by_cases hx2:x=2
 ·subst hx2
  by_cases hy2:y=2
  ·subst hy2
   go_enter Tryd.func85,Tryd.ntmps85;go_upto_region 1 with fail;rw[←hW1];clear hW1;go_wp2;go_ret;exact⟨rfl,B1.out⟩
  ·have fy2:(y==2)=false:=by simpa using hy2
   go_enter Tryd.func85,Tryd.ntmps85;go_upto_region 1 with fail;rw[←hW1];clear hW1;go_wp2;go_ret;exact⟨zP (by simp[opT,hy2]),B1.out⟩
 ·have fx2:(x==2)=false:=by simpa using hx2
  go_enter Tryd.func85,Tryd.ntmps85;go_upto_region 1 with fail;rw[←hW1];clear hW1;go_wp2;go_ret;exact⟨zP (by simp[opT,hx2]),B1.out⟩
theorem ot9_7 (nm:List UInt8) (b off c:Nat) (x y z:Int) (w:World) (c0:w.cell? ⟨b,off,none⟩=some (.int .i64 x)) (c1:w.cell? ⟨b,off+1,none⟩=some (.int .i64 y)):
  Calls Tryd.prog 85 #[.agg #[.int .i64 9,.int .i64 7,.string ⟨nm.toArray⟩],.slice (some ⟨b,off,none⟩) 2 c] w fun e w'=>e=.returned (.int .i64 (opT 9 7 x y z))∧Below w.heap.size w w':=by
 obtain⟨W1,hW1⟩:∃W1,W1=w.alloc (.cells #[.int .i64 9,.int .i64 7,.string ⟨nm.toArray⟩] 97):=⟨_,rfl⟩;have B1:Hid (Below w.heap.size w W1):=by rw[hW1];exact zf (Below.refl _ _) _
 have x0:W1.cell? ⟨w.heap.size,0,none⟩=some (.int .i64 9):=by rw[hW1];exact za (zi _ _) 0
 have x1:W1.cell? ⟨w.heap.size,1,none⟩=some (.int .i64 7):=by rw[hW1];exact za (zi _ _) 1
 have y0:W1.cell? ⟨b,off,none⟩=some (.int .i64 x):=by rw[hW1];exact zr c0 _
 have y1:W1.cell? ⟨b,off+1,none⟩=some (.int .i64 y):=by rw[hW1];exact zr c1 _
 clear c0 c1;by_cases hx2:x=2
 ·subst hx2
  by_cases hy2:y=2
  ·subst hy2
   go_enter Tryd.func85,Tryd.ntmps85;go_upto_region 1 with fail;rw[←hW1];clear hW1;go_wp2;go_ret;exact⟨rfl,B1.out⟩
  ·have fy2:(y==2)=false:=by simpa using hy2
   go_enter Tryd.func85,Tryd.ntmps85;go_upto_region 1 with fail;rw[←hW1];clear hW1;go_wp2;go_ret;exact⟨zP (by simp[opT,hy2]),B1.out⟩
 ·have fx2:(x==2)=false:=by simpa using hx2
  go_enter Tryd.func85,Tryd.ntmps85;go_upto_region 1 with fail;rw[←hW1];clear hW1;go_wp2;go_ret;exact⟨zP (by simp[opT,hx2]),B1.out⟩
theorem ot9_0 (nm:List UInt8) (b off c:Nat) (x y z:Int) (w:World) (c0:w.cell? ⟨b,off,none⟩=some (.int .i64 x)) (c1:w.cell? ⟨b,off+1,none⟩=some (.int .i64 y)):
  Calls Tryd.prog 85 #[.agg #[.int .i64 9,.int .i64 0,.string ⟨nm.toArray⟩],.slice (some ⟨b,off,none⟩) 2 c] w fun e w'=>e=.returned (.int .i64 (opT 9 0 x y z))∧Below w.heap.size w w':=by
 obtain⟨W1,hW1⟩:∃W1,W1=w.alloc (.cells #[.int .i64 9,.int .i64 0,.string ⟨nm.toArray⟩] 97):=⟨_,rfl⟩;have B1:Hid (Below w.heap.size w W1):=by rw[hW1];exact zf (Below.refl _ _) _
 have x0:W1.cell? ⟨w.heap.size,0,none⟩=some (.int .i64 9):=by rw[hW1];exact za (zi _ _) 0
 have x1:W1.cell? ⟨w.heap.size,1,none⟩=some (.int .i64 0):=by rw[hW1];exact za (zi _ _) 1
 have y0:W1.cell? ⟨b,off,none⟩=some (.int .i64 x):=by rw[hW1];exact zr c0 _
 have y1:W1.cell? ⟨b,off+1,none⟩=some (.int .i64 y):=by rw[hW1];exact zr c1 _
 clear c0 c1;by_cases hx1:x=1
 ·subst hx1
  have fx:((1:Int)!=1)=false:=rfl;by_cases hy1:y=1
  ·subst hy1
   go_enter Tryd.func85,Tryd.ntmps85;go_upto_region 1 with fail;rw[←hW1];clear hW1;go_wp2;go_ret;exact⟨rfl,B1.out⟩
  ·have fy:(y !=1)=true:=by simpa using hy1
   go_enter Tryd.func85,Tryd.ntmps85;go_upto_region 1 with fail;rw[←hW1];clear hW1;go_wp2;go_ret;exact⟨zP (by simp[opT,hy1]),B1.out⟩
 ·have fx:(x !=1)=true:=by simpa using hx1
  go_enter Tryd.func85,Tryd.ntmps85;go_upto_region 1 with fail;rw[←hW1];clear hW1;go_wp2;go_ret;exact⟨zP (by simp[opT,hx1]),B1.out⟩
theorem ot9_1 (nm:List UInt8) (b off c:Nat) (x y z:Int) (w:World) (c0:w.cell? ⟨b,off,none⟩=some (.int .i64 x)) (c1:w.cell? ⟨b,off+1,none⟩=some (.int .i64 y)):
  Calls Tryd.prog 85 #[.agg #[.int .i64 9,.int .i64 1,.string ⟨nm.toArray⟩],.slice (some ⟨b,off,none⟩) 2 c] w fun e w'=>e=.returned (.int .i64 (opT 9 1 x y z))∧Below w.heap.size w w':=by
 obtain⟨W1,hW1⟩:∃W1,W1=w.alloc (.cells #[.int .i64 9,.int .i64 1,.string ⟨nm.toArray⟩] 97):=⟨_,rfl⟩;have B1:Hid (Below w.heap.size w W1):=by rw[hW1];exact zf (Below.refl _ _) _
 have x0:W1.cell? ⟨w.heap.size,0,none⟩=some (.int .i64 9):=by rw[hW1];exact za (zi _ _) 0
 have x1:W1.cell? ⟨w.heap.size,1,none⟩=some (.int .i64 1):=by rw[hW1];exact za (zi _ _) 1
 have y0:W1.cell? ⟨b,off,none⟩=some (.int .i64 x):=by rw[hW1];exact zr c0 _
 have y1:W1.cell? ⟨b,off+1,none⟩=some (.int .i64 y):=by rw[hW1];exact zr c1 _
 clear c0 c1;by_cases hx1:x=1
 ·subst hx1
  have fx:((1:Int)!=1)=false:=rfl;by_cases hy1:y=1
  ·subst hy1
   go_enter Tryd.func85,Tryd.ntmps85;go_upto_region 1 with fail;rw[←hW1];clear hW1;go_wp2;go_ret;exact⟨rfl,B1.out⟩
  ·have fy:(y !=1)=true:=by simpa using hy1
   go_enter Tryd.func85,Tryd.ntmps85;go_upto_region 1 with fail;rw[←hW1];clear hW1;go_wp2;go_ret;exact⟨zP (by simp[opT,hy1]),B1.out⟩
 ·have fx:(x !=1)=true:=by simpa using hx1
  go_enter Tryd.func85,Tryd.ntmps85;go_upto_region 1 with fail;rw[←hW1];clear hW1;go_wp2;go_ret;exact⟨zP (by simp[opT,hx1]),B1.out⟩
theorem ot9_2 (nm:List UInt8) (b off c:Nat) (x y z:Int) (w:World) (c0:w.cell? ⟨b,off,none⟩=some (.int .i64 x)) (c1:w.cell? ⟨b,off+1,none⟩=some (.int .i64 y)):
  Calls Tryd.prog 85 #[.agg #[.int .i64 9,.int .i64 2,.string ⟨nm.toArray⟩],.slice (some ⟨b,off,none⟩) 2 c] w fun e w'=>e=.returned (.int .i64 (opT 9 2 x y z))∧Below w.heap.size w w':=by
 obtain⟨W1,hW1⟩:∃W1,W1=w.alloc (.cells #[.int .i64 9,.int .i64 2,.string ⟨nm.toArray⟩] 97):=⟨_,rfl⟩;have B1:Hid (Below w.heap.size w W1):=by rw[hW1];exact zf (Below.refl _ _) _
 have x0:W1.cell? ⟨w.heap.size,0,none⟩=some (.int .i64 9):=by rw[hW1];exact za (zi _ _) 0
 have x1:W1.cell? ⟨w.heap.size,1,none⟩=some (.int .i64 2):=by rw[hW1];exact za (zi _ _) 1
 have y0:W1.cell? ⟨b,off,none⟩=some (.int .i64 x):=by rw[hW1];exact zr c0 _
 have y1:W1.cell? ⟨b,off+1,none⟩=some (.int .i64 y):=by rw[hW1];exact zr c1 _
 clear c0 c1;by_cases hx1:x=1
 ·subst hx1
  have fx:((1:Int)!=1)=false:=rfl;by_cases hy1:y=1
  ·subst hy1
   go_enter Tryd.func85,Tryd.ntmps85;go_upto_region 1 with fail;rw[←hW1];clear hW1;go_wp2;go_ret;exact⟨rfl,B1.out⟩
  ·have fy:(y !=1)=true:=by simpa using hy1
   go_enter Tryd.func85,Tryd.ntmps85;go_upto_region 1 with fail;rw[←hW1];clear hW1;go_wp2;go_ret;exact⟨zP (by simp[opT,hy1]),B1.out⟩
 ·have fx:(x !=1)=true:=by simpa using hx1
  go_enter Tryd.func85,Tryd.ntmps85;go_upto_region 1 with fail;rw[←hW1];clear hW1;go_wp2;go_ret;exact⟨zP (by simp[opT,hx1]),B1.out⟩
theorem ot9_3 (nm:List UInt8) (b off c:Nat) (x y z:Int) (w:World) (c0:w.cell? ⟨b,off,none⟩=some (.int .i64 x)) (c1:w.cell? ⟨b,off+1,none⟩=some (.int .i64 y)):
  Calls Tryd.prog 85 #[.agg #[.int .i64 9,.int .i64 3,.string ⟨nm.toArray⟩],.slice (some ⟨b,off,none⟩) 2 c] w fun e w'=>e=.returned (.int .i64 (opT 9 3 x y z))∧Below w.heap.size w w':=by
 obtain⟨W1,hW1⟩:∃W1,W1=w.alloc (.cells #[.int .i64 9,.int .i64 3,.string ⟨nm.toArray⟩] 97):=⟨_,rfl⟩;have B1:Hid (Below w.heap.size w W1):=by rw[hW1];exact zf (Below.refl _ _) _
 have x0:W1.cell? ⟨w.heap.size,0,none⟩=some (.int .i64 9):=by rw[hW1];exact za (zi _ _) 0
 have x1:W1.cell? ⟨w.heap.size,1,none⟩=some (.int .i64 3):=by rw[hW1];exact za (zi _ _) 1
 have y0:W1.cell? ⟨b,off,none⟩=some (.int .i64 x):=by rw[hW1];exact zr c0 _
 have y1:W1.cell? ⟨b,off+1,none⟩=some (.int .i64 y):=by rw[hW1];exact zr c1 _
 clear c0 c1;by_cases hx1:x=1
 ·subst hx1
  have fx:((1:Int)!=1)=false:=rfl;by_cases hy1:y=1
  ·subst hy1
   go_enter Tryd.func85,Tryd.ntmps85;go_upto_region 1 with fail;rw[←hW1];clear hW1;go_wp2;go_ret;exact⟨rfl,B1.out⟩
  ·have fy:(y !=1)=true:=by simpa using hy1
   go_enter Tryd.func85,Tryd.ntmps85;go_upto_region 1 with fail;rw[←hW1];clear hW1;go_wp2;go_ret;exact⟨zP (by simp[opT,hy1]),B1.out⟩
 ·have fx:(x !=1)=true:=by simpa using hx1
  go_enter Tryd.func85,Tryd.ntmps85;go_upto_region 1 with fail;rw[←hW1];clear hW1;go_wp2;go_ret;exact⟨zP (by simp[opT,hx1]),B1.out⟩
theorem ot9_4 (nm:List UInt8) (b off c:Nat) (x y z:Int) (w:World) (c0:w.cell? ⟨b,off,none⟩=some (.int .i64 x)) (c1:w.cell? ⟨b,off+1,none⟩=some (.int .i64 y)):
  Calls Tryd.prog 85 #[.agg #[.int .i64 9,.int .i64 4,.string ⟨nm.toArray⟩],.slice (some ⟨b,off,none⟩) 2 c] w fun e w'=>e=.returned (.int .i64 (opT 9 4 x y z))∧Below w.heap.size w w':=by
 obtain⟨W1,hW1⟩:∃W1,W1=w.alloc (.cells #[.int .i64 9,.int .i64 4,.string ⟨nm.toArray⟩] 97):=⟨_,rfl⟩;have B1:Hid (Below w.heap.size w W1):=by rw[hW1];exact zf (Below.refl _ _) _
 have x0:W1.cell? ⟨w.heap.size,0,none⟩=some (.int .i64 9):=by rw[hW1];exact za (zi _ _) 0
 have x1:W1.cell? ⟨w.heap.size,1,none⟩=some (.int .i64 4):=by rw[hW1];exact za (zi _ _) 1
 have y0:W1.cell? ⟨b,off,none⟩=some (.int .i64 x):=by rw[hW1];exact zr c0 _
 have y1:W1.cell? ⟨b,off+1,none⟩=some (.int .i64 y):=by rw[hW1];exact zr c1 _
 clear c0 c1;by_cases hx1:x=1
 ·subst hx1
  have fx:((1:Int)!=1)=false:=rfl;by_cases hy1:y=1
  ·subst hy1
   go_enter Tryd.func85,Tryd.ntmps85;go_upto_region 1 with fail;rw[←hW1];clear hW1;go_wp2;go_ret;exact⟨rfl,B1.out⟩
  ·have fy:(y !=1)=true:=by simpa using hy1
   go_enter Tryd.func85,Tryd.ntmps85;go_upto_region 1 with fail;rw[←hW1];clear hW1;go_wp2;go_ret;exact⟨zP (by simp[opT,hy1]),B1.out⟩
 ·have fx:(x !=1)=true:=by simpa using hx1
  go_enter Tryd.func85,Tryd.ntmps85;go_upto_region 1 with fail;rw[←hW1];clear hW1;go_wp2;go_ret;exact⟨zP (by simp[opT,hx1]),B1.out⟩
theorem U8 (o:Po) (a:Option Addr) (n c:Nat) (A:Nat→Int) (w:World) (hs:zq w a n 1 (fun i=>[.int .i64 (A i)])) (h2:o.k≠2) (hb:opB o=true) (hn:n=ar o):
  Calls Tryd.prog 85 #[.agg #[.int .i64 o.k,.int .i64 o.v,.string ⟨o.n.toArray⟩],.slice a n c] w fun e w'=>e=.returned (.int .i64 (opT o.k o.v (A 0) (A 1) (A 2)))∧Below w.heap.size w w':=by
 obtain⟨k1,k2,v1,v2⟩:=Wq hb;obtain⟨k,v,nm⟩:=o;dsimp only at k1 k2 v1 v2 h2 ⊢
 have HC:∀m,m<n→∃b off,a=some ⟨b,off,none⟩∧∀i,i≤m→w.cell? ⟨b,off+i,none⟩=some (.int .i64 (A i)):=by
  intro m hm;rcases hs with h0|⟨b,off,h1,h0⟩
  ·omega
  ·refine⟨b,off,h1,fun i hi=>?_⟩
   have:=h0 i (by omega) 0 _ rfl;rw[Nat.mul_one]at this;exact this
 clear hb hs;have:k=1∨k=3∨k=4∨k=5∨k=6∨k=7∨k=8∨k=9∨k=10:=by omega
 rcases this with rfl|rfl|rfl|rfl|rfl|rfl|rfl|rfl|rfl
 ·subst hn;exact ot1 v nm a c _ _ _ w
 ·subst hn;exact ot3 v nm a c _ _ _ w
 ·subst hn;exact ot4 v nm a c _ _ _ w
 ·subst hn;exact ot5 v nm a c _ _ _ w
 ·subst hn;exact ot6 v nm a c _ _ _ w
 ·subst hn
  obtain⟨b,off,rfl,h⟩:=HC 0 (by simp[ar]);exact ot7 v nm b off c _ _ _ w (h 0 (by omega))
 ·subst hn
  obtain⟨b,off,rfl,h⟩:=HC 0 (by simp[ar]);exact ot8 v nm b off c _ _ _ w (h 0 (by omega))
 ·subst hn
  obtain⟨b,off,rfl,h⟩:=HC 1 (by simp[ar]);have h0:=h 0 (by omega);have h1:=h 1 (by omega);have:v=0∨v=1∨v=2∨v=3∨v=4∨v=5∨v=6∨v=7:=by simp[Zn]at v2;omega
  rcases this with rfl|rfl|rfl|rfl|rfl|rfl|rfl|rfl
  ·exact ot9_0 nm b off c _ _ _ w h0 h1
  ·exact ot9_1 nm b off c _ _ _ w h0 h1
  ·exact ot9_2 nm b off c _ _ _ w h0 h1
  ·exact ot9_3 nm b off c _ _ _ w h0 h1
  ·exact ot9_4 nm b off c _ _ _ w h0 h1
  ·exact ot9_5 nm b off c _ _ _ w h0 h1
  ·exact ot9_6 nm b off c _ _ _ w h0 h1
  ·exact ot9_7 nm b off c _ _ _ w h0 h1
 ·subst hn
  have:v=0∨v=1∨v=2:=by simp[Zn]at v2;omega
  rcases this with rfl|rfl|rfl
  ·obtain⟨b,off,rfl,h⟩:=HC 1 (by simp[ar])
   exact ot10_0 nm b off c _ _ _ w (h 0 (by omega)) (h 1 (by omega))
  ·obtain⟨b,off,rfl,h⟩:=HC 1 (by simp[ar])
   exact ot10_1 nm b off c _ _ _ w (h 0 (by omega)) (h 1 (by omega))
  ·obtain⟨b,off,rfl,h⟩:=HC 2 (by simp[ar])
   exact ot10_2 nm b off c _ _ _ w (h 0 (by omega)) (h 1 (by omega)) (h 2 (by omega))
end Go.Proofs.YtbdldkpifanaiaaDoor.Cd
