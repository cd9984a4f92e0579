import Derived.Test.YtbdldkpifanaiaaDoorCr11
set_option maxHeartbeats 4000000
set_option linter.unusedVariables false
namespace Go.Proofs.YtbdldkpifanaiaaDoor.ValCS
open Go Go.RowKit Go.Sort Mem ValC
attribute [local go_sem ↓] Go.wp_at_zero Go.wp_at_succ
theorem inS (x lo hi:Int) (w:World):Calls Tryd.prog 14 #[.int .i64 x,.int .i64 lo,.int .i64 hi] w fun e w'=>e=.returned (.bool (inB x lo hi))∧w'=w:=by
 by_cases h1:lo≤x
 ·go_enter Tryd.func14,Tryd.ntmps14
  go_wp2;go_ret;exact⟨zR (by simp[inB,h1]),rfl⟩
 ·have hd:decide (lo≤x)=false:=by simpa using h1
  go_enter Tryd.func14,Tryd.ntmps14;go_wp2;go_ret;exact⟨zR (by simp[inB];omega),rfl⟩
theorem Tj (C:Co) (a1 a2 a3:Option Addr) (c1 c2 c3:Nat) (k n p a b c:Int) (w:World) (hR0:13≤C.R) (hR1:C.R≤1000) (hS0:0≤C.S) (hS1:C.S≤100) (hk0:0≤k) (hk1:k≤1048576) (hp:p=1∨p=2∨p=3∨p=4∨p=5∨p=6∨p=7∨p=8∨p=9∨p=10∨p=11∨p=12∨p=13∨p=14∨p=15∨p=16∨p=17∨p=18∨p=19∨p=20):
  Calls Tryd.prog 30 #[.agg #[.int .i64 C.R,.int .i64 C.S,.slice a1 C.n1 c1,.slice a2 C.n2 c2,.slice a3 C.n3 c3],.agg #[.int .i64 p,.int .i64 a,.int .i64 b,.int .i64 c],.int .i64 k,.int .i64 n] w fun e w'=>e=.returned (.bool (okS C.R C.S k n ⟨p,a,b,c⟩))∧Below w.heap.size w w':=by
 by_cases hc:c=0
 ·subst hc
  rcases hp with rfl|rfl|rfl|rfl|rfl|rfl|rfl|rfl|rfl|rfl|rfl|rfl|rfl|rfl|rfl|rfl|rfl|rfl|rfl|rfl
  all_goals
   go_enter Tryd.func30,Tryd.ntmps30;go_wp2_with (go_at_call 14;refine(inS _ _ _ _).mono ?_;rintro e w' ⟨rfl,rfl⟩)
  all_goals (go_ret;refine⟨zR ?_,?_⟩)
  all_goals first|(go_grown;done)|(simp[okS, *];done)
 ·have hc':(c !=0)=true:=by simpa using hc
  rcases hp with rfl|rfl|rfl|rfl|rfl|rfl|rfl|rfl|rfl|rfl|rfl|rfl|rfl|rfl|rfl|rfl|rfl|rfl|rfl|rfl
  all_goals
   go_enter Tryd.func30,Tryd.ntmps30;go_wp2_with (go_at_call 14;refine(inS _ _ _ _).mono ?_;rintro e w' ⟨rfl,rfl⟩)
  all_goals (go_ret;refine⟨zR ?_,?_⟩)
  all_goals first|(go_grown;done)|(simp[okS, *];done)
theorem Th (C:Co) (a1 a2 a3:Option Addr) (c1 c2 c3:Nat) (k n p a b c:Int) (w:World) (hR0:13≤C.R) (hR1:C.R≤1000) (hp:p<1∨20<p):
  Calls Tryd.prog 30 #[.agg #[.int .i64 C.R,.int .i64 C.S,.slice a1 C.n1 c1,.slice a2 C.n2 c2,.slice a3 C.n3 c3],.agg #[.int .i64 p,.int .i64 a,.int .i64 b,.int .i64 c],.int .i64 k,.int .i64 n] w fun e w'=>e=.returned (.bool false)∧Below w.heap.size w w':=by
 have e1:(p==1)=false:=by simp;omega
 have e2:(p==2)=false:=by simp;omega
 have e3:(p==3)=false:=by simp;omega
 have e4:(p==4)=false:=by simp;omega
 have e5:(p==5)=false:=by simp;omega
 have e6:(p==6)=false:=by simp;omega
 have e7:(p==7)=false:=by simp;omega
 have e8:(p==8)=false:=by simp;omega
 have e9:(p==9)=false:=by simp;omega
 have e10:(p==10)=false:=by simp;omega
 have e11:(p==11)=false:=by simp;omega
 have e12:(p==12)=false:=by simp;omega
 have e13:(p==13)=false:=by simp;omega
 have e14:(p==14)=false:=by simp;omega
 have e15:(p==15)=false:=by simp;omega
 have e16:(p==16)=false:=by simp;omega
 have e17:(p==17)=false:=by simp;omega
 have e18:(p==18)=false:=by simp;omega
 have e19:(p==19)=false:=by simp;omega
 have e20:(p==20)=false:=by simp;omega
 rcases hp with hp|hp
 ·have q5:decide ((5:Int)≤p)=false:=by simp;omega
  go_enter Tryd.func30,Tryd.ntmps30;go_wp2_with (go_at_call 14;refine(inS _ _ _ _).mono ?_;rintro e w' ⟨rfl,rfl⟩)
  all_goals (go_ret;exact⟨rfl,by go_grown⟩)
 ·have q5:(5:Int)≤p:=by omega
  have q6:decide (p≤(12:Int))=false:=by simp;omega
  go_enter Tryd.func30,Tryd.ntmps30;go_wp2_with (go_at_call 14;refine(inS _ _ _ _).mono ?_;rintro e w' ⟨rfl,rfl⟩)
  all_goals (go_ret;exact⟨rfl,by go_grown⟩)
theorem goodS (C:Co) (a1 a2 a3:Option Addr) (c1 c2 c3:Nat) (k n:Int) (x:Is) (w:World) (hR0:13≤C.R) (hR1:C.R≤1000) (hS0:0≤C.S) (hS1:C.S≤100) (hk0:0≤k) (hk1:k≤1048576):
  Calls Tryd.prog 30 #[.agg #[.int .i64 C.R,.int .i64 C.S,.slice a1 C.n1 c1,.slice a2 C.n2 c2,.slice a3 C.n3 c3],.agg #[.int .i64 x.p,.int .i64 x.a,.int .i64 x.b,.int .i64 x.c],.int .i64 k,.int .i64 n] w fun e w'=>e=.returned (.bool (okI C.R C.S k n x))∧Below w.heap.size w w':=by
 by_cases hp:1≤x.p∧x.p≤20
 ·rw[←ok_eq]
  exact Tj C a1 a2 a3 c1 c2 c3 k n x.p x.a x.b x.c w hR0 hR1 hS0 hS1 hk0 hk1 (by omega)
 ·have:okI C.R C.S k n x=false:=by simp[okI,inB];omega
  rw[this];exact Th C a1 a2 a3 c1 c2 c3 k n x.p x.a x.b x.c w hR0 hR1 (by omega)
theorem Z5 {R S:Int} {n k:Nat} {B:Nat→Is} (hk:k<n) (h:okI R S k n (B k)=false):yE R S n B=false:=by
 simp[yE,xC (f:=fun i=>okI R S i n (B i)) hk h]
end Go.Proofs.YtbdldkpifanaiaaDoor.ValCS
