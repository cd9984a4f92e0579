import Derived.Test.YtbdldkpifanaiaaDoorCr07
set_option maxHeartbeats 3200000
set_option maxRecDepth 100000
set_option linter.unusedVariables false
set_option linter.unusedSimpArgs false
open List renaming getElem?_toArray → qk, getElem?_cons_zero → ql, getElem?_cons_succ → qm
namespace Go.Proofs.YtbdldkpifanaiaaDoor.Syn
open Go Go.RowKit Mem
attribute [local go_sem ↓] Go.wp_at_zero Go.wp_at_succ
theorem yS (E:Nat→Po) (a:Option Addr) (n cap:Nat) (w:World) (hs:zq w a n 3 (fun i=>(E i).cells)) (hn:n≤1000000):
  Calls Tryd.prog 83 #[.slice a n cap] w fun e w'=>e=.returned (.bool (xo E n))∧Below w.heap.size w w':=by
 go_enter Tryd.func83,Tryd.ntmps83;go_wp2_with fail;refine(foldS E a n cap _ hs hn).mono ?_;rintro e w1 (⟨t,rfl,hst,hb⟩|⟨rfl,hst,hb⟩)
 ·have HB:=Hm hb
  have hv:Hid (xo E n=decide (t.nst≤64)):=by unfold Hid xo;rw[hst]
  clear hb hst hs;go_wp2;go_ret;rw[hv.out];exact⟨rfl,zf HB.out _⟩
 ·have HB:=Hm hb
  have hv:Hid (xo E n=false):=by
   unfold Hid xo
   split
   ·rename_i t h;exact absurd h (hst t)
   ·rfl
  clear hb hst hs;go_wp2;go_ret;rw[hv.out];exact⟨rfl,zf HB.out _⟩
def heB (k:Int):Bool:=k !=6&&k !=7
theorem zK (k:Int) (w:World):Calls Tryd.prog 59 #[.int .i64 k] w fun e w'=>e=.returned (.bool (heB k))∧w'=w:=by
 cases h:(k !=6)with
 |true=>
  go_enter Tryd.func59,Tryd.ntmps59;go_wp2;go_ret;exact⟨zH (by simp[heB,h]),rfl⟩
 |false=>
  go_enter Tryd.func59,Tryd.ntmps59;go_wp2;go_ret;exact⟨zH (by simp[heB,h]),rfl⟩
theorem zD (n:List UInt8):n.isEmpty=(n==[]):=by cases n<;>rfl
theorem good1 (n:List UInt8) (nE nF:Nat) (E F:Nat→Po) (K lo hi:Int) (aE aF:Option Addr) (cE cF:Nat) (w:World) (hE:zq w aE nE 3 (fun j=>(E j).cells)) (hF:zq w aF nF 3 (fun j=>(F j).cells)) (hnE:nE≤1000000) (hnF:nF≤1000000):
  Calls Tryd.prog 69 #[.agg #[.int .i64 1,.string ⟨n.toArray⟩,.slice aE nE cE,.slice aF nF cF,.int .i64 K,.int .i64 lo,.int .i64 hi]] w fun e w'=>e=.returned (.bool (itB ⟨1,n,nE,nF,E,F,K,lo,hi⟩))∧Below w.heap.size w w':=by
 have hv:Hid (itB ⟨1,n,nE,nF,E,F,K,lo,hi⟩=(nmB n true&&(exB E nE true&&(exB F nF false&&(yc K 0&&(yc lo 0&&yc hi 0)))))):=rfl;have HE:=Hm hE;have HF:=Hm hF;clear hE hF;have t0:inR 1 1 9=true:=by decide
 have t1:heB 1=true:=by decide
 have hB:=Hm (zf (Below.refl w.heap.size w) (.cells #[.int .i64 1,.string ⟨n.toArray⟩,.slice aE nE cE,.slice aF nF cF,.int .i64 K,.int .i64 lo,.int .i64 hi] 77));obtain⟨B,hBe⟩:∃B,B=itB ⟨1,n,nE,nF,E,F,K,lo,hi⟩:=⟨_,rfl⟩;rw[←hBe]at hv;rw[←hBe];clear hBe
 cases hN:xl n with
 |false=>
  go_enter Tryd.func69,Tryd.ntmps69;go_wp2_with (first|(go_at_call 14;refine(yd _ _ _ _).mono ?_;rintro e w' ⟨rfl,hw⟩;rw[hw];clear hw)|(go_at_call 82;refine(zC n _).mono ?_;rintro e w' ⟨rfl,hw⟩;rw[hw];clear hw)|(go_at_call 59;refine(zK _ _).mono ?_;rintro e w' ⟨rfl,hw⟩;rw[hw];clear hw));go_ret;rw[hv.out];exact⟨zH (by simp[nmB,hN]),hB.out⟩
 |true=>
  go_enter Tryd.func69,Tryd.ntmps69;go_wp2_with (first|(go_at_call 14;refine(yd _ _ _ _).mono ?_;rintro e w' ⟨rfl,hw⟩;rw[hw];clear hw)|(go_at_call 82;refine(zC n _).mono ?_;rintro e w' ⟨rfl,hw⟩;rw[hw];clear hw)|(go_at_call 59;refine(zK _ _).mono ?_;rintro e w' ⟨rfl,hw⟩;rw[hw];clear hw));refine(yS E _ _ _ _ (HE.out.below hB.out) hnE).mono ?_;rintro e w1 ⟨rfl,hb1⟩;have B1:=Hm (zg hB.out hb1);have A1:=Hm (ze (zi w _) hb1);clear hb1 hB
  cases hx:xo E nE with
  |false=>
   go_wp2;go_ret;rw[hv.out];exact⟨zH (by simp[nmB,hN,exB,hx]),B1.out⟩
  |true=>
   cases hy:((nF:Int)==0)with
   |false=>
    have hy1:(0:Int)<(nF:Int):=by simp at hy;omega
    have hy3:0<nF:=by omega
    have hy2:(nF==0)=false:=by simp at hy ⊢;omega
    have x3:=za A1.out 3;have x4:=za A1.out 4;have x5:=za A1.out 5;have x6:=za A1.out 6;simp only[qk,ql,qm]at x3 x4 x5 x6;go_wp2_with (first|(go_at_call 14;refine(yd _ _ _ _).mono ?_;rintro e w' ⟨rfl,hw⟩;rw[hw];clear hw)|(go_at_call 82;refine(zC n _).mono ?_;rintro e w' ⟨rfl,hw⟩;rw[hw];clear hw)|(go_at_call 59;refine(zK _ _).mono ?_;rintro e w' ⟨rfl,hw⟩;rw[hw];clear hw));go_ret;rw[hv.out];exact⟨zH (by simp[nmB,hN,exB,hx,hy2]),B1.out⟩
   |true=>
    have hy0:nF=0:=by simpa using hy
    have hy1:decide ((0:Int)<(nF:Int))=false:=by simp;omega
    have hy3:decide (0<nF)=false:=by simp;omega
    have hy2:(nF==0)=true:=by simp[hy0]
    clear hy hy0
    cases h1:(K==0)with
    |false=>
     have x3:=za A1.out 3;have x4:=za A1.out 4;have x5:=za A1.out 5;have x6:=za A1.out 6;simp only[qk,ql,qm]at x3 x4 x5 x6;go_wp2_with (first|(go_at_call 14;refine(yd _ _ _ _).mono ?_;rintro e w' ⟨rfl,hw⟩;rw[hw];clear hw)|(go_at_call 82;refine(zC n _).mono ?_;rintro e w' ⟨rfl,hw⟩;rw[hw];clear hw)|(go_at_call 59;refine(zK _ _).mono ?_;rintro e w' ⟨rfl,hw⟩;rw[hw];clear hw));go_ret;rw[hv.out];exact⟨zH (by simp[nmB,hN,exB,hx,hy2,yc,h1]),B1.out⟩
    |true=>
     cases h2:(lo==0)with
     |false=>
      have x3:=za A1.out 3;have x4:=za A1.out 4;have x5:=za A1.out 5;have x6:=za A1.out 6;simp only[qk,ql,qm]at x3 x4 x5 x6;go_wp2_with (first|(go_at_call 14;refine(yd _ _ _ _).mono ?_;rintro e w' ⟨rfl,hw⟩;rw[hw];clear hw)|(go_at_call 82;refine(zC n _).mono ?_;rintro e w' ⟨rfl,hw⟩;rw[hw];clear hw)|(go_at_call 59;refine(zK _ _).mono ?_;rintro e w' ⟨rfl,hw⟩;rw[hw];clear hw));go_ret;rw[hv.out];exact⟨zH (by simp[nmB,hN,exB,hx,hy2,yc,h1,h2]),B1.out⟩
     |true=>
      have x3:=za A1.out 3;have x4:=za A1.out 4;have x5:=za A1.out 5;have x6:=za A1.out 6;simp only[qk,ql,qm]at x3 x4 x5 x6;go_wp2_with (first|(go_at_call 14;refine(yd _ _ _ _).mono ?_;rintro e w' ⟨rfl,hw⟩;rw[hw];clear hw)|(go_at_call 82;refine(zC n _).mono ?_;rintro e w' ⟨rfl,hw⟩;rw[hw];clear hw)|(go_at_call 59;refine(zK _ _).mono ?_;rintro e w' ⟨rfl,hw⟩;rw[hw];clear hw));go_ret;rw[hv.out];exact⟨zH (by simp[nmB,hN,exB,hx,hy2,yc,h1,h2]),B1.out⟩
theorem good2 (n:List UInt8) (nE nF:Nat) (E F:Nat→Po) (K lo hi:Int) (aE aF:Option Addr) (cE cF:Nat) (w:World) (hE:zq w aE nE 3 (fun j=>(E j).cells)) (hF:zq w aF nF 3 (fun j=>(F j).cells)) (hnE:nE≤1000000) (hnF:nF≤1000000):
  Calls Tryd.prog 69 #[.agg #[.int .i64 2,.string ⟨n.toArray⟩,.slice aE nE cE,.slice aF nF cF,.int .i64 K,.int .i64 lo,.int .i64 hi]] w fun e w'=>e=.returned (.bool (itB ⟨2,n,nE,nF,E,F,K,lo,hi⟩))∧Below w.heap.size w w':=by
 have hv:Hid (itB ⟨2,n,nE,nF,E,F,K,lo,hi⟩=(nmB n false&&(exB E nE true&&(exB F nF false&&(yc K 0&&(yc lo 0&&yc hi 0)))))):=rfl;have HE:=Hm hE;have HF:=Hm hF;clear hE hF;have t0:inR 2 1 9=true:=by decide
 have t1:heB 2=true:=by decide
 have hB:=Hm (zf (Below.refl w.heap.size w) (.cells #[.int .i64 2,.string ⟨n.toArray⟩,.slice aE nE cE,.slice aF nF cF,.int .i64 K,.int .i64 lo,.int .i64 hi] 77));obtain⟨B,hBe⟩:∃B,B=itB ⟨2,n,nE,nF,E,F,K,lo,hi⟩:=⟨_,rfl⟩;rw[←hBe]at hv;rw[←hBe];clear hBe
 cases hN:n.isEmpty with
 |false=>
  go_enter Tryd.func69,Tryd.ntmps69;go_wp2_with (first|(go_at_call 14;refine(yd _ _ _ _).mono ?_;rintro e w' ⟨rfl,hw⟩;rw[hw];clear hw)|(go_at_call 82;refine(zC n _).mono ?_;rintro e w' ⟨rfl,hw⟩;rw[hw];clear hw)|(go_at_call 59;refine(zK _ _).mono ?_;rintro e w' ⟨rfl,hw⟩;rw[hw];clear hw));go_ret;rw[hv.out];exact⟨zH (by simp[nmB,←zD,hN]),hB.out⟩
 |true=>
  go_enter Tryd.func69,Tryd.ntmps69;go_wp2_with (first|(go_at_call 14;refine(yd _ _ _ _).mono ?_;rintro e w' ⟨rfl,hw⟩;rw[hw];clear hw)|(go_at_call 82;refine(zC n _).mono ?_;rintro e w' ⟨rfl,hw⟩;rw[hw];clear hw)|(go_at_call 59;refine(zK _ _).mono ?_;rintro e w' ⟨rfl,hw⟩;rw[hw];clear hw));refine(yS E _ _ _ _ (HE.out.below hB.out) hnE).mono ?_;rintro e w1 ⟨rfl,hb1⟩;have B1:=Hm (zg hB.out hb1);have A1:=Hm (ze (zi w _) hb1);clear hb1 hB
  cases hx:xo E nE with
  |false=>
   go_wp2;go_ret;rw[hv.out];exact⟨zH (by simp[nmB,←zD,hN,exB,hx]),B1.out⟩
  |true=>
   cases hy:((nF:Int)==0)with
   |false=>
    have hy1:(0:Int)<(nF:Int):=by simp at hy;omega
    have hy3:0<nF:=by omega
    have hy2:(nF==0)=false:=by simp at hy ⊢;omega
    have x3:=za A1.out 3;have x4:=za A1.out 4;have x5:=za A1.out 5;have x6:=za A1.out 6;simp only[qk,ql,qm]at x3 x4 x5 x6;go_wp2_with (first|(go_at_call 14;refine(yd _ _ _ _).mono ?_;rintro e w' ⟨rfl,hw⟩;rw[hw];clear hw)|(go_at_call 82;refine(zC n _).mono ?_;rintro e w' ⟨rfl,hw⟩;rw[hw];clear hw)|(go_at_call 59;refine(zK _ _).mono ?_;rintro e w' ⟨rfl,hw⟩;rw[hw];clear hw));go_ret;rw[hv.out];exact⟨zH (by simp[nmB,←zD,hN,exB,hx,hy2]),B1.out⟩
   |true=>
    have hy0:nF=0:=by simpa using hy
    have hy1:decide ((0:Int)<(nF:Int))=false:=by simp;omega
    have hy3:decide (0<nF)=false:=by simp;omega
    have hy2:(nF==0)=true:=by simp[hy0]
    clear hy hy0
    cases h1:(K==0)with
    |false=>
     have x3:=za A1.out 3;have x4:=za A1.out 4;have x5:=za A1.out 5;have x6:=za A1.out 6;simp only[qk,ql,qm]at x3 x4 x5 x6;go_wp2_with (first|(go_at_call 14;refine(yd _ _ _ _).mono ?_;rintro e w' ⟨rfl,hw⟩;rw[hw];clear hw)|(go_at_call 82;refine(zC n _).mono ?_;rintro e w' ⟨rfl,hw⟩;rw[hw];clear hw)|(go_at_call 59;refine(zK _ _).mono ?_;rintro e w' ⟨rfl,hw⟩;rw[hw];clear hw));go_ret;rw[hv.out];exact⟨zH (by simp[nmB,←zD,hN,exB,hx,hy2,yc,h1]),B1.out⟩
    |true=>
     cases h2:(lo==0)with
     |false=>
      have x3:=za A1.out 3;have x4:=za A1.out 4;have x5:=za A1.out 5;have x6:=za A1.out 6;simp only[qk,ql,qm]at x3 x4 x5 x6;go_wp2_with (first|(go_at_call 14;refine(yd _ _ _ _).mono ?_;rintro e w' ⟨rfl,hw⟩;rw[hw];clear hw)|(go_at_call 82;refine(zC n _).mono ?_;rintro e w' ⟨rfl,hw⟩;rw[hw];clear hw)|(go_at_call 59;refine(zK _ _).mono ?_;rintro e w' ⟨rfl,hw⟩;rw[hw];clear hw));go_ret;rw[hv.out];exact⟨zH (by simp[nmB,←zD,hN,exB,hx,hy2,yc,h1,h2]),B1.out⟩
     |true=>
      have x3:=za A1.out 3;have x4:=za A1.out 4;have x5:=za A1.out 5;have x6:=za A1.out 6;simp only[qk,ql,qm]at x3 x4 x5 x6;go_wp2_with (first|(go_at_call 14;refine(yd _ _ _ _).mono ?_;rintro e w' ⟨rfl,hw⟩;rw[hw];clear hw)|(go_at_call 82;refine(zC n _).mono ?_;rintro e w' ⟨rfl,hw⟩;rw[hw];clear hw)|(go_at_call 59;refine(zK _ _).mono ?_;rintro e w' ⟨rfl,hw⟩;rw[hw];clear hw));go_ret;rw[hv.out];exact⟨zH (by simp[nmB,←zD,hN,exB,hx,hy2,yc,h1,h2]),B1.out⟩
theorem good3 (n:List UInt8) (nE nF:Nat) (E F:Nat→Po) (K lo hi:Int) (aE aF:Option Addr) (cE cF:Nat) (w:World) (hE:zq w aE nE 3 (fun j=>(E j).cells)) (hF:zq w aF nF 3 (fun j=>(F j).cells)) (hnE:nE≤1000000) (hnF:nF≤1000000):
  Calls Tryd.prog 69 #[.agg #[.int .i64 3,.string ⟨n.toArray⟩,.slice aE nE cE,.slice aF nF cF,.int .i64 K,.int .i64 lo,.int .i64 hi]] w fun e w'=>e=.returned (.bool (itB ⟨3,n,nE,nF,E,F,K,lo,hi⟩))∧Below w.heap.size w w':=by
 have hv:Hid (itB ⟨3,n,nE,nF,E,F,K,lo,hi⟩=(nmB n false&&(exB E nE true&&(exB F nF false&&(yc K 0&&(yc lo 0&&yc hi 0)))))):=rfl;have HE:=Hm hE;have HF:=Hm hF;clear hE hF;have t0:inR 3 1 9=true:=by decide
 have t1:heB 3=true:=by decide
 have hB:=Hm (zf (Below.refl w.heap.size w) (.cells #[.int .i64 3,.string ⟨n.toArray⟩,.slice aE nE cE,.slice aF nF cF,.int .i64 K,.int .i64 lo,.int .i64 hi] 77));obtain⟨B,hBe⟩:∃B,B=itB ⟨3,n,nE,nF,E,F,K,lo,hi⟩:=⟨_,rfl⟩;rw[←hBe]at hv;rw[←hBe];clear hBe
 cases hN:n.isEmpty with
 |false=>
  go_enter Tryd.func69,Tryd.ntmps69;go_wp2_with (first|(go_at_call 14;refine(yd _ _ _ _).mono ?_;rintro e w' ⟨rfl,hw⟩;rw[hw];clear hw)|(go_at_call 82;refine(zC n _).mono ?_;rintro e w' ⟨rfl,hw⟩;rw[hw];clear hw)|(go_at_call 59;refine(zK _ _).mono ?_;rintro e w' ⟨rfl,hw⟩;rw[hw];clear hw));go_ret;rw[hv.out];exact⟨zH (by simp[nmB,←zD,hN]),hB.out⟩
 |true=>
  go_enter Tryd.func69,Tryd.ntmps69;go_wp2_with (first|(go_at_call 14;refine(yd _ _ _ _).mono ?_;rintro e w' ⟨rfl,hw⟩;rw[hw];clear hw)|(go_at_call 82;refine(zC n _).mono ?_;rintro e w' ⟨rfl,hw⟩;rw[hw];clear hw)|(go_at_call 59;refine(zK _ _).mono ?_;rintro e w' ⟨rfl,hw⟩;rw[hw];clear hw));refine(yS E _ _ _ _ (HE.out.below hB.out) hnE).mono ?_;rintro e w1 ⟨rfl,hb1⟩;have B1:=Hm (zg hB.out hb1);have A1:=Hm (ze (zi w _) hb1);clear hb1 hB
  cases hx:xo E nE with
  |false=>
   go_wp2;go_ret;rw[hv.out];exact⟨zH (by simp[nmB,←zD,hN,exB,hx]),B1.out⟩
  |true=>
   cases hy:((nF:Int)==0)with
   |false=>
    have hy1:(0:Int)<(nF:Int):=by simp at hy;omega
    have hy3:0<nF:=by omega
    have hy2:(nF==0)=false:=by simp at hy ⊢;omega
    have x3:=za A1.out 3;have x4:=za A1.out 4;have x5:=za A1.out 5;have x6:=za A1.out 6;simp only[qk,ql,qm]at x3 x4 x5 x6;go_wp2_with (first|(go_at_call 14;refine(yd _ _ _ _).mono ?_;rintro e w' ⟨rfl,hw⟩;rw[hw];clear hw)|(go_at_call 82;refine(zC n _).mono ?_;rintro e w' ⟨rfl,hw⟩;rw[hw];clear hw)|(go_at_call 59;refine(zK _ _).mono ?_;rintro e w' ⟨rfl,hw⟩;rw[hw];clear hw));go_ret;rw[hv.out];exact⟨zH (by simp[nmB,←zD,hN,exB,hx,hy2]),B1.out⟩
   |true=>
    have hy0:nF=0:=by simpa using hy
    have hy1:decide ((0:Int)<(nF:Int))=false:=by simp;omega
    have hy3:decide (0<nF)=false:=by simp;omega
    have hy2:(nF==0)=true:=by simp[hy0]
    clear hy hy0
    cases h1:(K==0)with
    |false=>
     have x3:=za A1.out 3;have x4:=za A1.out 4;have x5:=za A1.out 5;have x6:=za A1.out 6;simp only[qk,ql,qm]at x3 x4 x5 x6;go_wp2_with (first|(go_at_call 14;refine(yd _ _ _ _).mono ?_;rintro e w' ⟨rfl,hw⟩;rw[hw];clear hw)|(go_at_call 82;refine(zC n _).mono ?_;rintro e w' ⟨rfl,hw⟩;rw[hw];clear hw)|(go_at_call 59;refine(zK _ _).mono ?_;rintro e w' ⟨rfl,hw⟩;rw[hw];clear hw));go_ret;rw[hv.out];exact⟨zH (by simp[nmB,←zD,hN,exB,hx,hy2,yc,h1]),B1.out⟩
    |true=>
     cases h2:(lo==0)with
     |false=>
      have x3:=za A1.out 3;have x4:=za A1.out 4;have x5:=za A1.out 5;have x6:=za A1.out 6;simp only[qk,ql,qm]at x3 x4 x5 x6;go_wp2_with (first|(go_at_call 14;refine(yd _ _ _ _).mono ?_;rintro e w' ⟨rfl,hw⟩;rw[hw];clear hw)|(go_at_call 82;refine(zC n _).mono ?_;rintro e w' ⟨rfl,hw⟩;rw[hw];clear hw)|(go_at_call 59;refine(zK _ _).mono ?_;rintro e w' ⟨rfl,hw⟩;rw[hw];clear hw));go_ret;rw[hv.out];exact⟨zH (by simp[nmB,←zD,hN,exB,hx,hy2,yc,h1,h2]),B1.out⟩
     |true=>
      have x3:=za A1.out 3;have x4:=za A1.out 4;have x5:=za A1.out 5;have x6:=za A1.out 6;simp only[qk,ql,qm]at x3 x4 x5 x6;go_wp2_with (first|(go_at_call 14;refine(yd _ _ _ _).mono ?_;rintro e w' ⟨rfl,hw⟩;rw[hw];clear hw)|(go_at_call 82;refine(zC n _).mono ?_;rintro e w' ⟨rfl,hw⟩;rw[hw];clear hw)|(go_at_call 59;refine(zK _ _).mono ?_;rintro e w' ⟨rfl,hw⟩;rw[hw];clear hw));go_ret;rw[hv.out];exact⟨zH (by simp[nmB,←zD,hN,exB,hx,hy2,yc,h1,h2]),B1.out⟩
theorem good4 (n:List UInt8) (nE nF:Nat) (E F:Nat→Po) (K lo hi:Int) (aE aF:Option Addr) (cE cF:Nat) (w:World) (hE:zq w aE nE 3 (fun j=>(E j).cells)) (hF:zq w aF nF 3 (fun j=>(F j).cells)) (hnE:nE≤1000000) (hnF:nF≤1000000):
  Calls Tryd.prog 69 #[.agg #[.int .i64 4,.string ⟨n.toArray⟩,.slice aE nE cE,.slice aF nF cF,.int .i64 K,.int .i64 lo,.int .i64 hi]] w fun e w'=>e=.returned (.bool (itB ⟨4,n,nE,nF,E,F,K,lo,hi⟩))∧Below w.heap.size w w':=by
 have hv:Hid (itB ⟨4,n,nE,nF,E,F,K,lo,hi⟩=(nmB n false&&(exB E nE true&&(exB F nF false&&(yc K 3&&(yc lo 3&&yc hi 3)))))):=rfl;have HE:=Hm hE;have HF:=Hm hF;clear hE hF;have t0:inR 4 1 9=true:=by decide
 have t1:heB 4=true:=by decide
 have hB:=Hm (zf (Below.refl w.heap.size w) (.cells #[.int .i64 4,.string ⟨n.toArray⟩,.slice aE nE cE,.slice aF nF cF,.int .i64 K,.int .i64 lo,.int .i64 hi] 77));obtain⟨B,hBe⟩:∃B,B=itB ⟨4,n,nE,nF,E,F,K,lo,hi⟩:=⟨_,rfl⟩;rw[←hBe]at hv;rw[←hBe];clear hBe
 cases hN:n.isEmpty with
 |false=>
  go_enter Tryd.func69,Tryd.ntmps69;go_wp2_with (first|(go_at_call 14;refine(yd _ _ _ _).mono ?_;rintro e w' ⟨rfl,hw⟩;rw[hw];clear hw)|(go_at_call 82;refine(zC n _).mono ?_;rintro e w' ⟨rfl,hw⟩;rw[hw];clear hw)|(go_at_call 59;refine(zK _ _).mono ?_;rintro e w' ⟨rfl,hw⟩;rw[hw];clear hw));go_ret;rw[hv.out];exact⟨zH (by simp[nmB,←zD,hN]),hB.out⟩
 |true=>
  go_enter Tryd.func69,Tryd.ntmps69;go_wp2_with (first|(go_at_call 14;refine(yd _ _ _ _).mono ?_;rintro e w' ⟨rfl,hw⟩;rw[hw];clear hw)|(go_at_call 82;refine(zC n _).mono ?_;rintro e w' ⟨rfl,hw⟩;rw[hw];clear hw)|(go_at_call 59;refine(zK _ _).mono ?_;rintro e w' ⟨rfl,hw⟩;rw[hw];clear hw));refine(yS E _ _ _ _ (HE.out.below hB.out) hnE).mono ?_;rintro e w1 ⟨rfl,hb1⟩;have B1:=Hm (zg hB.out hb1);have A1:=Hm (ze (zi w _) hb1);clear hb1 hB
  cases hx:xo E nE with
  |false=>
   go_wp2;go_ret;rw[hv.out];exact⟨zH (by simp[nmB,←zD,hN,exB,hx]),B1.out⟩
  |true=>
   cases hy:((nF:Int)==0)with
   |false=>
    have hy1:(0:Int)<(nF:Int):=by simp at hy;omega
    have hy3:0<nF:=by omega
    have hy2:(nF==0)=false:=by simp at hy ⊢;omega
    have x3:=za A1.out 3;have x4:=za A1.out 4;have x5:=za A1.out 5;have x6:=za A1.out 6;simp only[qk,ql,qm]at x3 x4 x5 x6;go_wp2_with (first|(go_at_call 14;refine(yd _ _ _ _).mono ?_;rintro e w' ⟨rfl,hw⟩;rw[hw];clear hw)|(go_at_call 82;refine(zC n _).mono ?_;rintro e w' ⟨rfl,hw⟩;rw[hw];clear hw)|(go_at_call 59;refine(zK _ _).mono ?_;rintro e w' ⟨rfl,hw⟩;rw[hw];clear hw));go_ret;rw[hv.out];exact⟨zH (by simp[nmB,←zD,hN,exB,hx,hy2]),B1.out⟩
   |true=>
    have hy0:nF=0:=by simpa using hy
    have hy1:decide ((0:Int)<(nF:Int))=false:=by simp;omega
    have hy3:decide (0<nF)=false:=by simp;omega
    have hy2:(nF==0)=true:=by simp[hy0]
    clear hy hy0
    cases h1:inR K (-999999999) 999999999 with
    |false=>
     have x3:=za A1.out 3;have x4:=za A1.out 4;have x5:=za A1.out 5;have x6:=za A1.out 6;simp only[qk,ql,qm]at x3 x4 x5 x6;go_wp2_with (first|(go_at_call 14;refine(yd _ _ _ _).mono ?_;rintro e w' ⟨rfl,hw⟩;rw[hw];clear hw)|(go_at_call 82;refine(zC n _).mono ?_;rintro e w' ⟨rfl,hw⟩;rw[hw];clear hw)|(go_at_call 59;refine(zK _ _).mono ?_;rintro e w' ⟨rfl,hw⟩;rw[hw];clear hw));go_ret;rw[hv.out];exact⟨zH (by simp[nmB,←zD,hN,exB,hx,hy2,yc,h1]),B1.out⟩
    |true=>
     cases h2:inR lo (-999999999) 999999999 with
     |false=>
      have x3:=za A1.out 3;have x4:=za A1.out 4;have x5:=za A1.out 5;have x6:=za A1.out 6;simp only[qk,ql,qm]at x3 x4 x5 x6;go_wp2_with (first|(go_at_call 14;refine(yd _ _ _ _).mono ?_;rintro e w' ⟨rfl,hw⟩;rw[hw];clear hw)|(go_at_call 82;refine(zC n _).mono ?_;rintro e w' ⟨rfl,hw⟩;rw[hw];clear hw)|(go_at_call 59;refine(zK _ _).mono ?_;rintro e w' ⟨rfl,hw⟩;rw[hw];clear hw));go_ret;rw[hv.out];exact⟨zH (by simp[nmB,←zD,hN,exB,hx,hy2,yc,h1,h2]),B1.out⟩
     |true=>
      have x3:=za A1.out 3;have x4:=za A1.out 4;have x5:=za A1.out 5;have x6:=za A1.out 6;simp only[qk,ql,qm]at x3 x4 x5 x6;go_wp2_with (first|(go_at_call 14;refine(yd _ _ _ _).mono ?_;rintro e w' ⟨rfl,hw⟩;rw[hw];clear hw)|(go_at_call 82;refine(zC n _).mono ?_;rintro e w' ⟨rfl,hw⟩;rw[hw];clear hw)|(go_at_call 59;refine(zK _ _).mono ?_;rintro e w' ⟨rfl,hw⟩;rw[hw];clear hw));go_ret;rw[hv.out];exact⟨zH (by simp[nmB,←zD,hN,exB,hx,hy2,yc,h1,h2]),B1.out⟩
theorem good5 (n:List UInt8) (nE nF:Nat) (E F:Nat→Po) (K lo hi:Int) (aE aF:Option Addr) (cE cF:Nat) (w:World) (hE:zq w aE nE 3 (fun j=>(E j).cells)) (hF:zq w aF nF 3 (fun j=>(F j).cells)) (hnE:nE≤1000000) (hnF:nF≤1000000):
  Calls Tryd.prog 69 #[.agg #[.int .i64 5,.string ⟨n.toArray⟩,.slice aE nE cE,.slice aF nF cF,.int .i64 K,.int .i64 lo,.int .i64 hi]] w fun e w'=>e=.returned (.bool (itB ⟨5,n,nE,nF,E,F,K,lo,hi⟩))∧Below w.heap.size w w':=by
 have hv:Hid (itB ⟨5,n,nE,nF,E,F,K,lo,hi⟩=(nmB n false&&(exB E nE true&&(exB F nF true&&(yc K 0&&(yc lo 0&&yc hi 0)))))):=rfl;have HE:=Hm hE;have HF:=Hm hF;clear hE hF;have t0:inR 5 1 9=true:=by decide
 have t1:heB 5=true:=by decide
 have hB:=Hm (zf (Below.refl w.heap.size w) (.cells #[.int .i64 5,.string ⟨n.toArray⟩,.slice aE nE cE,.slice aF nF cF,.int .i64 K,.int .i64 lo,.int .i64 hi] 77));obtain⟨B,hBe⟩:∃B,B=itB ⟨5,n,nE,nF,E,F,K,lo,hi⟩:=⟨_,rfl⟩;rw[←hBe]at hv;rw[←hBe];clear hBe
 cases hN:n.isEmpty with
 |false=>
  go_enter Tryd.func69,Tryd.ntmps69;go_wp2_with (first|(go_at_call 14;refine(yd _ _ _ _).mono ?_;rintro e w' ⟨rfl,hw⟩;rw[hw];clear hw)|(go_at_call 82;refine(zC n _).mono ?_;rintro e w' ⟨rfl,hw⟩;rw[hw];clear hw)|(go_at_call 59;refine(zK _ _).mono ?_;rintro e w' ⟨rfl,hw⟩;rw[hw];clear hw));go_ret;rw[hv.out];exact⟨zH (by simp[nmB,←zD,hN]),hB.out⟩
 |true=>
  go_enter Tryd.func69,Tryd.ntmps69;go_wp2_with (first|(go_at_call 14;refine(yd _ _ _ _).mono ?_;rintro e w' ⟨rfl,hw⟩;rw[hw];clear hw)|(go_at_call 82;refine(zC n _).mono ?_;rintro e w' ⟨rfl,hw⟩;rw[hw];clear hw)|(go_at_call 59;refine(zK _ _).mono ?_;rintro e w' ⟨rfl,hw⟩;rw[hw];clear hw));refine(yS E _ _ _ _ (HE.out.below hB.out) hnE).mono ?_;rintro e w1 ⟨rfl,hb1⟩;have B1:=Hm (zg hB.out hb1);have A1:=Hm (ze (zi w _) hb1);clear hb1 hB
  cases hx:xo E nE with
  |false=>
   go_wp2;go_ret;rw[hv.out];exact⟨zH (by simp[nmB,←zD,hN,exB,hx]),B1.out⟩
  |true=>
   have x3:=za A1.out 3;simp only[qk,ql,qm]at x3;go_wp2_with (first|(go_at_call 14;refine(yd _ _ _ _).mono ?_;rintro e w' ⟨rfl,hw⟩;rw[hw];clear hw)|(go_at_call 82;refine(zC n _).mono ?_;rintro e w' ⟨rfl,hw⟩;rw[hw];clear hw)|(go_at_call 59;refine(zK _ _).mono ?_;rintro e w' ⟨rfl,hw⟩;rw[hw];clear hw));clear x3;refine(yS F _ _ _ _ (HF.out.below B1.out) hnF).mono ?_;rintro e w2 ⟨rfl,hb2⟩;have B2:=Hm (zg B1.out hb2);have A2:=Hm (ze A1.out hb2);clear hb2 B1 A1
   cases hy:xo F nF with
   |false=>
    go_wp2;go_ret;rw[hv.out];exact⟨zH (by simp[nmB,←zD,hN,exB,hx,hy]),B2.out⟩
   |true=>
    cases h1:(K==0)with
    |false=>
     have x3:=za A2.out 3;have x4:=za A2.out 4;have x5:=za A2.out 5;have x6:=za A2.out 6;simp only[qk,ql,qm]at x3 x4 x5 x6;go_wp2_with (first|(go_at_call 14;refine(yd _ _ _ _).mono ?_;rintro e w' ⟨rfl,hw⟩;rw[hw];clear hw)|(go_at_call 82;refine(zC n _).mono ?_;rintro e w' ⟨rfl,hw⟩;rw[hw];clear hw)|(go_at_call 59;refine(zK _ _).mono ?_;rintro e w' ⟨rfl,hw⟩;rw[hw];clear hw));go_ret;rw[hv.out];exact⟨zH (by simp[nmB,←zD,hN,exB,hx,hy,yc,h1]),B2.out⟩
    |true=>
     cases h2:(lo==0)with
     |false=>
      have x3:=za A2.out 3;have x4:=za A2.out 4;have x5:=za A2.out 5;have x6:=za A2.out 6;simp only[qk,ql,qm]at x3 x4 x5 x6;go_wp2_with (first|(go_at_call 14;refine(yd _ _ _ _).mono ?_;rintro e w' ⟨rfl,hw⟩;rw[hw];clear hw)|(go_at_call 82;refine(zC n _).mono ?_;rintro e w' ⟨rfl,hw⟩;rw[hw];clear hw)|(go_at_call 59;refine(zK _ _).mono ?_;rintro e w' ⟨rfl,hw⟩;rw[hw];clear hw));go_ret;rw[hv.out];exact⟨zH (by simp[nmB,←zD,hN,exB,hx,hy,yc,h1,h2]),B2.out⟩
     |true=>
      have x3:=za A2.out 3;have x4:=za A2.out 4;have x5:=za A2.out 5;have x6:=za A2.out 6;simp only[qk,ql,qm]at x3 x4 x5 x6;go_wp2_with (first|(go_at_call 14;refine(yd _ _ _ _).mono ?_;rintro e w' ⟨rfl,hw⟩;rw[hw];clear hw)|(go_at_call 82;refine(zC n _).mono ?_;rintro e w' ⟨rfl,hw⟩;rw[hw];clear hw)|(go_at_call 59;refine(zK _ _).mono ?_;rintro e w' ⟨rfl,hw⟩;rw[hw];clear hw));go_ret;rw[hv.out];exact⟨zH (by simp[nmB,←zD,hN,exB,hx,hy,yc,h1,h2]),B2.out⟩
theorem good6 (n:List UInt8) (nE nF:Nat) (E F:Nat→Po) (K lo hi:Int) (aE aF:Option Addr) (cE cF:Nat) (w:World) (hE:zq w aE nE 3 (fun j=>(E j).cells)) (hF:zq w aF nF 3 (fun j=>(F j).cells)) (hnE:nE≤1000000) (hnF:nF≤1000000):
  Calls Tryd.prog 69 #[.agg #[.int .i64 6,.string ⟨n.toArray⟩,.slice aE nE cE,.slice aF nF cF,.int .i64 K,.int .i64 lo,.int .i64 hi]] w fun e w'=>e=.returned (.bool (itB ⟨6,n,nE,nF,E,F,K,lo,hi⟩))∧Below w.heap.size w w':=by
 have hv:Hid (itB ⟨6,n,nE,nF,E,F,K,lo,hi⟩=(nmB n false&&(exB E nE false&&(exB F nF false&&(yc K 1&&(yc lo 1&&yc hi 0)))))):=rfl;have HE:=Hm hE;have HF:=Hm hF;clear hE hF;have t0:inR 6 1 9=true:=by decide
 have t1:heB 6=false:=by decide
 have hB:=Hm (zf (Below.refl w.heap.size w) (.cells #[.int .i64 6,.string ⟨n.toArray⟩,.slice aE nE cE,.slice aF nF cF,.int .i64 K,.int .i64 lo,.int .i64 hi] 77));obtain⟨B,hBe⟩:∃B,B=itB ⟨6,n,nE,nF,E,F,K,lo,hi⟩:=⟨_,rfl⟩;rw[←hBe]at hv;rw[←hBe];clear hBe
 cases hN:n.isEmpty with
 |false=>
  go_enter Tryd.func69,Tryd.ntmps69;go_wp2_with (first|(go_at_call 14;refine(yd _ _ _ _).mono ?_;rintro e w' ⟨rfl,hw⟩;rw[hw];clear hw)|(go_at_call 82;refine(zC n _).mono ?_;rintro e w' ⟨rfl,hw⟩;rw[hw];clear hw)|(go_at_call 59;refine(zK _ _).mono ?_;rintro e w' ⟨rfl,hw⟩;rw[hw];clear hw));go_ret;rw[hv.out];exact⟨zH (by simp[nmB,←zD,hN]),hB.out⟩
 |true=>
  cases hz:((nE:Int)==0)with
  |false=>
   have hz1:(0:Int)<(nE:Int):=by simp at hz;omega
   have hz3:0<nE:=by omega
   have hz2:(nE==0)=false:=by simp at hz ⊢;omega
   go_enter Tryd.func69,Tryd.ntmps69;go_wp2_with (first|(go_at_call 14;refine(yd _ _ _ _).mono ?_;rintro e w' ⟨rfl,hw⟩;rw[hw];clear hw)|(go_at_call 82;refine(zC n _).mono ?_;rintro e w' ⟨rfl,hw⟩;rw[hw];clear hw)|(go_at_call 59;refine(zK _ _).mono ?_;rintro e w' ⟨rfl,hw⟩;rw[hw];clear hw));go_ret;rw[hv.out];exact⟨zH (by simp[nmB,←zD,hN,exB,hz2]),hB.out⟩
  |true=>
   have hz0:nE=0:=by simpa using hz
   have hz1:decide ((0:Int)<(nE:Int))=false:=by simp;omega
   have hz3:decide (0<nE)=false:=by simp;omega
   have hz2:(nE==0)=true:=by simp[hz0]
   clear hz hz0
   cases hy:((nF:Int)==0)with
   |false=>
    have hy1:(0:Int)<(nF:Int):=by simp at hy;omega
    have hy3:0<nF:=by omega
    have hy2:(nF==0)=false:=by simp at hy ⊢;omega
    go_enter Tryd.func69,Tryd.ntmps69;go_wp2_with (first|(go_at_call 14;refine(yd _ _ _ _).mono ?_;rintro e w' ⟨rfl,hw⟩;rw[hw];clear hw)|(go_at_call 82;refine(zC n _).mono ?_;rintro e w' ⟨rfl,hw⟩;rw[hw];clear hw)|(go_at_call 59;refine(zK _ _).mono ?_;rintro e w' ⟨rfl,hw⟩;rw[hw];clear hw));go_ret;rw[hv.out];exact⟨zH (by simp[nmB,←zD,hN,exB,hz2,hy2]),hB.out⟩
   |true=>
    have hy0:nF=0:=by simpa using hy
    have hy1:decide ((0:Int)<(nF:Int))=false:=by simp;omega
    have hy3:decide (0<nF)=false:=by simp;omega
    have hy2:(nF==0)=true:=by simp[hy0]
    clear hy hy0
    cases h1:inR K 0 15 with
    |false=>
     go_enter Tryd.func69,Tryd.ntmps69;go_wp2_with (first|(go_at_call 14;refine(yd _ _ _ _).mono ?_;rintro e w' ⟨rfl,hw⟩;rw[hw];clear hw)|(go_at_call 82;refine(zC n _).mono ?_;rintro e w' ⟨rfl,hw⟩;rw[hw];clear hw)|(go_at_call 59;refine(zK _ _).mono ?_;rintro e w' ⟨rfl,hw⟩;rw[hw];clear hw));go_ret;rw[hv.out];exact⟨zH (by simp[nmB,←zD,hN,exB,hz2,hy2,yc,h1]),hB.out⟩
    |true=>
     cases h2:inR lo 0 15 with
     |false=>
      go_enter Tryd.func69,Tryd.ntmps69;go_wp2_with (first|(go_at_call 14;refine(yd _ _ _ _).mono ?_;rintro e w' ⟨rfl,hw⟩;rw[hw];clear hw)|(go_at_call 82;refine(zC n _).mono ?_;rintro e w' ⟨rfl,hw⟩;rw[hw];clear hw)|(go_at_call 59;refine(zK _ _).mono ?_;rintro e w' ⟨rfl,hw⟩;rw[hw];clear hw));go_ret;rw[hv.out];exact⟨zH (by simp[nmB,←zD,hN,exB,hz2,hy2,yc,h1,h2]),hB.out⟩
     |true=>
      go_enter Tryd.func69,Tryd.ntmps69;go_wp2_with (first|(go_at_call 14;refine(yd _ _ _ _).mono ?_;rintro e w' ⟨rfl,hw⟩;rw[hw];clear hw)|(go_at_call 82;refine(zC n _).mono ?_;rintro e w' ⟨rfl,hw⟩;rw[hw];clear hw)|(go_at_call 59;refine(zK _ _).mono ?_;rintro e w' ⟨rfl,hw⟩;rw[hw];clear hw));go_ret;rw[hv.out];exact⟨zH (by simp[nmB,←zD,hN,exB,hz2,hy2,yc,h1,h2]),hB.out⟩
theorem good7 (n:List UInt8) (nE nF:Nat) (E F:Nat→Po) (K lo hi:Int) (aE aF:Option Addr) (cE cF:Nat) (w:World) (hE:zq w aE nE 3 (fun j=>(E j).cells)) (hF:zq w aF nF 3 (fun j=>(F j).cells)) (hnE:nE≤1000000) (hnF:nF≤1000000):
  Calls Tryd.prog 69 #[.agg #[.int .i64 7,.string ⟨n.toArray⟩,.slice aE nE cE,.slice aF nF cF,.int .i64 K,.int .i64 lo,.int .i64 hi]] w fun e w'=>e=.returned (.bool (itB ⟨7,n,nE,nF,E,F,K,lo,hi⟩))∧Below w.heap.size w w':=by
 have hv:Hid (itB ⟨7,n,nE,nF,E,F,K,lo,hi⟩=(nmB n false&&(exB E nE false&&(exB F nF false&&(yc K 2&&(yc lo 0&&yc hi 0)))))):=rfl;have HE:=Hm hE;have HF:=Hm hF;clear hE hF;have t0:inR 7 1 9=true:=by decide
 have t1:heB 7=false:=by decide
 have hB:=Hm (zf (Below.refl w.heap.size w) (.cells #[.int .i64 7,.string ⟨n.toArray⟩,.slice aE nE cE,.slice aF nF cF,.int .i64 K,.int .i64 lo,.int .i64 hi] 77));obtain⟨B,hBe⟩:∃B,B=itB ⟨7,n,nE,nF,E,F,K,lo,hi⟩:=⟨_,rfl⟩;rw[←hBe]at hv;rw[←hBe];clear hBe
 cases hN:n.isEmpty with
 |false=>
  go_enter Tryd.func69,Tryd.ntmps69;go_wp2_with (first|(go_at_call 14;refine(yd _ _ _ _).mono ?_;rintro e w' ⟨rfl,hw⟩;rw[hw];clear hw)|(go_at_call 82;refine(zC n _).mono ?_;rintro e w' ⟨rfl,hw⟩;rw[hw];clear hw)|(go_at_call 59;refine(zK _ _).mono ?_;rintro e w' ⟨rfl,hw⟩;rw[hw];clear hw));go_ret;rw[hv.out];exact⟨zH (by simp[nmB,←zD,hN]),hB.out⟩
 |true=>
  cases hz:((nE:Int)==0)with
  |false=>
   have hz1:(0:Int)<(nE:Int):=by simp at hz;omega
   have hz3:0<nE:=by omega
   have hz2:(nE==0)=false:=by simp at hz ⊢;omega
   go_enter Tryd.func69,Tryd.ntmps69;go_wp2_with (first|(go_at_call 14;refine(yd _ _ _ _).mono ?_;rintro e w' ⟨rfl,hw⟩;rw[hw];clear hw)|(go_at_call 82;refine(zC n _).mono ?_;rintro e w' ⟨rfl,hw⟩;rw[hw];clear hw)|(go_at_call 59;refine(zK _ _).mono ?_;rintro e w' ⟨rfl,hw⟩;rw[hw];clear hw));go_ret;rw[hv.out];exact⟨zH (by simp[nmB,←zD,hN,exB,hz2]),hB.out⟩
  |true=>
   have hz0:nE=0:=by simpa using hz
   have hz1:decide ((0:Int)<(nE:Int))=false:=by simp;omega
   have hz3:decide (0<nE)=false:=by simp;omega
   have hz2:(nE==0)=true:=by simp[hz0]
   clear hz hz0
   cases hy:((nF:Int)==0)with
   |false=>
    have hy1:(0:Int)<(nF:Int):=by simp at hy;omega
    have hy3:0<nF:=by omega
    have hy2:(nF==0)=false:=by simp at hy ⊢;omega
    go_enter Tryd.func69,Tryd.ntmps69;go_wp2_with (first|(go_at_call 14;refine(yd _ _ _ _).mono ?_;rintro e w' ⟨rfl,hw⟩;rw[hw];clear hw)|(go_at_call 82;refine(zC n _).mono ?_;rintro e w' ⟨rfl,hw⟩;rw[hw];clear hw)|(go_at_call 59;refine(zK _ _).mono ?_;rintro e w' ⟨rfl,hw⟩;rw[hw];clear hw));go_ret;rw[hv.out];exact⟨zH (by simp[nmB,←zD,hN,exB,hz2,hy2]),hB.out⟩
   |true=>
    have hy0:nF=0:=by simpa using hy
    have hy1:decide ((0:Int)<(nF:Int))=false:=by simp;omega
    have hy3:decide (0<nF)=false:=by simp;omega
    have hy2:(nF==0)=true:=by simp[hy0]
    clear hy hy0
    cases h1:inR K 0 999999999 with
    |false=>
     go_enter Tryd.func69,Tryd.ntmps69;go_wp2_with (first|(go_at_call 14;refine(yd _ _ _ _).mono ?_;rintro e w' ⟨rfl,hw⟩;rw[hw];clear hw)|(go_at_call 82;refine(zC n _).mono ?_;rintro e w' ⟨rfl,hw⟩;rw[hw];clear hw)|(go_at_call 59;refine(zK _ _).mono ?_;rintro e w' ⟨rfl,hw⟩;rw[hw];clear hw));go_ret;rw[hv.out];exact⟨zH (by simp[nmB,←zD,hN,exB,hz2,hy2,yc,h1]),hB.out⟩
    |true=>
     cases h2:(lo==0)with
     |false=>
      go_enter Tryd.func69,Tryd.ntmps69;go_wp2_with (first|(go_at_call 14;refine(yd _ _ _ _).mono ?_;rintro e w' ⟨rfl,hw⟩;rw[hw];clear hw)|(go_at_call 82;refine(zC n _).mono ?_;rintro e w' ⟨rfl,hw⟩;rw[hw];clear hw)|(go_at_call 59;refine(zK _ _).mono ?_;rintro e w' ⟨rfl,hw⟩;rw[hw];clear hw));go_ret;rw[hv.out];exact⟨zH (by simp[nmB,←zD,hN,exB,hz2,hy2,yc,h1,h2]),hB.out⟩
     |true=>
      go_enter Tryd.func69,Tryd.ntmps69;go_wp2_with (first|(go_at_call 14;refine(yd _ _ _ _).mono ?_;rintro e w' ⟨rfl,hw⟩;rw[hw];clear hw)|(go_at_call 82;refine(zC n _).mono ?_;rintro e w' ⟨rfl,hw⟩;rw[hw];clear hw)|(go_at_call 59;refine(zK _ _).mono ?_;rintro e w' ⟨rfl,hw⟩;rw[hw];clear hw));go_ret;rw[hv.out];exact⟨zH (by simp[nmB,←zD,hN,exB,hz2,hy2,yc,h1,h2]),hB.out⟩
theorem good8 (n:List UInt8) (nE nF:Nat) (E F:Nat→Po) (K lo hi:Int) (aE aF:Option Addr) (cE cF:Nat) (w:World) (hE:zq w aE nE 3 (fun j=>(E j).cells)) (hF:zq w aF nF 3 (fun j=>(F j).cells)) (hnE:nE≤1000000) (hnF:nF≤1000000):
  Calls Tryd.prog 69 #[.agg #[.int .i64 8,.string ⟨n.toArray⟩,.slice aE nE cE,.slice aF nF cF,.int .i64 K,.int .i64 lo,.int .i64 hi]] w fun e w'=>e=.returned (.bool (itB ⟨8,n,nE,nF,E,F,K,lo,hi⟩))∧Below w.heap.size w w':=by
 have hv:Hid (itB ⟨8,n,nE,nF,E,F,K,lo,hi⟩=(nmB n false&&(exB E nE true&&(exB F nF false&&(yc K 0&&(yc lo 3&&yc hi 3)))))):=rfl;have HE:=Hm hE;have HF:=Hm hF;clear hE hF;have t0:inR 8 1 9=true:=by decide
 have t1:heB 8=true:=by decide
 have hB:=Hm (zf (Below.refl w.heap.size w) (.cells #[.int .i64 8,.string ⟨n.toArray⟩,.slice aE nE cE,.slice aF nF cF,.int .i64 K,.int .i64 lo,.int .i64 hi] 77));obtain⟨B,hBe⟩:∃B,B=itB ⟨8,n,nE,nF,E,F,K,lo,hi⟩:=⟨_,rfl⟩;rw[←hBe]at hv;rw[←hBe];clear hBe
 cases hN:n.isEmpty with
 |false=>
  go_enter Tryd.func69,Tryd.ntmps69;go_wp2_with (first|(go_at_call 14;refine(yd _ _ _ _).mono ?_;rintro e w' ⟨rfl,hw⟩;rw[hw];clear hw)|(go_at_call 82;refine(zC n _).mono ?_;rintro e w' ⟨rfl,hw⟩;rw[hw];clear hw)|(go_at_call 59;refine(zK _ _).mono ?_;rintro e w' ⟨rfl,hw⟩;rw[hw];clear hw));go_ret;rw[hv.out];exact⟨zH (by simp[nmB,←zD,hN]),hB.out⟩
 |true=>
  go_enter Tryd.func69,Tryd.ntmps69;go_wp2_with (first|(go_at_call 14;refine(yd _ _ _ _).mono ?_;rintro e w' ⟨rfl,hw⟩;rw[hw];clear hw)|(go_at_call 82;refine(zC n _).mono ?_;rintro e w' ⟨rfl,hw⟩;rw[hw];clear hw)|(go_at_call 59;refine(zK _ _).mono ?_;rintro e w' ⟨rfl,hw⟩;rw[hw];clear hw));refine(yS E _ _ _ _ (HE.out.below hB.out) hnE).mono ?_;rintro e w1 ⟨rfl,hb1⟩;have B1:=Hm (zg hB.out hb1);have A1:=Hm (ze (zi w _) hb1);clear hb1 hB
  cases hx:xo E nE with
  |false=>
   go_wp2;go_ret;rw[hv.out];exact⟨zH (by simp[nmB,←zD,hN,exB,hx]),B1.out⟩
  |true=>
   cases hy:((nF:Int)==0)with
   |false=>
    have hy1:(0:Int)<(nF:Int):=by simp at hy;omega
    have hy3:0<nF:=by omega
    have hy2:(nF==0)=false:=by simp at hy ⊢;omega
    have x3:=za A1.out 3;have x4:=za A1.out 4;have x5:=za A1.out 5;have x6:=za A1.out 6;simp only[qk,ql,qm]at x3 x4 x5 x6;go_wp2_with (first|(go_at_call 14;refine(yd _ _ _ _).mono ?_;rintro e w' ⟨rfl,hw⟩;rw[hw];clear hw)|(go_at_call 82;refine(zC n _).mono ?_;rintro e w' ⟨rfl,hw⟩;rw[hw];clear hw)|(go_at_call 59;refine(zK _ _).mono ?_;rintro e w' ⟨rfl,hw⟩;rw[hw];clear hw));go_ret;rw[hv.out];exact⟨zH (by simp[nmB,←zD,hN,exB,hx,hy2]),B1.out⟩
   |true=>
    have hy0:nF=0:=by simpa using hy
    have hy1:decide ((0:Int)<(nF:Int))=false:=by simp;omega
    have hy3:decide (0<nF)=false:=by simp;omega
    have hy2:(nF==0)=true:=by simp[hy0]
    clear hy hy0
    cases h1:(K==0)with
    |false=>
     have x3:=za A1.out 3;have x4:=za A1.out 4;have x5:=za A1.out 5;have x6:=za A1.out 6;simp only[qk,ql,qm]at x3 x4 x5 x6;go_wp2_with (first|(go_at_call 14;refine(yd _ _ _ _).mono ?_;rintro e w' ⟨rfl,hw⟩;rw[hw];clear hw)|(go_at_call 82;refine(zC n _).mono ?_;rintro e w' ⟨rfl,hw⟩;rw[hw];clear hw)|(go_at_call 59;refine(zK _ _).mono ?_;rintro e w' ⟨rfl,hw⟩;rw[hw];clear hw));go_ret;rw[hv.out];exact⟨zH (by simp[nmB,←zD,hN,exB,hx,hy2,yc,h1]),B1.out⟩
    |true=>
     cases h2:inR lo (-999999999) 999999999 with
     |false=>
      have x3:=za A1.out 3;have x4:=za A1.out 4;have x5:=za A1.out 5;have x6:=za A1.out 6;simp only[qk,ql,qm]at x3 x4 x5 x6;go_wp2_with (first|(go_at_call 14;refine(yd _ _ _ _).mono ?_;rintro e w' ⟨rfl,hw⟩;rw[hw];clear hw)|(go_at_call 82;refine(zC n _).mono ?_;rintro e w' ⟨rfl,hw⟩;rw[hw];clear hw)|(go_at_call 59;refine(zK _ _).mono ?_;rintro e w' ⟨rfl,hw⟩;rw[hw];clear hw));go_ret;rw[hv.out];exact⟨zH (by simp[nmB,←zD,hN,exB,hx,hy2,yc,h1,h2]),B1.out⟩
     |true=>
      have x3:=za A1.out 3;have x4:=za A1.out 4;have x5:=za A1.out 5;have x6:=za A1.out 6;simp only[qk,ql,qm]at x3 x4 x5 x6;go_wp2_with (first|(go_at_call 14;refine(yd _ _ _ _).mono ?_;rintro e w' ⟨rfl,hw⟩;rw[hw];clear hw)|(go_at_call 82;refine(zC n _).mono ?_;rintro e w' ⟨rfl,hw⟩;rw[hw];clear hw)|(go_at_call 59;refine(zK _ _).mono ?_;rintro e w' ⟨rfl,hw⟩;rw[hw];clear hw));go_ret;rw[hv.out];exact⟨zH (by simp[nmB,←zD,hN,exB,hx,hy2,yc,h1,h2]),B1.out⟩
theorem good9 (n:List UInt8) (nE nF:Nat) (E F:Nat→Po) (K lo hi:Int) (aE aF:Option Addr) (cE cF:Nat) (w:World) (hE:zq w aE nE 3 (fun j=>(E j).cells)) (hF:zq w aF nF 3 (fun j=>(F j).cells)) (hnE:nE≤1000000) (hnF:nF≤1000000):
  Calls Tryd.prog 69 #[.agg #[.int .i64 9,.string ⟨n.toArray⟩,.slice aE nE cE,.slice aF nF cF,.int .i64 K,.int .i64 lo,.int .i64 hi]] w fun e w'=>e=.returned (.bool (itB ⟨9,n,nE,nF,E,F,K,lo,hi⟩))∧Below w.heap.size w w':=by
 have hv:Hid (itB ⟨9,n,nE,nF,E,F,K,lo,hi⟩=(nmB n false&&(exB E nE true&&(exB F nF false&&(yc K 2&&(yc lo 0&&yc hi 0)))))):=rfl;have HE:=Hm hE;have HF:=Hm hF;clear hE hF;have t0:inR 9 1 9=true:=by decide
 have t1:heB 9=true:=by decide
 have hB:=Hm (zf (Below.refl w.heap.size w) (.cells #[.int .i64 9,.string ⟨n.toArray⟩,.slice aE nE cE,.slice aF nF cF,.int .i64 K,.int .i64 lo,.int .i64 hi] 77));obtain⟨B,hBe⟩:∃B,B=itB ⟨9,n,nE,nF,E,F,K,lo,hi⟩:=⟨_,rfl⟩;rw[←hBe]at hv;rw[←hBe];clear hBe
 cases hN:n.isEmpty with
 |false=>
  go_enter Tryd.func69,Tryd.ntmps69;go_wp2_with (first|(go_at_call 14;refine(yd _ _ _ _).mono ?_;rintro e w' ⟨rfl,hw⟩;rw[hw];clear hw)|(go_at_call 82;refine(zC n _).mono ?_;rintro e w' ⟨rfl,hw⟩;rw[hw];clear hw)|(go_at_call 59;refine(zK _ _).mono ?_;rintro e w' ⟨rfl,hw⟩;rw[hw];clear hw));go_ret;rw[hv.out];exact⟨zH (by simp[nmB,←zD,hN]),hB.out⟩
 |true=>
  go_enter Tryd.func69,Tryd.ntmps69;go_wp2_with (first|(go_at_call 14;refine(yd _ _ _ _).mono ?_;rintro e w' ⟨rfl,hw⟩;rw[hw];clear hw)|(go_at_call 82;refine(zC n _).mono ?_;rintro e w' ⟨rfl,hw⟩;rw[hw];clear hw)|(go_at_call 59;refine(zK _ _).mono ?_;rintro e w' ⟨rfl,hw⟩;rw[hw];clear hw));refine(yS E _ _ _ _ (HE.out.below hB.out) hnE).mono ?_;rintro e w1 ⟨rfl,hb1⟩;have B1:=Hm (zg hB.out hb1);have A1:=Hm (ze (zi w _) hb1);clear hb1 hB
  cases hx:xo E nE with
  |false=>
   go_wp2;go_ret;rw[hv.out];exact⟨zH (by simp[nmB,←zD,hN,exB,hx]),B1.out⟩
  |true=>
   cases hy:((nF:Int)==0)with
   |false=>
    have hy1:(0:Int)<(nF:Int):=by simp at hy;omega
    have hy3:0<nF:=by omega
    have hy2:(nF==0)=false:=by simp at hy ⊢;omega
    have x3:=za A1.out 3;have x4:=za A1.out 4;have x5:=za A1.out 5;have x6:=za A1.out 6;simp only[qk,ql,qm]at x3 x4 x5 x6;go_wp2_with (first|(go_at_call 14;refine(yd _ _ _ _).mono ?_;rintro e w' ⟨rfl,hw⟩;rw[hw];clear hw)|(go_at_call 82;refine(zC n _).mono ?_;rintro e w' ⟨rfl,hw⟩;rw[hw];clear hw)|(go_at_call 59;refine(zK _ _).mono ?_;rintro e w' ⟨rfl,hw⟩;rw[hw];clear hw));go_ret;rw[hv.out];exact⟨zH (by simp[nmB,←zD,hN,exB,hx,hy2]),B1.out⟩
   |true=>
    have hy0:nF=0:=by simpa using hy
    have hy1:decide ((0:Int)<(nF:Int))=false:=by simp;omega
    have hy3:decide (0<nF)=false:=by simp;omega
    have hy2:(nF==0)=true:=by simp[hy0]
    clear hy hy0
    cases h1:inR K 0 999999999 with
    |false=>
     have x3:=za A1.out 3;have x4:=za A1.out 4;have x5:=za A1.out 5;have x6:=za A1.out 6;simp only[qk,ql,qm]at x3 x4 x5 x6;go_wp2_with (first|(go_at_call 14;refine(yd _ _ _ _).mono ?_;rintro e w' ⟨rfl,hw⟩;rw[hw];clear hw)|(go_at_call 82;refine(zC n _).mono ?_;rintro e w' ⟨rfl,hw⟩;rw[hw];clear hw)|(go_at_call 59;refine(zK _ _).mono ?_;rintro e w' ⟨rfl,hw⟩;rw[hw];clear hw));go_ret;rw[hv.out];exact⟨zH (by simp[nmB,←zD,hN,exB,hx,hy2,yc,h1]),B1.out⟩
    |true=>
     cases h2:(lo==0)with
     |false=>
      have x3:=za A1.out 3;have x4:=za A1.out 4;have x5:=za A1.out 5;have x6:=za A1.out 6;simp only[qk,ql,qm]at x3 x4 x5 x6;go_wp2_with (first|(go_at_call 14;refine(yd _ _ _ _).mono ?_;rintro e w' ⟨rfl,hw⟩;rw[hw];clear hw)|(go_at_call 82;refine(zC n _).mono ?_;rintro e w' ⟨rfl,hw⟩;rw[hw];clear hw)|(go_at_call 59;refine(zK _ _).mono ?_;rintro e w' ⟨rfl,hw⟩;rw[hw];clear hw));go_ret;rw[hv.out];exact⟨zH (by simp[nmB,←zD,hN,exB,hx,hy2,yc,h1,h2]),B1.out⟩
     |true=>
      have x3:=za A1.out 3;have x4:=za A1.out 4;have x5:=za A1.out 5;have x6:=za A1.out 6;simp only[qk,ql,qm]at x3 x4 x5 x6;go_wp2_with (first|(go_at_call 14;refine(yd _ _ _ _).mono ?_;rintro e w' ⟨rfl,hw⟩;rw[hw];clear hw)|(go_at_call 82;refine(zC n _).mono ?_;rintro e w' ⟨rfl,hw⟩;rw[hw];clear hw)|(go_at_call 59;refine(zK _ _).mono ?_;rintro e w' ⟨rfl,hw⟩;rw[hw];clear hw));go_ret;rw[hv.out];exact⟨zH (by simp[nmB,←zD,hN,exB,hx,hy2,yc,h1,h2]),B1.out⟩
end Go.Proofs.YtbdldkpifanaiaaDoor.Syn
