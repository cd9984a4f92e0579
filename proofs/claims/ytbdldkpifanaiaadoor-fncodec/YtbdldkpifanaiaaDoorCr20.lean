import Derived.Test.YtbdldkpifanaiaaDoorCr19
set_option maxHeartbeats 6400000
set_option maxRecDepth 100000
set_option linter.unusedVariables false
set_option linter.unusedSimpArgs false
open List renaming length_append → qg, append_assoc → qj, getElem?_toArray → qk, getElem?_cons_zero → ql, getElem?_cons_succ → qm
open Nat renaming le_refl → qn
namespace Go.Proofs.YtbdldkpifanaiaaDoor.Cd
open Go Go.RowKit Mem Syn
attribute [local go_sem ↓] Go.wp_at_zero Go.wp_at_succ
def Zs (a b:Int):Int:=if b<a then a else b
theorem maxS (a b:Int) (w:World):Calls Tryd.prog 47 #[.int .i64 a,.int .i64 b] w fun e w'=>e=.returned (.int .i64 (Zs a b))∧w'=w:=by
 by_cases h:b<a
 ·go_enter Tryd.func47,Tryd.ntmps47
  go_wp2;go_ret;exact⟨zP (by simp[Zs,h]),rfl⟩
 ·have h':decide (b<a)=false:=by simpa using h
  go_enter Tryd.func47,Tryd.ntmps47;go_wp2;go_ret;exact⟨zP (by unfold Zs;rw[if_neg (by omega)]),rfl⟩
def isJ (p:Int):Bool:=p==15||(p==16||p==17)
theorem Te (p:Int) (w:World):Calls Tryd.prog 63 #[.int .i64 p] w fun e w'=>e=.returned (.bool (isJ p))∧w'=w:=by
 by_cases h1:p=15
 ·subst h1;go_enter Tryd.func63,Tryd.ntmps63;go_wp2;go_ret;exact⟨rfl,rfl⟩
 by_cases h2:p=16
 ·subst h2;go_enter Tryd.func63,Tryd.ntmps63;go_wp2;go_ret;exact⟨rfl,rfl⟩
 have e1:(p==15)=false:=by simpa using h1
 have e2:(p==16)=false:=by simpa using h2
 go_enter Tryd.func63,Tryd.ntmps63;go_wp2;go_ret;exact⟨zH (by simp[isJ,e1,e2]),rfl⟩
def top (x:Is):Int:=
 if x.p=1∨x.p=13∨x.p=14∨x.p=15∨x.p=16∨x.p=18∨x.p=20 then wrap64 (x.a+1)
 else if x.p=2∨x.p=3∨x.p=4 then wrap64 (Zs x.a x.b+1)
 else if x.p=19 then wrap64 (x.b+1)else if x.p=17 then 0 else wrap64 (Zs x.a (Zs x.b x.c)+1)
theorem topS (x:Is) (w:World):Calls Tryd.prog 48 #[.agg #[.int .i64 x.p,.int .i64 x.a,.int .i64 x.b,.int .i64 x.c]] w fun e w'=>e=.returned (.int .i64 (top x))∧Below w.heap.size w w':=by
 obtain⟨p,a,b,c⟩:=x;dsimp only;have MX:Hid (∀a b w,Calls Tryd.prog 47 #[.int .i64 a,.int .i64 b] w fun e w'=>e=.returned (.int .i64 (Zs a b))∧w'=w):=fun a b w=>maxS a b w
 by_cases h1:p=1
 ·subst h1
  go_enter Tryd.func48,Tryd.ntmps48;go_wp2_with (go_at_call 47;refine(MX.out _ _ _).mono ?_;rintro e w' ⟨rfl,hw⟩;rw[hw];clear hw);go_ret;exact⟨zP (by simp[top]),zf (Below.refl _ _) _⟩
 by_cases h13:p=13
 ·subst h13
  go_enter Tryd.func48,Tryd.ntmps48;go_wp2_with (go_at_call 47;refine(MX.out _ _ _).mono ?_;rintro e w' ⟨rfl,hw⟩;rw[hw];clear hw);go_ret;exact⟨zP (by simp[top]),zf (Below.refl _ _) _⟩
 by_cases h14:p=14
 ·subst h14
  go_enter Tryd.func48,Tryd.ntmps48;go_wp2_with (go_at_call 47;refine(MX.out _ _ _).mono ?_;rintro e w' ⟨rfl,hw⟩;rw[hw];clear hw);go_ret;exact⟨zP (by simp[top]),zf (Below.refl _ _) _⟩
 by_cases h15:p=15
 ·subst h15
  go_enter Tryd.func48,Tryd.ntmps48;go_wp2_with (go_at_call 47;refine(MX.out _ _ _).mono ?_;rintro e w' ⟨rfl,hw⟩;rw[hw];clear hw);go_ret;exact⟨zP (by simp[top]),zf (Below.refl _ _) _⟩
 by_cases h16:p=16
 ·subst h16
  go_enter Tryd.func48,Tryd.ntmps48;go_wp2_with (go_at_call 47;refine(MX.out _ _ _).mono ?_;rintro e w' ⟨rfl,hw⟩;rw[hw];clear hw);go_ret;exact⟨zP (by simp[top]),zf (Below.refl _ _) _⟩
 by_cases h18:p=18
 ·subst h18
  go_enter Tryd.func48,Tryd.ntmps48;go_wp2_with (go_at_call 47;refine(MX.out _ _ _).mono ?_;rintro e w' ⟨rfl,hw⟩;rw[hw];clear hw);go_ret;exact⟨zP (by simp[top]),zf (Below.refl _ _) _⟩
 by_cases h20:p=20
 ·subst h20
  go_enter Tryd.func48,Tryd.ntmps48;go_wp2_with (go_at_call 47;refine(MX.out _ _ _).mono ?_;rintro e w' ⟨rfl,hw⟩;rw[hw];clear hw);go_ret;exact⟨zP (by simp[top]),zf (Below.refl _ _) _⟩
 by_cases h2:p=2
 ·subst h2
  go_enter Tryd.func48,Tryd.ntmps48;go_wp2_with (go_at_call 47;refine(MX.out _ _ _).mono ?_;rintro e w' ⟨rfl,hw⟩;rw[hw];clear hw);go_ret;exact⟨zP (by simp[top]),zf (Below.refl _ _) _⟩
 by_cases h3:p=3
 ·subst h3
  go_enter Tryd.func48,Tryd.ntmps48;go_wp2_with (go_at_call 47;refine(MX.out _ _ _).mono ?_;rintro e w' ⟨rfl,hw⟩;rw[hw];clear hw);go_ret;exact⟨zP (by simp[top]),zf (Below.refl _ _) _⟩
 by_cases h4:p=4
 ·subst h4
  go_enter Tryd.func48,Tryd.ntmps48;go_wp2_with (go_at_call 47;refine(MX.out _ _ _).mono ?_;rintro e w' ⟨rfl,hw⟩;rw[hw];clear hw);go_ret;exact⟨zP (by simp[top]),zf (Below.refl _ _) _⟩
 by_cases h19:p=19
 ·subst h19
  go_enter Tryd.func48,Tryd.ntmps48;go_wp2_with (go_at_call 47;refine(MX.out _ _ _).mono ?_;rintro e w' ⟨rfl,hw⟩;rw[hw];clear hw);go_ret;exact⟨zP (by simp[top]),zf (Below.refl _ _) _⟩
 by_cases h17:p=17
 ·subst h17
  go_enter Tryd.func48,Tryd.ntmps48;go_wp2_with (go_at_call 47;refine(MX.out _ _ _).mono ?_;rintro e w' ⟨rfl,hw⟩;rw[hw];clear hw);go_ret;exact⟨zP (by simp[top]),zf (Below.refl _ _) _⟩
 have e1:(p==1)=false:=by simpa using h1
 have e13:(p==13)=false:=by simpa using h13
 have e14:(p==14)=false:=by simpa using h14
 have e15:(p==15)=false:=by simpa using h15
 have e16:(p==16)=false:=by simpa using h16
 have e18:(p==18)=false:=by simpa using h18
 have e20:(p==20)=false:=by simpa using h20
 have e2:(p==2)=false:=by simpa using h2
 have e3:(p==3)=false:=by simpa using h3
 have e4:(p==4)=false:=by simpa using h4
 have e19:(p==19)=false:=by simpa using h19
 have e17:(p==17)=false:=by simpa using h17
 obtain⟨W1,hW1⟩:∃W1,W1=w.alloc (.cells #[.int .i64 p,.int .i64 a,.int .i64 b,.int .i64 c] 60):=⟨_,rfl⟩;have B1:Hid (Below w.heap.size w W1):=by rw[hW1];exact zf (Below.refl _ _) _
 have x0:W1.cell? ⟨w.heap.size,0,none⟩=some (.int .i64 p):=by rw[hW1];exact za (zi _ _) 0
 have x1:W1.cell? ⟨w.heap.size,1,none⟩=some (.int .i64 a):=by rw[hW1];exact za (zi _ _) 1
 have x2:W1.cell? ⟨w.heap.size,2,none⟩=some (.int .i64 b):=by rw[hW1];exact za (zi _ _) 2
 have x3:W1.cell? ⟨w.heap.size,3,none⟩=some (.int .i64 c):=by rw[hW1];exact za (zi _ _) 3
 go_enter Tryd.func48,Tryd.ntmps48;go_upto_region 1 with fail;rw[←hW1];clear hW1;go_wp2_with fail
 go_region_held3 (fun w'=>w'.cell? ⟨w.heap.size,1,none⟩=some (.int .i64 a)∧w'.cell? ⟨w.heap.size,2,none⟩=some (.int .i64 b)∧w'.cell? ⟨w.heap.size,3,none⟩=some (.int .i64 c)) (go_keep) ((go_at_call 47;refine(MX.out _ _ _).mono ?_;rintro e w' ⟨rfl,hw⟩;rw[hw];clear hw))
 go_wp2;go_ret;exact⟨zP (by simp[top,h1,h13,h14,h15,h16,h18,h20,h2,h3,h4,h19,h17]<;>exact IntWalk.i64_left _),B1.out.drew⟩
theorem OI.mk6 (w:World) (x0 x1 x2 x3 x4 x5:Is):OI w.heap.size (w.alloc (.cells (x0.cells++x1.cells++x2.cells++x3.cells++x4.cells++x5.cells).toArray 60)) (.slice (some ⟨w.heap.size,0,none⟩) 6 6) [x0,x1,x2,x3,x4,x5]:=by
 refine⟨rfl,Or.inr ⟨w.heap.size,6,_,rfl,qn _,zi _ _,qn _,by unfold maxLen;omega,rfl,?_⟩⟩;simp[isC,Is.cells]
def within (x wk lo hi u:Int):List Is:=[⟨1,wk,lo,0⟩,⟨9,wk,wk,x⟩,⟨18,wk,u,0⟩,⟨1,wk,hi,0⟩,⟨9,wk,x,wk⟩,⟨18,wk,u,0⟩]
theorem Wz (x wk lo hi u:Int) (w:World):Calls Tryd.prog 60 #[.int .i64 x,.int .i64 wk,.int .i64 lo,.int .i64 hi,.int .i64 u] w fun e w'=>GenP w w' (within x wk lo hi u) e:=by
 have B0:Hid (Below w.heap.size w w):=Below.refl _ _;go_enter Tryd.func60,Tryd.ntmps60;go_wp2_with (go_at_call 39;refine(Dec.insS 1 wk lo 0 _).mono ?_);rintro e w1 ⟨rfl,hb⟩;have B0:=Hm (zg B0.out hb);clear hb;refine Hid.out ?_;refine Lib.hid ?_;go_wp2_with (go_at_call 39;refine(Dec.insS 9 wk wk x _).mono ?_);rintro e w1 ⟨rfl,hb⟩;have B0:=Hm (zg B0.out hb);clear hb;refine Hid.out ?_;refine Lib.hid ?_;go_wp2_with (go_at_call 39;refine(Dec.insS 18 wk u 0 _).mono ?_);rintro e w1 ⟨rfl,hb⟩;have B0:=Hm (zg B0.out hb);clear hb;refine Hid.out ?_;refine Lib.hid ?_;go_wp2_with (go_at_call 39;refine(Dec.insS 1 wk hi 0 _).mono ?_);rintro e w1 ⟨rfl,hb⟩;have B0:=Hm (zg B0.out hb);clear hb;refine Hid.out ?_;refine Lib.hid ?_;go_wp2_with (go_at_call 39;refine(Dec.insS 9 wk x wk _).mono ?_);rintro e w1 ⟨rfl,hb⟩
 have B0:=Hm (zg B0.out hb);clear hb;refine Hid.out ?_;refine Lib.hid ?_;go_wp2_with (go_at_call 39;refine(Dec.insS 18 wk u 0 _).mono ?_);rintro e w1 ⟨rfl,hb⟩;have B0:=Hm (zg B0.out hb);clear hb;refine Hid.out ?_;refine Lib.hid ?_;go_wp2;go_ret;exact .mk _ rfl ((OI.mk6 _ ⟨1,wk,lo,0⟩ ⟨9,wk,wk,x⟩ ⟨18,wk,u,0⟩ ⟨1,wk,hi,0⟩ ⟨9,wk,x,wk⟩ ⟨18,wk,u,0⟩).mono B0.out.size) (zf B0.out _)
def plI (k:Nat) (x:Is):Is:=⟨x.p,x.a,if isJ x.p then wrap64 (x.b+(k:Int))else x.b,x.c⟩
def plN (L:List Is):Nat→List Is
 |0=>[]
 |k+1=>plN L k++[plI k (L.getD k ⟨0,0,0,0⟩)]
theorem xr (L:List Is) (k:Nat):(plN L k).length=k:=by
 induction k with
 |zero=>rfl
 |succ k ih=>rw[plN,qg,ih];rfl
theorem ZD:∀(L:List Is) (i j:Nat),i<L.length→j<4→(isC L)[i*4+j]? =(L.getD i ⟨0,0,0,0⟩).cells[j]?
 |[],i,j,h,_=>absurd h (Nat.not_lt_zero _)
 |x::r,0,j,_,hj=>by
  unfold isC;rw[List.flatMap_cons,List.getElem?_append_left (by rw[Is.len];omega)];simp
 |x::r,i+1,j,h,hj=>by
  have:=ZD r i j (by simpa using h) hj;unfold isC at*;rw[List.flatMap_cons,List.getElem?_append_right (by rw[Is.len];omega),Is.len];rw[show(i+1)*4+j-4=i*4+j by omega,this];simp
theorem TG {w:World} {g off:Nat} {L:List Is} (h:∀j u,(isC L)[j]? =some u→w.cell? ⟨g,off+j,none⟩=some u) {i:Nat} (hi:i<L.length):
  w.cell? ⟨g,off+i*4,none⟩=some (.int .i64 (L.getD i ⟨0,0,0,0⟩).p)∧w.cell? ⟨g,off+i*4+1,none⟩=some (.int .i64 (L.getD i ⟨0,0,0,0⟩).a)∧w.cell? ⟨g,off+i*4+2,none⟩=some (.int .i64 (L.getD i ⟨0,0,0,0⟩).b)∧w.cell? ⟨g,off+i*4+3,none⟩=some (.int .i64 (L.getD i ⟨0,0,0,0⟩).c):=
 ⟨h (i*4) _ ((ZD L i 0 hi (by omega)).trans rfl),h (i*4+1) _ ((ZD L i 1 hi (by omega)).trans rfl),h (i*4+2) _ ((ZD L i 2 hi (by omega)).trans rfl),h (i*4+3) _ ((ZD L i 3 hi (by omega)).trans rfl)⟩
theorem VV (L:List Is) (a:Option Addr) (n c:Nat) (w:World) (hr:RdL w (.slice a n c) L) (hl:L.length≤1000000):
  Calls Tryd.prog 46 #[.slice a n c] w fun e w'=>GenP w w' (plN L L.length) e:=by
 obtain⟨i0,hi,hz0,hz1,hz2⟩:=info_parts yI;obtain⟨a',c',he,hc,hr⟩:=hr;injection he with h1 h2 h3;subst h1;subst h3;have HR:=Hm hr;have HN:=Hm h2;rw[←h2]at hl ⊢;clear hr h2 hc;go_enter Tryd.func46,Tryd.ntmps46;go_wp2;go_loopw [3,4] (fun v i wr=>∃k:Nat,k≤n∧i=.int .i64 (k:Int)∧Hid (OI w.heap.size wr v (plN L k))∧Hid (Below w.heap.size w wr)) (fun _ i _=>n- (intOf i).toNat)
 case atStart=>exact⟨0,Nat.zero_le _,rfl,OI.nil w,by unfold Hid;go_grown⟩
 case round=>
  obtain⟨k,hk,rfl,ho,hb⟩:=hrel;have hsz:=hb.out.size;obtain⟨a0,c0,hv⟩:=ho.out.shape;rw[hv,xr]at ho ⊢;clear hv;by_cases hlt:k<n
  ·obtain⟨g,off,ha,hcl⟩:∃g off,a=some ⟨g,off,none⟩∧∀j u,(isC L)[j]? =some u→w.cell? ⟨g,off+j,none⟩=some u:=by
    rcases HR.out with⟨-,-,h0⟩|h
    ·rw[HN.out,h0]at hlt;simp at hlt
    ·exact h
   obtain⟨d0,d1,d2,d3⟩:=TG (fun j u hu=>zw hb.out (hcl j u hu)) (show k<L.length by rw[←HN.out];exact hlt);have hst:Hid (plN L (k+1)=plN L k++[plI k (L.getD k ⟨0,0,0,0⟩)]):=rfl;obtain⟨⟨p,aa,bb,cc⟩,hx⟩:∃x,x=L.getD k ⟨0,0,0,0⟩:=⟨_,rfl⟩;rw[←hx]at d0 d1 d2 d3 hst;dsimp only at d0 d1 d2 d3;clear hx hcl;subst ha;have JS:Hid (∀w,Calls Tryd.prog 63 #[.int .i64 p] w fun e w'=>e=.returned (.bool (isJ p))∧w'=w):=fun w=>Te p w
   have k0:(0:Int)≤(k:Int):=by omega
   have k1:(k:Int)<(n:Int):=by omega
   obtain⟨W1,hW1⟩:∃W1,W1=wr.alloc (.cells #[.int .i64 p,.int .i64 aa,.int .i64 bb,.int .i64 cc] 60):=⟨_,rfl⟩;have B1:Hid (Below wr.heap.size wr W1):=by rw[hW1];exact zf (Below.refl _ _) _
   have K1:Hid (W1.heap[wr.heap.size]? =some (.cells #[.int .i64 p,.int .i64 aa,.int .i64 bb,.int .i64 cc] 60)):=by rw[hW1];exact zi _ _
   go_upto_region 6 with fail;rw[←hW1];clear hW1 d0 d1 d2 d3;have x0:=za K1.out 0;have x2:=za K1.out 2;simp only[qk,ql,qm]at x0 x2
   cases hj:isJ p with
   |true=>
    rw[hj]at JS;have hpl:plI k ⟨p,aa,bb,cc⟩=⟨p,aa,wrap64 (bb+(k:Int)),cc⟩:=by simp[plI,hj]
    rw[hpl]at hst;clear hpl hj;have g2:=zb K1.out 2;obtain⟨Z,hZ⟩:∃Z,Z=W1.setCell ⟨wr.heap.size,2,none⟩ (.int .i64 (wrap64 (bb+(k:Int)))):=⟨_,rfl⟩;have BZ:Hid (Below wr.heap.size wr Z):=by rw[hZ];exact zy B1.out _ (qn _) _
    have KZ:Hid (Z.heap[wr.heap.size]? =some (.cells #[.int .i64 p,.int .i64 aa,.int .i64 (wrap64 (bb+(k:Int))),.int .i64 cc] 60)):=by
     unfold Hid;rw[hZ];have:=zk K1.out 2 (.int .i64 (wrap64 (bb+(k:Int))));simpa using this
    go_wp2_with (go_at_call 63;refine(JS.out _).mono ?_);rintro e w' ⟨rfl,hw⟩;rw[hw];clear hw;go_upto_region 8 with fail;rw[←hZ];clear hZ x0 x2 g2 B1 K1;obtain⟨O2,hO2⟩:∃O,O=OI w.heap.size Z (.slice a0 k c0) (plN L k):=⟨_,rfl⟩
    have R2:Hid (Z.ownsRow w.heap.size 60 4 (.slice a0 k c0) k (isC (plN L k))):=by
     have:=ho.out.kept BZ.out;unfold OI at this;rw[xr]at this;exact this
    clear hO2 O2;have x0:=za KZ.out 0;have x1:=za KZ.out 1;have x2:=za KZ.out 2;have x3:=za KZ.out 3;simp only[qk,ql,qm]at x0 x1 x2 x3;have hzs:=BZ.out.size;have B5:=Hm (zg hb.out BZ.out);go_wp2_with (at_builtin;refine wpList_append_own _ rfl _ _ 23 rfl w.heap.size 60 i0 (.agg #[.int .i64 0,.int .i64 0,.int .i64 0,.int .i64 0]) 4 32 Tryd.underlying23 hi hz0 hz1 hz2 rfl (by decide) _ _ _ rfl (R2.out.alloc _) ⟨Z.heap.size,0,none⟩ 1 1 (isC [⟨p,aa,wrap64 (bb+(k:Int)),cc⟩]) rfl rfl (xk Z ⟨p,aa,wrap64 (bb+(k:Int)),cc⟩ 60) (ym _) (by unfold maxLen;omega) (by omega) (by simp;omega) ?_);intro v4 w4 hown hgrow _
    have O4:Hid (OI w.heap.size w4 v4 (plN L (k+1))):=by
     unfold Hid;rw[hst.out];exact OI.snoc (xr L k).symm hown
    have hbZ:=Hm (zf B5.out (.cells #[.int .i64 p,.int .i64 aa,.int .i64 (wrap64 (bb+(k:Int))),.int .i64 cc] 60));have B4:Hid (Below w.heap.size w w4):=hbZ.out.grown hgrow hbZ.out.size (fun k hk=>(R2.out.lt k hk).1);clear hown hgrow hbZ;refine Hid.out ?_;refine Lib.hid ?_;go_wp2;exact⟨⟨k+1,by omega,by go_num,O4,B4⟩,by simp[intOf];omega⟩
   |false=>
    rw[hj]at JS;have hpl:plI k ⟨p,aa,bb,cc⟩=⟨p,aa,bb,cc⟩:=by simp[plI,hj]
    rw[hpl]at hst;clear hpl hj;go_wp2_with (go_at_call 63;refine(JS.out _).mono ?_);rintro e w' ⟨rfl,hw⟩;rw[hw];clear hw x0 x2;obtain⟨O2,hO2⟩:∃O,O=OI w.heap.size W1 (.slice a0 k c0) (plN L k):=⟨_,rfl⟩
    have R2:Hid (W1.ownsRow w.heap.size 60 4 (.slice a0 k c0) k (isC (plN L k))):=by
     have:=ho.out.kept B1.out;unfold OI at this;rw[xr]at this;exact this
    clear hO2 O2;have x0:=za K1.out 0;have x1:=za K1.out 1;have x2:=za K1.out 2;have x3:=za K1.out 3;simp only[qk,ql,qm]at x0 x1 x2 x3;have hzs:=B1.out.size;have B5:=Hm (zg hb.out B1.out);go_wp2_with (at_builtin;refine wpList_append_own _ rfl _ _ 23 rfl w.heap.size 60 i0 (.agg #[.int .i64 0,.int .i64 0,.int .i64 0,.int .i64 0]) 4 32 Tryd.underlying23 hi hz0 hz1 hz2 rfl (by decide) _ _ _ rfl (R2.out.alloc _) ⟨W1.heap.size,0,none⟩ 1 1 (isC [⟨p,aa,bb,cc⟩]) rfl rfl (xk W1 ⟨p,aa,bb,cc⟩ 60) (ym _) (by unfold maxLen;omega) (by omega) (by simp;omega) ?_);intro v4 w4 hown hgrow _
    have O4:Hid (OI w.heap.size w4 v4 (plN L (k+1))):=by
     unfold Hid;rw[hst.out];exact OI.snoc (xr L k).symm hown
    have hbZ:=Hm (zf B5.out (.cells #[.int .i64 p,.int .i64 aa,.int .i64 (bb),.int .i64 cc] 60));have B4:Hid (Below w.heap.size w w4):=hbZ.out.grown hgrow hbZ.out.size (fun k hk=>(R2.out.lt k hk).1);clear hown hgrow hbZ;refine Hid.out ?_;refine Lib.hid ?_;go_wp2;exact⟨⟨k+1,by omega,by go_num,O4,B4⟩,by simp[intOf];omega⟩
  ·obtain rfl:k=n:=by omega
   go_wp2;go_ret;exact .mk _ rfl ho.out hb.out
theorem gi (P:Pr) (a:Option Addr) (c:Nat) (L:Nat→Lo) (hPn:P.n≤1048576) (nm:List UInt8) (ta tb tc:Tr) (hwa:ta.wf) (hwb:tb.wf) (hwc:tc.wf) (hops:∀o∈pf ta++pf tb++pf tc++[(⟨10,2,nm⟩:Po)],opB o=true) (iha:xE P a c L ta) (ihb:xE P a c L tb) (ihc:xE P a c L tc) (r:Int) (b off m cap:Nat) (w:World) (hP:yr w a P L) (hr:RdP w b off (pf ta++pf tb++pf tc++[⟨10,2,nm⟩])) (hm:m=(pf ta++pf tb++pf tc).length) (hcap:m+1≤cap) (hmb:m+1≤100000) (hr0:0≤r) (hr1:r+(m+1:Nat)≤200000):
  Calls Tryd.prog 45 #[.agg #[.slice a P.n c],.slice (some ⟨b,off,none⟩) (m+1) cap,.int .i64 r] w fun e w'=>GenP w w' (gen (zG P) ta r++([⟨15,r,((gen (zG P) tb r).length:Int)+2,0⟩]++(gen (zG P) tb r++([⟨17,0,((gen (zG P) tc r).length:Int)+1,0⟩]++gen (zG P) tc r)))) e:=by
 obtain⟨c0,c1,c2⟩:=hr m (by rw[qg,←hm];simp);have eo:(pf ta++pf tb++pf tc++[(⟨10,2,nm⟩:Po)]).getD m ⟨0,0,[]⟩=⟨10,2,nm⟩:=by rw[List.getD_eq_getElem?_getD,List.getElem?_append_right (by omega),hm];simp
 rw[eo]at c0 c1 c2;dsimp only at c0 c1 c2;clear eo;obtain⟨V,hV⟩:∃V,V=w.alloc (.cells #[.slice a P.n c] 54):=⟨_,rfl⟩;have d0:V.cell? ⟨b,off+m*3,none⟩=some (.int .i64 10):=by rw[hV];exact zr c0 _
 have d1:V.cell? ⟨b,off+m*3+1,none⟩=some (.int .i64 2):=by rw[hV];exact zr c1 _
 have d2:V.cell? ⟨b,off+m*3+2,none⟩=some (.string ⟨nm.toArray⟩):=by rw[hV];exact zr c2 _
 obtain⟨W1,hW1⟩:∃W1,W1=V.alloc (.cells #[.int .i64 10,.int .i64 2,.string ⟨nm.toArray⟩] 97):=⟨_,rfl⟩;have B1:Hid (Below w.heap.size w W1):=by rw[hW1,hV];exact zf (zf (Below.refl _ _) _) _
 have P1:Hid (W1.heap[w.heap.size]? =some (.cells #[.slice a P.n c] 54)):=by rw[hW1,hV];exact zh (zi _ _) _
 have O1:Hid (W1.heap[w.heap.size+1]? =some (.cells #[.int .i64 10,.int .i64 2,.string ⟨nm.toArray⟩] 97)):=by rw[hW1,hV];exact zx _ _ _
 have hVs:V.heap.size=w.heap.size+1:=by rw[hV];simp
 have HP:=Hm hP;have HR:=Hm hr;have HM:=Hm hm;clear hP hr hm c0 c1 c2;have t1:IntKind.i64.wrap (((m+1:Nat):Int) -1)=(m:Int):=by rw[show((m+1:Nat):Int) -1=(m:Int) by omega];exact wrap_small _ (by omega) (by omega)
 have t2:IntKind.i64.wrap ((m:Int)+1-1)=(m:Int):=by rw[show(m:Int)+1-1=(m:Int) by omega];exact wrap_small _ (by omega) (by omega)
 have m0:(0:Int)≤(m:Int):=by omega
 have m1:(m:Int)<(m:Int)+1:=by omega
 have m2:(m:Int)≤(cap:Int):=by omega
 have m3:(m:Int)+1≤(cap:Int):=by omega
 have HV:=Hm hV;have HW:=Hm hW1;have HVS:=Hm hVs;clear hV hW1 hVs;have hpz:=(xg hwa).z;have hqz:=(xg hwb).z;have hsz:=(xg hwc).z;have hpq:m=(pf ta).length+(pf tb).length+(pf tc).length:=by rw[HM.out,qg,qg]
 obtain⟨p,hpp⟩:∃p,p=(pf ta).length:=⟨_,rfl⟩;obtain⟨q,hqq⟩:∃q,q=(pf ta++pf tb).length:=⟨_,rfl⟩;have hq2:q=p+(pf tb).length:=by rw[hqq,qg,hpp]
 have FR:=Hm (Xb (pf ta++pf tb++pf tc) (pf ta++pf tb) (pf tc) b off m cap W1 rfl (xg hwc) (HR.out.left.below B1.out) (fun o ho=>hops o (List.mem_append_left _ ho)) HM.out (by omega))
 have F2:Hid (∀W,Below w.heap.size w W→Calls Tryd.prog 62 #[.slice (some ⟨b,off,none⟩) q cap] W fun e w'=>e=.returned (.int .i64 (p:Int))∧Below W.heap.size W w'):=fun W hW=>by
  rw[hpp];exact Xb (pf ta++pf tb) (pf ta) (pf tb) b off q cap W rfl (xg hwb) (HR.out.left.left.below hW) (fun o ho=>hops o (List.mem_append_left _ (List.mem_append_left _ ho))) hqq (by omega)
 have RA:Hid (RdP w b off (pf ta)):=HR.out.left.left.left;have RB:Hid (RdP w b (off+p*3) (pf tb)):=HR.out.left.left.right hpp;have RC:Hid (RdP w b (off+q*3) (pf tc)):=HR.out.left.right hqq;have hal:=zT (zG P) ta r;have hbl:=zT (zG P) tb r;have hcl:=zT (zG P) tc r;have IA:Hid (∀W,Below w.heap.size w W→Calls Tryd.prog 45 #[.agg #[.slice a P.n c],.slice (some ⟨b,off,none⟩) p cap,.int .i64 r] W fun e w'=>GenP W w' (gen (zG P) ta r) e):=fun W hW=>iha r b off p cap W (HP.out.below hW) (RA.out.below hW) hpp (by omega) (by omega) hr0 (by omega)
 have IB:Hid (∀W,Below w.heap.size w W→Calls Tryd.prog 45 #[.agg #[.slice a P.n c],.slice (some ⟨b,off+p*3,none⟩) (q-p) (cap-p),.int .i64 r] W fun e w'=>GenP W w' (gen (zG P) tb r) e):=fun W hW=>ihb r b (off+p*3) (q-p) (cap-p) W (HP.out.below hW) (RB.out.below hW) (by omega) (by omega) (by omega) hr0 (by omega)
 have IC:Hid (∀W,Below w.heap.size w W→Calls Tryd.prog 45 #[.agg #[.slice a P.n c],.slice (some ⟨b,off+q*3,none⟩) (m-q) (cap-q),.int .i64 r] W fun e w'=>GenP W w' (gen (zG P) tc r) e):=fun W hW=>ihc r b (off+q*3) (m-q) (cap-q) W (HP.out.below hW) (RC.out.below hW) (by omega) (by omega) (by omega) hr0 (by omega)
 rw[←hqq]at FR;rw[←hpp]at hal hpz hpq;obtain⟨GA,hGA⟩:∃G,G=gen (zG P) ta r:=⟨_,rfl⟩;obtain⟨GB,hGB⟩:∃G,G=gen (zG P) tb r:=⟨_,rfl⟩;obtain⟨GC,hGC⟩:∃G,G=gen (zG P) tc r:=⟨_,rfl⟩;rw[←hGA]at IA hal ⊢;rw[←hGB]at IB hbl ⊢;rw[←hGC]at IC hcl ⊢;clear hGA hGB hGC hpp hqq;have hla:GA.length≤1000000:=by omega
 have hlb:GB.length≤1000000:=by omega
 have hlc:GC.length≤1000000:=by omega
 have hpq':p<q:=by omega
 have hqm:q<m:=by omega
 clear hal hbl hcl hpq hops hwa hwb hwc hq2 hpz hqz hsz;have p0:(0:Int)≤(p:Int):=by omega
 have q0:(0:Int)≤(q:Int):=by omega
 have p1:(p:Int)≤(q:Int):=by omega
 have p2:(p:Int)≤(cap:Int):=by omega
 have p3:¬cap=p:=by omega
 have p4:(p:Int)≤(m:Int):=by omega
 have q1:(q:Int)≤(m:Int):=by omega
 have q2:(q:Int)≤(cap:Int):=by omega
 have q3:¬cap=q:=by omega
 go_enter Tryd.func45,Tryd.ntmps45;go_upto_region 1 with fail;rw[←HV.out];go_upto_region 2 with fail;rw[HVS.out,←HW.out];clear HV HW HVS d0 d1 d2;have x0:=za P1.out 0;have y0:=za O1.out 0;have y1:=za O1.out 1;have y2:=za O1.out 2;simp only[qk,ql,qm]at x0 y0 y1 y2;go_wp2_with (go_at_call 62;refine FR.out.mono ?_);rintro e w2 ⟨rfl,hb⟩;have B2:=Hm (zg B1.out hb);have P2:=Hm (ze P1.out hb);have O2:=Hm (ze O1.out hb);clear hb x0 y0 y1 y2 B1 P1 O1;have y0:=za O2.out 0;have y1:=za O2.out 1;simp only[qk,ql,qm]at y0 y1;refine Hid.out ?_;refine Lib.hid ?_;go_wp2_with (go_at_call 62;refine(F2.out _ B2.out).mono ?_);rintro e w3 ⟨rfl,hb⟩
 have B3:=Hm (zg B2.out hb);have P3:=Hm (ze P2.out hb);clear hb y0 y1 B2 P2 O2;have x0:=za P3.out 0;simp only[qk,ql,qm]at x0;refine Hid.out ?_;refine Lib.hid ?_;go_wp2_with fail;go_still_tail 5,(by kernel_rfl);go_wp2_with (go_at_call 45;refine(IA.out _ B3.out.drew).mono ?_);rintro e w4 ⟨v4,rfl,ho4,hb4⟩;obtain⟨a4,c4,rfl⟩:=ho4.shape;have B4:=Hm (zg B3.out.drew hb4);have P4:=Hm (ze (ze P3.out (Below.refl _ _).drew) hb4);have RA4:=Hm ho4.rd;clear hb4 ho4 x0 B3 P3;have x0:=za P4.out 0;simp only[qk,ql,qm]at x0;refine Hid.out ?_;refine Lib.hid ?_;go_wp2_with fail;go_still_tail 6,(by kernel_rfl);go_wp2_with (go_at_call 45;refine(IB.out _ B4.out.drew).mono ?_)
 rintro e w5 ⟨v5,rfl,ho5,hb5⟩;obtain⟨a5,c5,rfl⟩:=ho5.shape;have B5:=Hm (zg B4.out.drew hb5);have P5:=Hm (ze (ze P4.out (Below.refl _ _).drew) hb5);have RA5:=Hm ((RA4.out.below (Below.refl _ _).drew).below hb5);have RB5:=Hm ho5.rd;clear hb5 ho5 x0 B4 P4 RA4;have x0:=za P5.out 0;simp only[qk,ql,qm]at x0;refine Hid.out ?_;refine Lib.hid ?_;go_wp2_with fail;go_still_tail 5,(by kernel_rfl);go_wp2_with (go_at_call 45;refine(IC.out _ B5.out.drew).mono ?_);rintro e w6 ⟨v6,rfl,ho6,hb6⟩;obtain⟨a6,c6,rfl⟩:=ho6.shape;have B6:=Hm (zg B5.out.drew hb6);have RA6:=Hm ((RA5.out.below (Below.refl _ _).drew).below hb6);have RB6:=Hm ((RB5.out.below (Below.refl _ _).drew).below hb6);have RC6:=Hm ho6.rd
 clear hb6 ho6 x0 B5 P5 RA5 RB5;obtain⟨na,hna⟩:∃n,n=GA.length:=⟨_,rfl⟩;obtain⟨nb,hnb⟩:∃n,n=GB.length:=⟨_,rfl⟩;obtain⟨nc,hnc⟩:∃n,n=GC.length:=⟨_,rfl⟩;rw[←hna]at hla RA6 ⊢;rw[←hnb]at hlb RB6 ⊢;rw[←hnc]at hlc RC6 ⊢;have HNA:=Hm hna;have HNB:=Hm hnb;have HNC:=Hm hnc;clear hna hnb hnc;have u1:IntKind.i64.wrap ((nb:Int)+2)=(nb:Int)+2:=wrap_small _ (by omega) (by omega);have u2:IntKind.i64.wrap ((nc:Int)+1)=(nc:Int)+1:=wrap_small _ (by omega) (by omega);refine Hid.out ?_;refine Lib.hid ?_;go_wp2_with (go_at_call 58;refine(yp 15 r ((nb:Int)+2) 0 _).mono ?_);rintro e w7 ⟨v7,rfl,ho7,hb7⟩;obtain⟨a7,c7,rfl⟩:=ho7.shape;have B7:=Hm (zg B6.out hb7);have RA7:=Hm (RA6.out.below hb7);have RB7:=Hm (RB6.out.below hb7)
 have RC7:=Hm (RC6.out.below hb7);have RJ7:=Hm ho7.rd;clear hb7 ho7 B6 RA6 RB6 RC6;refine Hid.out ?_;refine Lib.hid ?_;go_wp2_with (go_at_call 58;refine(yp 17 0 ((nc:Int)+1) 0 _).mono ?_);rintro e w8 ⟨v8,rfl,ho8,hb8⟩;obtain⟨a8,c8,rfl⟩:=ho8.shape;have B8:=Hm (zg B7.out hb8);have RA8:=Hm (RA7.out.below hb8);have RB8:=Hm (RB7.out.below hb8);have RC8:=Hm (RC7.out.below hb8);have RJ8:=Hm (RJ7.out.below hb8);have RK8:=Hm ho8.rd;clear hb8 ho8 B7 RA7 RB7 RC7 RJ7;refine Hid.out ?_;refine Lib.hid ?_;obtain⟨W9,hW9⟩:∃W,W=w8.alloc (.cells #[.slice a4 na c4,.slice a7 1 c7,.slice a5 nb c5,.slice a8 1 c8,.slice a6 nc c6] 23):=⟨_,rfl⟩;have B9:Hid (Below w8.heap.size w8 W9):=by rw[hW9];exact zf (Below.refl _ _) _
 have K9:Hid (W9.heap[w8.heap.size]? =some (.cells #[.slice a4 na c4,.slice a7 1 c7,.slice a5 nb c5,.slice a8 1 c8,.slice a6 nc c6] 23)):=by rw[hW9];exact zi _ _
 have SQ:=Hm (seqG w8.heap.size 5 5 _ _ W9 (by omega) (cells5 K9.out) (rd5 (RA8.out.below B9.out) (RJ8.out.below B9.out) (RB8.out.below B9.out) (RK8.out.below B9.out) (RC8.out.below B9.out)) (len5 (by rw[←HNA.out];omega) (by simp) (by rw[←HNB.out];omega) (by simp) (by rw[←HNC.out];omega)));have BX:=Hm (zg B8.out B9.out);have HW9:=Hm hW9;clear hW9 B8 RA8 RB8 RC8 RJ8 RK8 K9 B9;go_wp2_with (go_at_call 37;rw[←HW9.out];refine SQ.out.mono ?_);rintro e w10 ⟨v10,rfl,ho10,hb10⟩;have B10:=Hm (zg BX.out hb10);have O10:=Hm (ho10.mono BX.out.size);clear ho10 hb10;go_wp2;go_ret;exact .mk _ rfl (by have:=O10.out;simp only[catL,List.getD_cons_zero,List.getD_cons_succ,List.nil_append]at this;rw[qj,qj,qj]at this;simpa[HNB.out,HNC.out]using this) B10.out
theorem YT (P:Pr) (a:Option Addr) (c:Nat) (L:Nat→Lo) (hPn:P.n≤1048576):∀(t:Tr),t.wf→(∀o∈pf t,opB o=true)→xE P a c L t
 |.leaf ⟨k,v,nm⟩,hw,ho=>fun r b off n cap w hP hr hn hcap hnb hr0 hr1=>by
  simp only[pf]at hr hn;subst hn;have hr':RdP w b off ([]++[⟨k,v,nm⟩]):=hr;simp only[Tr.wf]at hw;have:k=1∨k=2∨k=3∨k=4∨k=5∨k=6:=by omega
  rcases this with rfl|rfl|rfl|rfl|rfl|rfl
  ·exact gl1 P a c L hPn nm v [] r b off 0 cap w hP hr' rfl hcap hnb hr0 hr1
  ·exact gl2 P a c L hPn nm v [] r b off 0 cap w hP hr' rfl hcap hnb hr0 hr1
  ·exact gl3 P a c L hPn nm v [] r b off 0 cap w hP hr' rfl hcap hnb hr0 hr1
  ·exact gl4 P a c L hPn nm v [] r b off 0 cap w hP hr' rfl hcap hnb hr0 hr1
  ·exact gl5 P a c L hPn nm v [] r b off 0 cap w hP hr' rfl hcap hnb hr0 hr1
  ·exact gl6 P a c L hPn nm v [] r b off 0 cap w hP hr' rfl hcap hnb hr0 hr1
 |.pre ⟨k,v,nm⟩ ta,hw,ho=>fun r b off n cap w hP hr hn hcap hnb hr0 hr1=>by
  simp only[pf]at hr hn ho;rw[qg,List.length_singleton]at hn;have ih:=YT P a c L hPn ta hw.2 (fun o h=>ho o (List.mem_append_left _ h));subst hn;rcases hw.1 with h|h
  ·obtain rfl:k=7:=h
   exact gp7 P a c L hPn nm v ta ih r b off _ cap w hP hr rfl hcap hnb hr0 hr1
  ·obtain rfl:k=8:=h
   exact gp8 P a c L hPn nm v ta ih r b off _ cap w hP hr rfl hcap hnb hr0 hr1
 |.bin ⟨k,v,nm⟩ ta tb,hw,ho=>fun r b off n cap w hP hr hn hcap hnb hr0 hr1=>by
  simp only[pf]at hr hn ho;rw[qg,List.length_singleton]at hn;have iha:=YT P a c L hPn ta hw.2.1 (fun o h=>ho o (List.mem_append_left _ (List.mem_append_left _ h)));have ihb:=YT P a c L hPn tb hw.2.2 (fun o h=>ho o (List.mem_append_left _ (List.mem_append_right _ h)));subst hn;obtain⟨h1,h2,h3⟩:=hw.1;dsimp only at h1 h2 h3;subst h1;by_cases e6:v=6
  ·subst e6
   exact gb6 P a c L hPn nm ta tb hw.2.1 hw.2.2 ho iha ihb r b off _ cap w hP hr rfl hcap hnb hr0 hr1
  ·by_cases e7:v=7
   ·subst e7
    exact gb7 P a c L hPn nm ta tb hw.2.1 hw.2.2 ho iha ihb r b off _ cap w hP hr rfl hcap hnb hr0 hr1
   ·have e:gen (zG P) (.bin ⟨9,v,nm⟩ ta tb) r=gen (zG P) ta r++(gen (zG P) tb (r+1)++[⟨5+v,r,r,r+1⟩]):=by simp only[gen];rw[if_neg (by simp[e6,e7])]
    rw[e];exact gbo P a c L hPn nm v h2 (by omega) ta tb hw.2.1 hw.2.2 ho iha ihb r b off _ cap w hP hr rfl hcap hnb hr0 hr1
 |.two ⟨k,v,nm⟩ ta tb,hw,ho=>fun r b off n cap w hP hr hn hcap hnb hr0 hr1=>by
  simp only[pf]at hr hn ho;rw[qg,List.length_singleton]at hn;have iha:=YT P a c L hPn ta hw.2.1 (fun o h=>ho o (List.mem_append_left _ (List.mem_append_left _ h)));have ihb:=YT P a c L hPn tb hw.2.2 (fun o h=>ho o (List.mem_append_left _ (List.mem_append_right _ h)));subst hn;obtain⟨h1,h2,h3⟩:=hw.1;dsimp only at h1 h2 h3;subst h1;exact gt P a c L hPn nm v h2 h3 ta tb hw.2.1 hw.2.2 ho iha ihb r b off _ cap w hP hr rfl hcap hnb hr0 hr1
 |.three ⟨k,v,nm⟩ ta tb tc,hw,ho=>fun r b off n cap w hP hr hn hcap hnb hr0 hr1=>by
  simp only[pf]at hr hn ho;rw[qg,List.length_singleton]at hn;have iha:=YT P a c L hPn ta hw.2.1 (fun o h=>ho o (List.mem_append_left _ (List.mem_append_left _ (List.mem_append_left _ h))));have ihb:=YT P a c L hPn tb hw.2.2.1 (fun o h=>ho o (List.mem_append_left _ (List.mem_append_left _ (List.mem_append_right _ h))));have ihc:=YT P a c L hPn tc hw.2.2.2 (fun o h=>ho o (List.mem_append_left _ (List.mem_append_right _ h)));subst hn;obtain⟨h1,h2⟩:=hw.1;dsimp only at h1 h2;subst h1;subst h2;exact gi P a c L hPn nm ta tb tc hw.2.1 hw.2.2.1 hw.2.2.2 ho iha ihb ihc r b off _ cap w hP hr rfl hcap hnb hr0 hr1
end Go.Proofs.YtbdldkpifanaiaaDoor.Cd
