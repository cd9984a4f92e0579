import Derived.Test.YtbdldkpifanaiaaDoorCr13
set_option maxHeartbeats 4000000
set_option maxRecDepth 100000
set_option linter.unusedVariables false
set_option linter.unusedSimpArgs false
open List renaming length_append → qg, append_assoc → qj, getElem?_toArray → qk, getElem?_cons_zero → ql, getElem?_cons_succ → qm
open Nat renaming le_refl → qn, le_trans → qo, lt_of_lt_of_le → qp
namespace Go.Proofs.YtbdldkpifanaiaaDoor.ValC
open Go Go.RowKit Go.Sort Mem
attribute [local go_sem ↓] Go.wp_at_zero Go.wp_at_succ
theorem inI (x lo hi:Int) (w:World):Calls Tryd.prog 34 #[.int .i64 x,.int .i64 lo,.int .i64 hi] w fun e w'=>e=.returned (.bool (inB x lo hi))∧w'=w:=by
 by_cases h1:lo≤x
 ·go_enter Tryd.func34,Tryd.ntmps34
  go_wp2;go_ret;exact⟨zR (by simp[inB,h1]),rfl⟩
 ·have hd:decide (lo≤x)=false:=by simpa using h1
  go_enter Tryd.func34,Tryd.ntmps34;go_wp2;go_ret;exact⟨zR (by simp[inB];omega),rfl⟩
theorem XH (R S k n u x:Int) (w:World) (hR0:13≤R) (hR1:R≤1000) (hS0:0≤S) (hS1:S≤100) (hk0:0≤k) (hk1:k≤1048576) (u0:0≤u) (u1:u≤7):
  Calls Tryd.prog 68 #[.agg #[.int .i64 R,.int .i64 S,.int .i64 k,.int .i64 n],.int .i64 x,.int .i64 u] w fun e w'=>e=.returned (.bool (tf R S k n u x))∧Below w.heap.size w w':=by
 have:u=0∨u=1∨u=2∨u=3∨u=4∨u=5∨u=6∨u=7:=by omega
 clear u0 u1;rcases this with rfl|rfl|rfl|rfl|rfl|rfl|rfl|rfl
 all_goals
  go_enter Tryd.func68,Tryd.ntmps68;go_wp2_with (go_at_call 34;refine(inI _ _ _ _).mono ?_;rintro e w' ⟨rfl,rfl⟩);go_ret;exact⟨zR (by simp[tf]),by go_grown⟩
def YU (w:World):Prop:=∀m,m<21→w.cell? ⟨0,m*3,none⟩=some (.int .i64 (sh m).1)∧w.cell? ⟨0,m*3+1,none⟩=some (.int .i64 (sh m).2.1)∧w.cell? ⟨0,m*3+2,none⟩=some (.int .i64 (sh m).2.2)
theorem YU.below {w w':World} (h:YU w) (hb:Below w.heap.size w w'):YU w':=fun m hm=>⟨zw hb (h m hm).1,zw hb (h m hm).2.1,zw hb (h m hm).2.2⟩
theorem takesI (R S k n p a b c:Int) (w:World) (hT:YU w) (hR0:13≤R) (hR1:R≤1000) (hS0:0≤S) (hS1:S≤100) (hk0:0≤k) (hk1:k≤1048576):
  Calls Tryd.prog 52 #[.agg #[.int .i64 R,.int .i64 S,.int .i64 k,.int .i64 n],.agg #[.int .i64 p,.int .i64 a,.int .i64 b,.int .i64 c]] w fun e w'=>e=.returned (.bool (okI R S k n ⟨p,a,b,c⟩))∧Below w.heap.size w w':=by
 cases hp:inB p 1 20 with
 |false=>
  go_enter Tryd.func52,Tryd.ntmps52;go_wp2_with (go_at_call 34;refine(inI _ _ _ _).mono ?_;rintro e w' ⟨rfl,rfl⟩);go_ret;exact⟨zR (by simp[okI,hp]),by go_grown⟩
 |true=>
  obtain⟨m,rfl⟩:∃m:Nat,p=(m:Int):=⟨p.toNat,by simp[inB]at hp;omega⟩;have m0:m<21:=by simp[inB]at hp;omega
  obtain⟨t0,t1,t2⟩:=hT m m0;have g5:=lt_of_cell t0;clear hT;have i0:(0:Int)≤(m:Int):=by omega
  have i1:(m:Int)<21:=by omega
  go_enter Tryd.func52,Tryd.ntmps52;obtain⟨s0,s1,s2,s3,s4,s5⟩:=TB m m0;go_wp2_with (first|(go_at_call 34;refine(inI _ _ _ _).mono ?_;rintro e w' ⟨rfl,rfl⟩)|(go_at_call 68;refine(XH _ _ _ _ _ _ _ hR0 hR1 hS0 hS1 hk0 hk1 (by assumption) (by assumption)).mono ?_;rintro e w1 ⟨rfl,hb⟩;have hk:=zg (w:=((w.alloc (Obj.cells #[.int .i64 R,.int .i64 S,.int .i64 k,.int .i64 n] 88)).alloc (Obj.cells #[.int .i64 m,.int .i64 a,.int .i64 b,.int .i64 c] 60)).alloc (Obj.cells #[.int .i64 (sh m).1,.int .i64 (sh m).2.1,.int .i64 (sh m).2.2] 108)) (by first|assumption|exact Below.refl _ _) hb;have hq:=TO hk;obtain⟨hc,hf⟩:=hq;clear hb;try simp only[World.size_alloc]at hc hf))
  all_goals (go_ret;refine⟨zR ?_,?_⟩)
  all_goals first|exact zg (by go_grown) hk|(simp[okI, *];done)
theorem Z5 {R S:Int} {n k:Nat} {B:Nat→Is} (hk:k<n) (h:okI R S k n (B k)=false):yE R S n B=false:=by
 simp[yE,xC (f:=fun i=>okI R S i n (B i)) hk h]
theorem xB (C:Co) (a1 a2 a3:Option Addr) (c1 c2 c3:Nat) (a:Option Addr) (n cap:Nat) (B:Nat→Is) (w:World) (hs:zq w a n 4 (fun i=>(B i).cells)) (hn:n≤1048576) (hT:YU w) (hR0:13≤C.R) (hR1:C.R≤1000) (hS0:0≤C.S) (hS1:C.S≤100):
  Calls Tryd.prog 35 #[.agg #[.int .i64 C.R,.int .i64 C.S,.slice a1 C.n1 c1,.slice a2 C.n2 c2,.slice a3 C.n3 c3],.slice a n cap] w fun e w'=>e=.returned (.bool (yE C.R C.S n B))∧Below w.heap.size w w':=by
 have H:=Hm hs;have HT:=Hm hT;clear hs hT;by_cases g1:(16384:Int)<(n:Int)
 ·have hv:yE C.R C.S n B=false:=by simp[yE];omega
  rw[hv];clear hv;go_enter Tryd.func35,Tryd.ntmps35;go_wp2;go_ret;exact⟨rfl,by go_grown⟩
 have d1:decide ((16384:Int)<(n:Int))=false:=by simpa using g1
 go_enter Tryd.func35,Tryd.ntmps35;go_wp2;go_loopw [20] (fun i wr=>∃k:Nat,k≤n∧i=.int .i64 k∧Hid (Below w.heap.size w wr)∧Hid (∃x:Int,wr.heap[w.heap.size+1]? =some (.cells #[.int .i64 C.R,.int .i64 C.S,.int .i64 x,.int .i64 n] 88))∧Hid (Zc k (fun i=>okI C.R C.S i n (B i))=true)) (fun i _=>n- (intOf i).toNat)
 case atStart=>exact⟨0,Nat.zero_le _,rfl,by unfold Hid;go_grown,⟨0,zx _ _ _⟩,rfl⟩
 case round=>
  obtain⟨k,hk,rfl,hb,⟨x,hx⟩,ha⟩:=hrel;by_cases hlt:k<n
  ·rcases H.out with hs|⟨b,off,rfl,hs⟩
   ·omega
   obtain⟨e0,e1,e2,e3⟩:=Is.at (zt (hs k hlt) hb.out);clear hs;have k0:(0:Int)≤(k:Int):=by omega
   have k1:(k:Int)<(n:Int):=by omega
   have HX:=Hm hx;clear hx;have z:=zu HX.out;have x0:=za HX.out 0;have x1:=za HX.out 1;have x2:=za HX.out 2;have x3:=za HX.out 3;have y2:=zb HX.out 2;simp only[qk,ql,qm]at x0 x1 x2 x3;go_wp2_with fail;clear e0 e1 e2 e3 x0 x1 x2 x3 y2;have hB0:=Hm (zf (zy hb.out ⟨w.heap.size+1,2,none⟩ (show w.heap.size≤w.heap.size+1 by omega) (.int .i64 (k:Int))) (.cells #[.int .i64 (B k).p,.int .i64 (B k).a,.int .i64 (B k).b,.int .i64 (B k).c] 60));refine(takesI C.R C.S k n (B k).p (B k).a (B k).b (B k).c _ (HT.out.below hB0.out) hR0 hR1 hS0 hS1 k0 (by omega)).mono ?_;rintro e w1 ⟨rfl,hb1⟩
   have hx1:=ze (zh (zk HX.out 2 (.int .i64 (k:Int))) (.cells #[.int .i64 (B k).p,.int .i64 (B k).a,.int .i64 (B k).b,.int .i64 (B k).c] 60)) hb1;have hb2:=Hm (zg hB0.out hb1);have HX1:Hid (∃x:Int,w1.heap[w.heap.size+1]? =some (.cells #[.int .i64 C.R,.int .i64 C.S,.int .i64 x,.int .i64 n] 88)):=⟨k,hx1⟩;clear hb1 hx1 hB0 HX hb
   cases hg:okI C.R C.S k n (B k)with
   |false=>
    have hv:Hid (yE C.R C.S n B=false):=Z5 hlt hg;have hg':okI C.R C.S k n ⟨(B k).p,(B k).a,(B k).b,(B k).c⟩=false:=hg;clear hg;go_wp2;go_ret;exact⟨zR hv.out.symm,hb2.out⟩
   |true=>
    have ha':Hid (Zc (k+1) (fun i=>okI C.R C.S i n (B i))=true):=Z6 ha.out hg;have hg':okI C.R C.S k n ⟨(B k).p,(B k).a,(B k).b,(B k).c⟩=true:=hg;clear hg;go_wp2;exact⟨⟨k+1,by omega,by go_num,hb2,HX1,ha'⟩,by simp[intOf];omega⟩
  ·have hkn:k=n:=by omega
   subst hkn;go_wp2;go_ret;exact⟨zR (by simp[yE,ha.out];omega),hb.out⟩
theorem Vz (a1 a2 a3:Option Addr) (c1 c2 c3:Nat) (C:Co) (w:World) (h:Zl w a1 a2 a3 C) (h1:C.n1≤1048576) (h2:C.n2≤1048576) (h3:C.n3≤1048576) (hT:YU w):
  Calls Tryd.prog 18 #[.agg #[.int .i64 C.R,.int .i64 C.S,.slice a1 C.n1 c1,.slice a2 C.n2 c2,.slice a3 C.n3 c3]] w fun e w'=>e=.returned (.bool (yD C))∧Below w.heap.size w w':=by
 have H:=Hm h;have HT:=Hm hT;clear h hT
 cases g1:inB C.R 13 1000 with
 |false=>
  go_enter Tryd.func18,Tryd.ntmps18;go_wp2_with (go_at_call 34;refine(inI _ _ _ _).mono ?_;rintro e w' ⟨rfl,rfl⟩);go_ret;exact⟨zR (by simp[yD,g1]),by go_grown⟩
 |true=>
  cases g2:inB C.S 0 100 with
  |false=>
   go_enter Tryd.func18,Tryd.ntmps18;go_wp2_with (go_at_call 34;refine(inI _ _ _ _).mono ?_;rintro e w' ⟨rfl,rfl⟩);go_ret;exact⟨zR (by simp[yD,g2]),by go_grown⟩
  |true=>
   have r0:13≤C.R∧C.R≤1000:=by simpa[inB]using g1
   have r1:0≤C.S∧C.S≤100:=by simpa[inB]using g2
   go_enter Tryd.func18,Tryd.ntmps18;go_wp2_with (go_at_call 34;refine(inI _ _ _ _).mono ?_;rintro e w' ⟨rfl,rfl⟩);have hK:Below w.heap.size w (w.alloc (.cells #[.int .i64 C.R,.int .i64 C.S,.slice a1 C.n1 c1,.slice a2 C.n2 c2,.slice a3 C.n3 c3] 25)):=by go_grown
   refine(xB C a1 a2 a3 c1 c2 c3 _ _ _ C.B1 _ (H.out.b1.below hK) h1 (HT.out.below hK) r0.1 r0.2 r1.1 r1.2).mono ?_;rintro e w1 ⟨rfl,hb1⟩;have HB1:=Hm (zg hK hb1);have A1:=Hm (ze (zi w _) hb1);clear hb1 hK
   cases o1:yE C.R C.S C.n1 C.B1 with
   |false=>
    go_wp2;go_ret;exact⟨zR (by simp[yD,o1]),HB1.out⟩
   |true=>
    have x0:=za A1.out 0;have x1:=za A1.out 1;have x2:=za A1.out 2;have x3:=za A1.out 3;have x4:=za A1.out 4;simp only[qk,ql,qm]at x0 x1 x2 x3 x4;go_wp2_with fail;clear x0 x1 x2 x3 x4;refine(xB C a1 a2 a3 c1 c2 c3 _ _ _ C.B2 _ (H.out.b2.below HB1.out) h2 (HT.out.below HB1.out) r0.1 r0.2 r1.1 r1.2).mono ?_;rintro e w2 ⟨rfl,hb2⟩;have HB2:=Hm (zg HB1.out hb2);have A2:=Hm (ze A1.out hb2);clear hb2 HB1 A1
    cases o2:yE C.R C.S C.n2 C.B2 with
    |false=>
     go_wp2;go_ret;exact⟨zR (by simp[yD,o2]),HB2.out⟩
    |true=>
     have x0:=za A2.out 0;have x1:=za A2.out 1;have x2:=za A2.out 2;have x3:=za A2.out 3;have x4:=za A2.out 4;simp only[qk,ql,qm]at x0 x1 x2 x3 x4;go_wp2_with fail;clear x0 x1 x2 x3 x4;refine(xB C a1 a2 a3 c1 c2 c3 _ _ _ C.B3 _ (H.out.b3.below HB2.out) h3 (HT.out.below HB2.out) r0.1 r0.2 r1.1 r1.2).mono ?_;rintro e w3 ⟨rfl,hb3⟩;have HB3:=Hm (zg HB2.out hb3);clear hb3 HB2 A2;go_wp2;go_ret;exact⟨zR (by simp[yD,g1,g2,o1,o2]),HB3.out⟩
end Go.Proofs.YtbdldkpifanaiaaDoor.ValC
namespace Go.Proofs.YtbdldkpifanaiaaDoor.Dec
open Go Go.RowKit Mem ValC Enc
attribute [local go_sem ↓] Go.wp_at_zero Go.wp_at_succ
inductive Rds:List UInt8→List Int→List UInt8→Prop
 |nil (b:List UInt8):Rds b [] b
 |snoc {b r s:List UInt8} {l:List Int} {n:Int} (h:Rds b l r) (h1:one r=some (n,s)):Rds b (l++[n]) s
theorem XO {bs rest r:List UInt8} {pre l:List Int} (h:Live bs pre rest) (h1:Rds rest l r):Live bs (pre++l) r:=by
 induction h1 with
 |nil=>rw[List.append_nil];exact h
 |snoc h1 h2 ih=>rw[←qj];exact yR ih h2
theorem yw {w w1 w2:World} {r:Nat} (h:w.grownBy w1 (some r)) (h':w1.grownBy w2 (some r)):w.grownBy w2 (some r):=
 ⟨h'.os.trans h.os,h'.tape.trans h.tape,h'.output.trans h.output,qo h.size h'.size,fun k hk hne=>(h'.block k (qp hk h.size) hne).trans (h.block k hk hne)⟩
theorem ZF (w:World) (r:Nat):w.grownBy w (some r):=⟨rfl,rfl,rfl,qn _,fun _ _ _=>rfl⟩
theorem yG {w w1 w2:World} {r:Nat} (h:w.grownBy w1 (some r)) (hb:Below w.heap.size w1 w2) (hs:w1.heap.size≤w2.heap.size):w.grownBy w2 (some r):=
 ⟨hb.os.trans h.os,hb.tape.trans h.tape,hb.output.trans h.output,qo h.size hs,fun k hk hne=>(hb.block k hk).trans (h.block k hk hne)⟩
theorem xD {w w':World} {B s n r:Nat} {v:Value} {e t:TypeId} {xs:List Value} {C:Array Value} {fr:Nat×Nat} (h:w.ownsRow B e s v n xs) (hx:w.heap[r]? =some (.cells C t fr)) (hg:w.grownBy w' (some r)) (hne:e≠t):w'.ownsRow B e s v n xs:=by
 refine⟨h.1,?_⟩;rcases h.2 with h0|⟨g,cap,cur,h1,h2,h3,h4⟩
 ·exact Or.inl h0
 ·refine Or.inr ⟨g,cap,cur,h1,h2,?_,h4⟩
  rw[hg.block g (zu h3) ?_]
  ·exact h3
  ·intro e1
   injection e1 with e1;rw[e1,hx]at h3;injection h3 with h3;injection h3 with _ h5;exact hne h5.symm
theorem De.keep {w w':World} {r lo:Nat} {rest:List UInt8} {f:Bool} {a:Option Addr} {c:Nat} (h:De w r lo rest f a c) (hb:Below lo w w') (hx:w'.heap[r]? =w.heap[r]?):De w' r lo rest f a c:=by
 refine⟨hx.trans h.x,h.cap,?_,h.low,h.len⟩;rcases h.rd with h0|⟨g,o,ea,hcl⟩
 ·exact Or.inl h0
 ·refine Or.inr ⟨g,o,ea,fun j hj=>?_⟩
  rw[hb.cell (p:=⟨g,o+j,none⟩) (h.low ⟨g,o,none⟩ ea)];exact hcl j hj
inductive LenP (w w':World) (r lo:Nat) (rest:List UInt8) (f:Bool) (e:Ending):Prop
 |mk (z:Int) (rest':List UInt8) (f':Bool) (a':Option Addr) (c':Nat) (he:e=.returned (.int .i64 z)) (hd:De w' r lo rest' f' a' c') (hg:w.grownBy w' (some r)) (h1:f=true→f'=true) (h2:f=false→(one rest=some (z,rest')∧0≤z∧z≤16384∧f'=false)∨(f'=true∧(one rest=none∨∃s,one rest=some (z,s)∧(z<0∨16384<z)))):LenP w w' r lo rest f e
theorem Xr (r lo:Nat) (rest:List UInt8) (f:Bool) (a:Option Addr) (c:Nat) (w:World) (hd:De w r lo rest f a c) (hr:lo≤r):
  Calls Tryd.prog 32 #[.pointer (some ⟨r,0,none⟩)] w fun e w'=>LenP w w' r lo rest f e:=by
 have D:=Hm hd;clear hd;go_enter Tryd.func32,Tryd.ntmps32;go_wp2_with fail;refine(xM r lo rest f a c _ D.out hr).mono ?_;rintro e w1 ⟨z,rest1,f1,a1,c1,rfl,hd1,hg1,k1,k2⟩;have D1:=Hm hd1;have G1:=Hm hg1;have K1:=Hm k1;have K2:=Hm k2;clear hd1 hg1 k1 k2 D
 cases hz:inB z 0 16384 with
 |true=>
  go_wp2_with (go_at_call 34;refine(inI _ _ _ _).mono ?_;rintro e w' ⟨rfl,hw'⟩;rw[hw'];clear hw');go_ret;have hz':0≤z∧z≤16384:=by simpa[inB]using hz
  refine LenP.mk z rest1 f1 a1 c1 rfl D1.out G1.out K1.out (fun h=>?_);rcases K2.out h with⟨h1,h2⟩|⟨h1,h2⟩
  ·exact Or.inl ⟨h1,hz'.1,hz'.2,h2⟩
  ·exact Or.inr ⟨h2,Or.inl h1⟩
 |false=>
  have x1:=za D1.out.x 1;have y1:=zb D1.out.x 1;simp only[qk,ql,qm]at x1;go_wp2_with (go_at_call 34;refine(inI _ _ _ _).mono ?_;rintro e w' ⟨rfl,hw'⟩;rw[hw'];clear hw');go_ret;have hz':z<0∨16384<z:=by simp[inB]at hz;omega
  have hg2:w1.grownBy (w1.setCell ⟨r,1,none⟩ (.bool true)) (some r):=Yf (ZF _ _)
  have hd2:De (w1.setCell ⟨r,1,none⟩ (.bool true)) r lo (rest1.drop 0) true a1 c1:=
   De.next (k:=0) D1.out hr (Nat.zero_le _) rfl (fun g o e=>by rw[e];split<;>rfl) (fun p hp=>⟨p,hp,rfl⟩) (zk D1.out.x 1 (.bool true)) hg2
  refine LenP.mk z (rest1.drop 0) true a1 c1 rfl hd2 (yw G1.out hg2) (fun _=>rfl) (fun h=>?_);rcases K2.out h with⟨h1,h2⟩|⟨h1,h2⟩
  ·exact Or.inr ⟨rfl,Or.inr ⟨_,h1,hz'⟩⟩
  ·exact Or.inr ⟨rfl,Or.inl h1⟩
def St (rest:List UInt8) (bd:Int) (t:List Int) (b:List UInt8) (f:Bool):Prop:=(f=false∧Rds rest t b)∨(f=true∧∃t' r',Rds rest t' r'∧one r'=none∧(t'.length:Int)<bd)
theorem St.step {rest b b':List UInt8} {bd z:Int} {t:List Int} {f f':Bool} (h:St rest bd t b f) (h1:f=true→f'=true) (h2:f=false→(one b=some (z,b')∧f'=false)∨(one b=none∧f'=true)) (hl:(t.length:Int)<bd):St rest bd (t++[z]) b' f':=by
 rcases h with⟨hf,hr⟩|⟨hf,hr⟩
 ·rcases h2 hf with⟨h3,h4⟩|⟨h3,h4⟩
  ·exact Or.inl ⟨h4,hr.snoc h3⟩
  ·exact Or.inr ⟨h4,t,b,hr,h3,hl⟩
 ·exact Or.inr ⟨h1 hf,hr⟩
theorem WM:(Tryd.prog.info? 60).map (fun i=>(i.zero,i.size,i.bytes))=some (some (.agg #[.int .i64 0,.int .i64 0,.int .i64 0,.int .i64 0]),4,32):=by kernel_rfl
theorem zF {B s n:Nat} {e:TypeId} {w:World} {v:Value} {xs:List Value} (h:w.ownsRow B e s v n xs):∃a c,v=.slice a n c:=by
 rcases h.2 with⟨rfl,h0⟩|⟨g,cap,cur,rfl,h⟩
 ·exact⟨none,0,by rw[h0]⟩
 ·exact⟨_,_,rfl⟩
def lenV:Value→Nat
 |.slice _ n _=>n
 |_=>0
theorem xZ (w:World) (vs:List Value) (t:TypeId):∀j u,vs[j]? =some u→(w.alloc (.cells vs.toArray t)).cell? ((⟨w.heap.size,0,none⟩:Addr).add j)=some u:=fun j u h=>by
 rw[Addr.add_mid,Nat.zero_add,za (zi w _) j];simpa using h
theorem Vm (L:List Is) (z1 z2 z3 z4:Int):zO L++[z1]++[z2]++[z3]++[z4]=zO (L++[⟨z1,z2,z3,z4⟩]):=by
 simp[zO,yZ]
inductive BlkP (w w':World) (r lo:Nat) (rest:List UInt8) (f:Bool) (N:Nat) (e:Ending):Prop
 |mk (v:Value) (L:List Is) (rest':List UInt8) (f':Bool) (a':Option Addr) (c':Nat) (he:e=.returned v) (hrow:w'.ownsRow w.heap.size 60 4 v L.length (L.flatMap Is.cells)) (hlen:L.length≤16384) (hd:De w' r lo rest' f' a' c') (hg:w.grownBy w' (some r)) (h1:f=true→f'=true)
  (h2:f=false→St rest (4*N) (zO L) rest' f'∧(f'=false→L.length=N)):BlkP w w' r lo rest f N e
theorem xB (r lo:Nat) (rest:List UInt8) (f:Bool) (a:Option Addr) (c:Nat) (n:Int) (N:Nat) (w:World) (hd:De w r lo rest f a c) (hr:lo≤r) (hN:f=false→n=(N:Int)∧N≤16384):
  Calls Tryd.prog 33 #[.pointer (some ⟨r,0,none⟩),.int .i64 n] w fun e w'=>BlkP w w' r lo rest f N e:=by
 obtain⟨i0,hi,hz0,hz1,hz2⟩:=info_parts WM;have D:=Hm hd;clear hd
 cases f with
 |true=>
  have x1:=za D.out.x 1;simp only[qk,ql,qm]at x1;have HE:Hid (∀e,e=.returned (.slice none 0 0)→BlkP w w r lo rest true N e):=fun e he=>BlkP.mk _ [] rest true a c he (World.ownsRow_nil w _ _ _) (by simp) D.out (ZF _ _) (fun _=>rfl) (fun h=>by cases h)
  go_enter Tryd.func33,Tryd.ntmps33;go_wp2;go_loopw [5] (fun v wr=>v=.slice none 0 0∧wr=w) (fun _ _=>0)
  case atStart=>exact⟨rfl,rfl⟩
  case round=>
   obtain⟨rfl,rfl⟩:=hrel;by_cases h0:0<n
   ·go_wp2
    go_ret;exact HE.out _ rfl
   ·have h0':decide (0<n)=false:=by simpa using h0
    go_wp2;go_ret;exact HE.out _ rfl
 |false=>
  obtain⟨hn,hN1⟩:=hN rfl;subst hn;clear hN;have hrw:=zu D.out.x;go_enter Tryd.func33,Tryd.ntmps33;go_wp2;go_loopw [5] (fun v wr=>∃(L:List Is) (b:List UInt8) (f1:Bool) (a1:Option Addr) (c1:Nat),L.length≤N∧Hid (wr.ownsRow w.heap.size 60 4 v L.length (L.flatMap Is.cells))∧Hid (De wr r lo b f1 a1 c1)∧Hid (w.grownBy wr (some r))∧Hid (St rest (4*N) (zO L) b f1)) (fun v _=>N-lenV v)
  case atStart=>exact⟨[],rest,false,a,c,Nat.zero_le _,World.ownsRow_nil w _ _ _,D,ZF _ _,Or.inl ⟨rfl,Rds.nil _⟩⟩
  case round=>
   clear D;obtain⟨L,b,f1,a1,c1,hL,ho,hd,hg,hs⟩:=hrel;obtain⟨k,hk⟩:∃k,k=L.length:=⟨_,rfl⟩;have HKL:=Hm hk;rw[←hk]at ho hL;have hfl:Hid ((zO L).length=4*k):=by unfold Hid;rw[yh,hk]
   clear hk;obtain⟨va,vc,hv⟩:=zF ho.out;rw[hv]at ho ⊢;clear hv;have x1:=za hd.out.x 1;simp only[qk,ql,qm]at x1;have hsz:=hg.out.size;by_cases hlt:k<N
   ·have k1:(k:Int)<(N:Int):=by omega
    cases f1 with
    |true=>
     go_wp2;go_ret;exact BlkP.mk _ L b true a1 c1 rfl (by rw[←HKL.out];exact ho.out) (by rw[←HKL.out];omega) hd.out hg.out (fun _=>rfl) (fun _=>⟨hs.out,fun h=>by cases h⟩)
    |false=>
     go_wp2_with fail;clear x1;refine(xM r lo b false a1 c1 wr hd.out hr).mono ?_;rintro e w2 ⟨z1,b1,f2,a2,c2,rfl,hd',hg',k1',k2'⟩;have O1:=Hm (xD ho.out hd.out.x hg' (by decide));have D1:=Hm hd';have G1:=Hm (yw hg.out hg');have S1:Hid (St rest (4*N) (zO L++[z1]) b1 f2):=hs.out.step k1' k2' (by have:=hfl.out;(try simp only[qg,List.length_singleton]);omega);clear hd' hg' k1' k2' hd hg hs ho;go_wp2_with fail;refine(xM r lo b1 f2 a2 c2 w2 D1.out hr).mono ?_;rintro e w3 ⟨z2,b2,f3,a3,c3,rfl,hd',hg',k1',k2'⟩;have O2:=Hm (xD O1.out D1.out.x hg' (by decide));have D2:=Hm hd';have G2:=Hm (yw G1.out hg')
     have S2:Hid (St rest (4*N) (zO L++[z1]++[z2]) b2 f3):=S1.out.step k1' k2' (by have:=hfl.out;(try simp only[qg,List.length_singleton]);omega);clear hd' hg' k1' k2' D1 G1 S1 O1;go_wp2_with fail;refine(xM r lo b2 f3 a3 c3 w3 D2.out hr).mono ?_;rintro e w4 ⟨z3,b3,f4,a4,c4,rfl,hd',hg',k1',k2'⟩;have O3:=Hm (xD O2.out D2.out.x hg' (by decide));have D3:=Hm hd';have G3:=Hm (yw G2.out hg');have S3:Hid (St rest (4*N) (zO L++[z1]++[z2]++[z3]) b3 f4):=S2.out.step k1' k2' (by have:=hfl.out;(try simp only[qg,List.length_singleton]);omega);clear hd' hg' k1' k2' D2 G2 S2 O2;go_wp2_with fail;refine(xM r lo b3 f4 a4 c4 w4 D3.out hr).mono ?_;rintro e w5 ⟨z4,b4,f5,a5,c5,rfl,hd',hg',k1',k2'⟩;have O4:=Hm (xD O3.out D3.out.x hg' (by decide))
     have D4:=Hm hd';have G4:=Hm (yw G3.out hg');have S4:Hid (St rest (4*N) (zO L++[z1]++[z2]++[z3]++[z4]) b4 f5):=S3.out.step k1' k2' (by have:=hfl.out;(try simp only[qg,List.length_singleton]);omega);clear hd' hg' k1' k2' D3 G3 S3 O3;obtain⟨x,hx⟩:∃x:Is,x=⟨z1,z2,z3,z4⟩:=⟨_,rfl⟩;have hsz5:=G4.out.size;have S5:Hid (St rest (4*N) (zO (L++[x])) b4 f5):=by unfold Hid;rw[hx,←Vm];exact S4.out
     have hxc:Hid (x.cells=[.int .i64 z1,.int .i64 z2,.int .i64 z3,.int .i64 z4]):=by unfold Hid;rw[hx];rfl
     clear hx S4;go_wp2_with (at_builtin;refine wpList_append_own _ rfl _ _ 23 rfl w.heap.size 60 i0 (.agg #[.int .i64 0,.int .i64 0,.int .i64 0,.int .i64 0]) 4 32 Tryd.underlying23 hi hz0 hz1 hz2 rfl (by decide) _ _ _ rfl (O4.out.alloc _) ⟨w5.heap.size,0,none⟩ 1 1 [.int .i64 z1,.int .i64 z2,.int .i64 z3,.int .i64 z4] rfl rfl (xZ w5 _ 60) (by intro u hu;simp only[List.mem_cons,List.not_mem_nil,or_false]at hu;rcases hu with rfl|rfl|rfl|rfl<;>rfl) (by unfold maxLen;omega) (by omega) (by simp;omega) ?_);intro v6 w6 hown6 hgrow6 _;have hbl:Below w.heap.size w5 w6:=((Below.refl _ _).alloc hsz5 _).grown hgrow6 (by simp;omega) (fun j hj=>(O4.out.lt j hj).1);have hr6:w6.heap[r]? =w5.heap[r]?:=hbl.block r hrw
     have O6:Hid (w6.ownsRow w.heap.size 60 4 v6 (L++[x]).length ((L++[x]).flatMap Is.cells)):=by unfold Hid;rw[qg,List.length_singleton,←HKL.out,List.flatMap_append,List.flatMap_cons,List.flatMap_nil,List.append_nil,hxc.out];exact hown6
     have D6:=Hm (D4.out.keep (hbl.mono (by omega)) hr6);have G6:=Hm (yG G4.out hbl hbl.size);clear hown6 hgrow6 hbl hr6 O4 D4 G4;obtain⟨va6,vc6,hv6⟩:=zF O6.out;rw[hv6]at O6 ⊢;clear hv6;refine Hid.out ?_;refine Lib.hid ?_;go_wp2;refine⟨⟨L++[x],b4,f5,a5,c5,?_,O6,D6,?_⟩,?_⟩
     ·rw[qg,List.length_singleton,←HKL.out];omega
     ·first|exact S5|exact⟨G6,S5⟩
     ·simp only[lenV,qg,List.length_singleton,←HKL.out];omega
   ·obtain rfl:N=k:=by omega
    have k1:decide ((N:Int)<(N:Int))=false:=by simp
    go_wp2;go_ret;exact BlkP.mk _ L b f1 a1 c1 rfl (by rw[←HKL.out];exact ho.out) (by rw[←HKL.out];omega) hd.out hg.out (fun h=>by cases h) (fun _=>⟨hs.out,fun _=>HKL.out.symm⟩)
end Go.Proofs.YtbdldkpifanaiaaDoor.Dec
