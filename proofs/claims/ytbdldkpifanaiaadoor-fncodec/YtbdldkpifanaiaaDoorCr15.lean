import Derived.Test.YtbdldkpifanaiaaDoorCr14
import Derived.Deep.Onto
set_option maxHeartbeats 3200000
set_option maxRecDepth 100000
set_option linter.unusedVariables false
set_option linter.unusedSimpArgs false
open List renaming length_append → qg, getElem?_toArray → qk, getElem?_cons_zero → ql, getElem?_cons_succ → qm
open Nat renaming le_refl → qn, le_trans → qo
namespace Go.Proofs.YtbdldkpifanaiaaDoor.Dec
open Go Go.RowKit Mem ValC Enc
attribute [local go_sem ↓] Go.wp_at_zero Go.wp_at_succ
def Sem (bs:List UInt8) (pre:List Int) (b:List UInt8) (f:Bool):Prop:=(f=false→Live bs pre b)∧(f=true→yY bs)
theorem Sem.num {bs b b':List UInt8} {pre:List Int} {z:Int} {f f':Bool} (h:Sem bs pre b f) (h1:f=true→f'=true) (h2:f=false→(one b=some (z,b')∧f'=false)∨(one b=none∧f'=true)) (hp:pre.length<5):Sem bs (pre++[z]) b' f':=by
 cases f with
 |true=>have:=h1 rfl;subst this;exact⟨fun e=>(nomatch e),fun _=>h.2 rfl⟩
 |false=>
  rcases h2 rfl with⟨ho,rfl⟩|⟨ho,rfl⟩
  ·exact⟨fun _=>yR (h.1 rfl) ho,fun e=>(nomatch e)⟩
  ·exact⟨fun e=>(nomatch e),fun _=>dead (h.1 rfl) ho (Or.inl hp)⟩
theorem Sem.len {bs b b':List UInt8} {pre:List Int} {z:Int} {f f':Bool} (h:Sem bs pre b f) (h1:f=true→f'=true) (h2:f=false→(one b=some (z,b')∧0≤z∧z≤16384∧f'=false)∨(f'=true∧(one b=none∨∃s,one b=some (z,s)∧(z<0∨16384<z)))) (hp:pre.length<5) (hx:∀s,Live bs (pre++[z]) s→(z<0∨16384<z)→yY bs):Sem bs (pre++[z]) b' f'∧(f'=false→0≤z∧z≤16384):=by
 cases f with
 |true=>have:=h1 rfl;subst this;exact⟨⟨fun e=>(nomatch e),fun _=>h.2 rfl⟩,fun e=>(nomatch e)⟩
 |false=>
  rcases h2 rfl with⟨ho,z0,z1,rfl⟩|⟨rfl,ho|⟨s,ho,hz⟩⟩
  ·exact⟨⟨fun _=>yR (h.1 rfl) ho,fun e=>(nomatch e)⟩,fun _=>⟨z0,z1⟩⟩
  ·exact⟨⟨fun e=>(nomatch e),fun _=>dead (h.1 rfl) ho (Or.inl hp)⟩,fun e=>(nomatch e)⟩
  ·exact⟨⟨fun e=>(nomatch e),fun _=>hx s (yR (h.1 rfl) ho) hz⟩,fun e=>(nomatch e)⟩
theorem Sem.blk {bs b b':List UInt8} {pre:List Int} {N:Nat} {L:List Is} {f f':Bool} (h:Sem bs pre b f) (h1:f=true→f'=true) (h2:f=false→St b (4*N) (zO L) b' f'∧(f'=false→L.length=N)) (hd:f=false→∀t':List Int,(t'.length:Int)<4*N→∃R S x y z t,pre++t'=R::S::x::y::z::t∧(t.length:Int)<4*(x+y+z)):Sem bs (pre++zO L) b' f'∧(f'=false→L.length=N):=by
 cases f with
 |true=>have:=h1 rfl;subst this;exact⟨⟨fun e=>(nomatch e),fun _=>h.2 rfl⟩,fun e=>(nomatch e)⟩
 |false=>
  obtain⟨hs,hl⟩:=h2 rfl;refine⟨?_,hl⟩;rcases hs with⟨rfl,hs⟩|⟨rfl,t',r',hr,ho,ht⟩
  ·exact⟨fun _=>XO (h.1 rfl) hs,fun e=>(nomatch e)⟩
  ·exact⟨fun e=>(nomatch e),fun _=>dead (XO (h.1 rfl) hr) ho (Or.inr (hd rfl t' ht))⟩
theorem back {f f':Bool} (h1:f=true→f'=true) (h:f'=false):f=false:=by cases f<;>simp_all
theorem De.gb {w w':World} {r lo:Nat} {rest:List UInt8} {f:Bool} {a:Option Addr} {c:Nat} (h:De w r lo rest f a c) (hr:lo≤r) (hb:Below w.heap.size w w'):De w' r lo rest f a c:=
 h.keep (hb.mono (by have:=zu h.x;omega)) (hb.block r (zu h.x))
theorem yQ {w w':World} {g r:Nat} {o:Obj} (h:w.heap[g]? =some o) (hg:w.grownBy w' (some r)) (hne:g≠r):w'.heap[g]? =some o:=by rw[hg.block g (zu h) (by intro e;injection e with e;exact hne e)];exact h
theorem zI {w:World} {B s n g i:Nat} {v u:Value} {e t:TypeId} {xs:List Value} {C:Array Value} {fr:Nat×Nat} (h:w.ownsRow B e s v n xs) (hx:w.heap[g]? =some (.cells C t fr)) (hne:e≠t):(w.setCell ⟨g,i,none⟩ u).ownsRow B e s v n xs:=
 xD h hx (Yf (ZF w g)) hne
inductive CodP (w w':World) (r lo:Nat) (bs:List UInt8) (e:Ending):Prop
 |mk (d:Dc) (vv1 vv2 vv3:Value) (b:List UInt8) (f:Bool) (a:Option Addr) (c:Nat) (he:e=.returned (.agg #[.int .i64 d.R,.int .i64 d.S,vv1,vv2,vv3])) (o1:w'.ownsRow w.heap.size 60 4 vv1 d.L1.length (d.L1.flatMap Is.cells)) (B1 B2:Nat) (hB:w.heap.size≤B1∧B1≤B2) (p1:∀g,vv1.ownBlock=some g→g<B1) (p2:∀g,vv2.ownBlock=some g→g<B2) (o2:w'.ownsRow B1 60 4 vv2 d.L2.length (d.L2.flatMap Is.cells)) (o3:w'.ownsRow B2 60 4 vv3 d.L3.length (d.L3.flatMap Is.cells)) (l1:d.L1.length≤16384) (l2:d.L2.length≤16384) (l3:d.L3.length≤16384) (hd:De w' r lo b f a c) (hg:w.grownBy w' (some r)) (hs:Sem bs d.all b f):CodP w w' r lo bs e
theorem codeI (r lo:Nat) (bs:List UInt8) (a:Option Addr) (c:Nat) (w:World) (hd:De w r lo bs false a c) (hr:lo≤r):
  Calls Tryd.prog 17 #[.pointer (some ⟨r,0,none⟩)] w fun e w'=>CodP w w' r lo bs e:=by
 have hrw:=zu hd.x;have D:=Hm hd;clear hd;go_enter Tryd.func17,Tryd.ntmps17;go_wp2_with fail;obtain⟨W,hW⟩:∃W:World,W=w.alloc (.cells #[.int .i64 0,.int .i64 0,.slice none 0 0,.slice none 0 0,.slice none 0 0] 25):=⟨_,rfl⟩;rw[←hW];have BW:Hid (Below w.heap.size w W):=by unfold Hid;rw[hW];go_grown
 have A0:Hid (W.heap[w.heap.size]? =some (.cells #[.int .i64 0,.int .i64 0,.slice none 0 0,.slice none 0 0,.slice none 0 0] 25)):=by unfold Hid;rw[hW];exact zi w _
 clear hW;have D0:=Hm (D.out.gb hr BW.out);have S0:Hid (Sem bs [] bs false):=⟨fun _=>YC bs,fun e=>(nomatch e)⟩;have G0:Hid (w.grownBy W (some r)):=yG (ZF w r) BW.out BW.out.size;have hne:w.heap.size≠r:=by omega
 clear D BW;refine(xM r lo bs false a c W D0.out hr).mono ?_;rintro e w1 ⟨R,b1,f1,a1,c1,rfl,hd',hg',k1',k2'⟩;have A1:=Hm (yQ A0.out hg' hne);have D1:=Hm hd';have G1:=Hm (yw G0.out hg');have S1:Hid (Sem bs [R] b1 f1):=S0.out.num k1' k2' (by simp);clear hd' hg' k1' k2' A0 D0 G0 S0;go_wp2_with fail;refine(xM r lo b1 f1 a1 c1 w1 D1.out hr).mono ?_;rintro e w2 ⟨S,b2,f2,a2,c2,rfl,hd',hg',k1',k2'⟩;have A2:=Hm (yQ A1.out hg' hne);have D2:=Hm hd';have G2:=Hm (yw G1.out hg');have S2:Hid (Sem bs [R,S] b2 f2):=S1.out.num k1' k2' (by simp);clear hd' hg' k1' k2' A1 D1 G1 S1;go_wp2_with fail;obtain⟨X,hX⟩:∃X:World,X=w2.alloc (.cells #[.int .i64 R,.int .i64 S,.slice none 0 0,.slice none 0 0,.slice none 0 0] 25):=⟨_,rfl⟩;rw[←hX]
 have BX:Hid (Below w2.heap.size w2 X):=by unfold Hid;rw[hX];go_grown
 obtain⟨q,hq⟩:∃q,q=w2.heap.size:=⟨_,rfl⟩;have B2:Hid (X.heap[w2.heap.size]? =some (.cells #[.int .i64 R,.int .i64 S,.slice none 0 0,.slice none 0 0,.slice none 0 0] 25)):=by unfold Hid;rw[hX];exact zi w2 _
 clear hX;have hq0:=G2.out.size;have hqr:w2.heap.size≠r:=by omega
 have hqw:w.heap.size<w2.heap.size:=zu A2.out;have A2':=Hm (ze A2.out BX.out);have D2':=Hm (D2.out.gb hr BX.out);have G2':=Hm (yG G2.out (BX.out.mono hq0) BX.out.size);clear A2 D2 G2 BX;refine(Xr r lo b2 f2 a2 c2 X D2'.out hr).mono ?_;rintro e w3 ⟨x,b3,f3,a3,c3,rfl,hd',hg',k1',k2'⟩;have A3:=Hm (yQ A2'.out hg' hne);have D3:=Hm hd';have G3:=Hm (yw G2'.out hg');have B3:=Hm (yQ B2.out hg' hqr);have T3:=Hm (S2.out.len k1' k2' (by simp) (fun s hl hz=>Uy hl rfl hz));have S3:Hid (Sem bs [R,S,x] b3 f3):=T3.out.1;have E3:Hid (f3=false→0≤x∧x≤16384):=T3.out.2;clear hd' hg' k1' k2' A2' D2' G2' S2 T3 B2;go_wp2_with fail;refine(Xr r lo b3 f3 a3 c3 w3 D3.out hr).mono ?_;rintro e w4 ⟨y,b4,f4,a4,c4,rfl,hd',hg',k1',k2'⟩
 have A4:=Hm (yQ A3.out hg' hne);have D4:=Hm hd';have G4:=Hm (yw G3.out hg');have B4:=Hm (yQ B3.out hg' hqr);have T4:=Hm (S3.out.len k1' k2' (by simp) (fun s hl hz=>Vs hl rfl hz));have S4:Hid (Sem bs [R,S,x,y] b4 f4):=T4.out.1;have E4:Hid (f4=false→(0≤x∧x≤16384)∧(0≤y∧y≤16384)):=fun e=>⟨E3.out (back k1' e),T4.out.2 e⟩
 clear hd' hg' k1' k2' A3 D3 G3 S3 T4 E3 B3;go_wp2_with fail;refine(Xr r lo b4 f4 a4 c4 w4 D4.out hr).mono ?_;rintro e w5 ⟨z,b5,f5,a5,c5,rfl,hd',hg',k1',k2'⟩;have A5:=Hm (yQ A4.out hg' hne);have D5:=Hm hd';have G5:=Hm (yw G4.out hg');have B5:=Hm (yQ B4.out hg' hqr);have T5:=Hm (S4.out.len k1' k2' (by simp) (fun s hl hz=>Vr hl rfl hz));have S5:Hid (Sem bs [R,S,x,y,z] b5 f5):=T5.out.1;have E5:Hid (f5=false→((0≤x∧x≤16384)∧(0≤y∧y≤16384))∧(0≤z∧z≤16384)):=fun e=>⟨E4.out (back k1' e),T5.out.2 e⟩
 clear hd' hg' k1' k2' A4 D4 G4 S4 T5 E4 B4;go_wp2_with fail;refine(xB r lo b5 f5 a5 c5 x x.toNat w5 D5.out hr (fun e=>by have:=E5.out e;omega)).mono ?_;rintro e w6 ⟨v,L1,b6,f6,a6,c6,rfl,ho,hl1,hd',hg',k1',k2'⟩;obtain⟨s1,m1,rfl⟩:=zF ho;have A6:=Hm (yQ A5.out hg' hne);have B6:=Hm (yQ B5.out hg' hqr);have O1:Hid (w6.ownsRow w.heap.size 60 4 (.slice s1 L1.length m1) L1.length (L1.flatMap Is.cells)):=ho.mono (by have:=G5.out.size;omega);have G6:=Hm (yw G5.out hg');have hgs:=hg'.size;have D6:=Hm hd'
 have T6:=Hm (S5.out.blk k1' k2' (fun e t' ht=>by
  have:=E5.out e;refine⟨R,S,x,y,z,t',by simp,?_⟩
  (try simp only[qg,yh])
  omega))
 have S6:Hid (Sem bs ([R,S,x,y,z]++zO L1) b6 f6):=T6.out.1;have E6:Hid (f6=false→(((0≤x∧x≤16384)∧(0≤y∧y≤16384))∧(0≤z∧z≤16384))∧L1.length=x.toNat):=fun e=>⟨E5.out (back k1' e),T6.out.2 e⟩
 clear hd' hg' k1' k2' ho A5 B5 G5 D5 S5 T6 E5;have d0:=za B6.out 2;have d1:=zb B6.out 2;simp only[qk,ql,qm]at d0;go_upto_region 4 with fail;clear d0 d1;obtain⟨Y0,hY⟩:∃Y:World,Y=w6.setCell ⟨w2.heap.size,2,none⟩ (.slice s1 L1.length m1):=⟨_,rfl⟩;rw[←hY];have BY:Hid (Below w2.heap.size w6 Y0):=by unfold Hid;rw[hY];exact(Below.refl w2.heap.size w6).setCell (show w2.heap.size≤(⟨w2.heap.size,2,none⟩:Addr).block from qn _) _
 have B6':Hid (Y0.heap[w2.heap.size]? =some (.cells #[.int .i64 R,.int .i64 S,(.slice s1 L1.length m1),.slice none 0 0,.slice none 0 0] 25)):=by unfold Hid;rw[hY];have:=zk B6.out 2 (.slice s1 L1.length m1);simpa using this
 have A6':Hid (Y0.heap[w.heap.size]? =some (.cells #[.int .i64 0,.int .i64 0,.slice none 0 0,.slice none 0 0,.slice none 0 0] 25)):=by unfold Hid;rw[hY];exact zd A6.out (by show w.heap.size≠w2.heap.size;omega) _
 have D6':=Hm (D6.out.keep (w':=Y0) (BY.out.mono (by omega)) (BY.out.block r (by omega)));have G6':=Hm (yG G6.out (w2:=Y0) (BY.out.mono (by omega)) BY.out.size);have O1':Hid (Y0.ownsRow w.heap.size 60 4 (.slice s1 L1.length m1) L1.length (L1.flatMap Is.cells)):=by unfold Hid;rw[hY];exact zI O1.out B6.out (by decide)
 clear hY BY A6 B6 D6 G6 O1;have A6:=A6';have B6:=B6';have D6:=D6';have G6:=G6';have O1:=O1';clear A6' B6' D6' G6' O1';have P1:Hid (∀g,(Value.slice s1 L1.length m1).ownBlock=some g→g<Y0.heap.size):=fun g hg=>(O1.out.lt g hg).2
 have U1:=G6.out.size;go_wp2_with fail;refine(xB r lo b6 f6 a6 c6 y y.toNat Y0 D6.out hr (fun e=>by have:=E6.out e;omega)).mono ?_;rintro e w7 ⟨v,L2,b7,f7,a7,c7,rfl,ho,hl2,hd',hg',k1',k2'⟩;obtain⟨s2,m2,rfl⟩:=zF ho;have A7:=Hm (yQ A6.out hg' hne);have B7:=Hm (yQ B6.out hg' hqr);have O2:Hid (w7.ownsRow Y0.heap.size 60 4 (.slice s2 L2.length m2) L2.length (L2.flatMap Is.cells)):=ho.mono (by have:=G6.out.size;omega);have O1':=Hm (xD O1.out D6.out.x hg' (by decide));clear O1;have G7:=Hm (yw G6.out hg');have hgs:=hg'.size;have D7:=Hm hd'
 have T7:=Hm (S6.out.blk k1' k2' (fun e t' ht=>by
  have:=E6.out e;refine⟨R,S,x,y,z,zO L1++t',by simp,?_⟩
  (try simp only[qg,yh])
  omega))
 have S7:Hid (Sem bs ([R,S,x,y,z]++zO L1++zO L2) b7 f7):=T7.out.1;have E7:Hid (f7=false→((((0≤x∧x≤16384)∧(0≤y∧y≤16384))∧(0≤z∧z≤16384))∧L1.length=x.toNat)∧L2.length=y.toNat):=fun e=>⟨E6.out (back k1' e),T7.out.2 e⟩
 clear hd' hg' k1' k2' ho A6 B6 G6 D6 S6 T7 E6;have O1:=O1';clear O1';have d0:=za B7.out 3;have d1:=zb B7.out 3;simp only[qk,ql,qm]at d0;go_upto_region 5 with fail;clear d0 d1;obtain⟨Y1,hY⟩:∃Y:World,Y=w7.setCell ⟨w2.heap.size,3,none⟩ (.slice s2 L2.length m2):=⟨_,rfl⟩;rw[←hY];have U3b:Hid (Y0.heap.size≤w7.heap.size):=hgs;have BY:Hid (Below w2.heap.size w7 Y1):=by unfold Hid;rw[hY];exact(Below.refl w2.heap.size w7).setCell (show w2.heap.size≤(⟨w2.heap.size,3,none⟩:Addr).block from qn _) _
 have B7':Hid (Y1.heap[w2.heap.size]? =some (.cells #[.int .i64 R,.int .i64 S,(.slice s1 L1.length m1),(.slice s2 L2.length m2),.slice none 0 0] 25)):=by unfold Hid;rw[hY];have:=zk B7.out 3 (.slice s2 L2.length m2);simpa using this
 have A7':Hid (Y1.heap[w.heap.size]? =some (.cells #[.int .i64 0,.int .i64 0,.slice none 0 0,.slice none 0 0,.slice none 0 0] 25)):=by unfold Hid;rw[hY];exact zd A7.out (by show w.heap.size≠w2.heap.size;omega) _
 have D7':=Hm (D7.out.keep (w':=Y1) (BY.out.mono (by omega)) (BY.out.block r (by omega)));have G7':=Hm (yG G7.out (w2:=Y1) (BY.out.mono (by omega)) BY.out.size);have O1':Hid (Y1.ownsRow w.heap.size 60 4 (.slice s1 L1.length m1) L1.length (L1.flatMap Is.cells)):=by unfold Hid;rw[hY];exact zI O1.out B7.out (by decide)
 have O2':Hid (Y1.ownsRow Y0.heap.size 60 4 (.slice s2 L2.length m2) L2.length (L2.flatMap Is.cells)):=by unfold Hid;rw[hY];exact zI O2.out B7.out (by decide)
 have U3a:Hid (Y0.heap.size≤Y1.heap.size):=qo U3b.out BY.out.size;clear hY BY A7 B7 D7 G7 O1 O2;have A7:=A7';have B7:=B7';have D7:=D7';have G7:=G7';have O1:=O1';have O2:=O2';clear A7' B7' D7' G7' O1' O2';have P2:Hid (∀g,(Value.slice s2 L2.length m2).ownBlock=some g→g<Y1.heap.size):=fun g hg=>(O2.out.lt g hg).2
 have U2:=G7.out.size;have U3:Hid (Y0.heap.size≤Y1.heap.size):=U3a.out;go_wp2_with fail;refine(xB r lo b7 f7 a7 c7 z z.toNat Y1 D7.out hr (fun e=>by have:=E7.out e;omega)).mono ?_;rintro e w8 ⟨v,L3,b8,f8,a8,c8,rfl,ho,hl3,hd',hg',k1',k2'⟩;obtain⟨s3,m3,rfl⟩:=zF ho;have A8:=Hm (yQ A7.out hg' hne);have B8:=Hm (yQ B7.out hg' hqr);have O3:Hid (w8.ownsRow Y1.heap.size 60 4 (.slice s3 L3.length m3) L3.length (L3.flatMap Is.cells)):=ho.mono (by have:=G7.out.size;omega);have O1':=Hm (xD O1.out D7.out.x hg' (by decide));clear O1;have O2':=Hm (xD O2.out D7.out.x hg' (by decide));clear O2;have G8:=Hm (yw G7.out hg');have hgs:=hg'.size;have D8:=Hm hd'
 have T8:=Hm (S7.out.blk k1' k2' (fun e t' ht=>by
  have:=E7.out e;refine⟨R,S,x,y,z,zO L1++zO L2++t',by simp,?_⟩
  (try simp only[qg,yh])
  omega))
 have S8:Hid (Sem bs ([R,S,x,y,z]++zO L1++zO L2++zO L3) b8 f8):=T8.out.1;have E8:Hid (f8=false→(((((0≤x∧x≤16384)∧(0≤y∧y≤16384))∧(0≤z∧z≤16384))∧L1.length=x.toNat)∧L2.length=y.toNat)∧L3.length=z.toNat):=fun e=>⟨E7.out (back k1' e),T8.out.2 e⟩
 clear hd' hg' k1' k2' ho A7 B7 G7 D7 S7 T8 E7;have O1:=O1';clear O1';have O2:=O2';clear O2';have d0:=za B8.out 4;have d1:=zb B8.out 4;simp only[qk,ql,qm]at d0;go_upto_region 6 with fail;clear d0 d1;obtain⟨Y2,hY⟩:∃Y:World,Y=w8.setCell ⟨w2.heap.size,4,none⟩ (.slice s3 L3.length m3):=⟨_,rfl⟩;rw[←hY];have BY:Hid (Below w2.heap.size w8 Y2):=by unfold Hid;rw[hY];exact(Below.refl w2.heap.size w8).setCell (show w2.heap.size≤(⟨w2.heap.size,4,none⟩:Addr).block from qn _) _
 have B8':Hid (Y2.heap[w2.heap.size]? =some (.cells #[.int .i64 R,.int .i64 S,(.slice s1 L1.length m1),(.slice s2 L2.length m2),(.slice s3 L3.length m3)] 25)):=by unfold Hid;rw[hY];have:=zk B8.out 4 (.slice s3 L3.length m3);simpa using this
 have A8':Hid (Y2.heap[w.heap.size]? =some (.cells #[.int .i64 0,.int .i64 0,.slice none 0 0,.slice none 0 0,.slice none 0 0] 25)):=by unfold Hid;rw[hY];exact zd A8.out (by show w.heap.size≠w2.heap.size;omega) _
 have D8':=Hm (D8.out.keep (w':=Y2) (BY.out.mono (by omega)) (BY.out.block r (by omega)));have G8':=Hm (yG G8.out (w2:=Y2) (BY.out.mono (by omega)) BY.out.size);have O1':Hid (Y2.ownsRow w.heap.size 60 4 (.slice s1 L1.length m1) L1.length (L1.flatMap Is.cells)):=by unfold Hid;rw[hY];exact zI O1.out B8.out (by decide)
 have O2':Hid (Y2.ownsRow Y0.heap.size 60 4 (.slice s2 L2.length m2) L2.length (L2.flatMap Is.cells)):=by unfold Hid;rw[hY];exact zI O2.out B8.out (by decide)
 have O3':Hid (Y2.ownsRow Y1.heap.size 60 4 (.slice s3 L3.length m3) L3.length (L3.flatMap Is.cells)):=by unfold Hid;rw[hY];exact zI O3.out B8.out (by decide)
 clear hY BY A8 B8 D8 G8 O1 O2 O3;have A8:=A8';have B8:=B8';have D8:=D8';have G8:=G8';have O1:=O1';have O2:=O2';have O3:=O3';clear A8' B8' D8' G8' O1' O2' O3';have d0:=za B8.out 0;have u0:=za A8.out 0;have t0:=zb A8.out 0;have d1:=za B8.out 1;have u1:=za A8.out 1;have t1:=zb A8.out 1;have d2:=za B8.out 2;have u2:=za A8.out 2;have t2:=zb A8.out 2;have d3:=za B8.out 3;have u3:=za A8.out 3;have t3:=zb A8.out 3;have d4:=za B8.out 4;have u4:=za A8.out 4;have t4:=zb A8.out 4;simp only[qk,ql,qm]at d0 d1 d2 d3 d4 u0 u1 u2 u3 u4;go_wp2
 obtain⟨Z,hZ⟩:∃Z:World,Z=Y2.setCells w.heap.size 0 [.int .i64 R,.int .i64 S,(.slice s1 L1.length m1),(.slice s2 L2.length m2),(.slice s3 L3.length m3)]:=⟨_,rfl⟩;have hZ':(((((Y2.setCell ⟨w.heap.size,0,none⟩ (.int .i64 R)).setCell ⟨w.heap.size,1,none⟩ (.int .i64 S)).setCell ⟨w.heap.size,2,none⟩ (.slice s1 L1.length m1)).setCell ⟨w.heap.size,3,none⟩ (.slice s2 L2.length m2)).setCell ⟨w.heap.size,4,none⟩ (.slice s3 L3.length m3))=Z:=by rw[hZ];rfl
 rw[hZ'];have RZ:Z.heap[w.heap.size]? =some (.cells #[.int .i64 R,.int .i64 S,(.slice s1 L1.length m1),(.slice s2 L2.length m2),(.slice s3 L3.length m3)] 25):=by rw[←hZ'];have:=zk (zk (zk (zk (zk A8.out 0 (.int .i64 R)) 1 (.int .i64 S)) 2 (.slice s1 L1.length m1)) 3 (.slice s2 L2.length m2)) 4 (.slice s3 L3.length m3);simpa using this
 have Q0:Hid (Below w.heap.size Y2 Z):=by unfold Hid;rw[hZ];exact Below.setCells' w.heap.size (qn _) _ 0 Y2 (Below.refl _ _)
 have DZ:=Hm (D8.out.keep (w':=Z) (Q0.out.mono (by omega)) (Q0.out.block r hrw));have GZ:=Hm (yG G8.out Q0.out Q0.out.size)
 have OK:Hid (∀(B:Nat) (v:Value) (L:List Is),Y2.ownsRow B 60 4 v L.length (L.flatMap Is.cells)→Z.ownsRow B 60 4 v L.length (L.flatMap Is.cells)):=fun B v L ho=>by
  rw[←hZ'];exact zI (zI (zI (zI (zI ho A8.out (by decide)) (zk A8.out 0 _) (by decide)) (zk (zk A8.out 0 _) 1 _) (by decide)) (zk (zk (zk A8.out 0 _) 1 _) 2 _) (by decide)) (zk (zk (zk (zk A8.out 0 _) 1 _) 2 _) 3 _) (by decide)
 clear hZ hZ' d0 d1 d2 d3 d4 u0 u1 u2 u3 u4 t0 t1 t2 t3 t4;have z0:=za RZ 0;have z1:=za RZ 1;have z2:=za RZ 2;have z3:=za RZ 3;have z4:=za RZ 4;simp only[qk,ql,qm]at z0 z1 z2 z3 z4;refine bodyPost_ret (v:=.agg #[.int .i64 R,.int .i64 S,(.slice s1 L1.length m1),(.slice s2 L2.length m2),(.slice s3 L3.length m3)]) (by simp[results,Tryd.results17,go_sem,z0,z1,z2,z3,z4];try rfl) rfl ?_;refine CodP.mk ⟨R,S,L1,L2,L3⟩ _ _ _ b8 f8 a8 c8 rfl (OK.out _ _ _ O1.out) _ _ ⟨U1,U3.out⟩ P1.out P2.out (OK.out _ _ _ O2.out) (OK.out _ _ _ O3.out) hl1 hl2 hl3 DZ.out GZ.out ⟨fun e=>?_,S8.out.2⟩;have hl:=S8.out.1 e;have he:=E8.out e
 have:[R,S,x,y,z]++zO L1++zO L2++zO L3=(Dc.mk R S L1 L2 L3).all:=by
  have ex:x=(L1.length:Int):=by omega
  have ey:y=(L2.length:Int):=by omega
  have ez:z=(L3.length:Int):=by omega
  rw[ex,ey,ez];simp[Dc.all]
 rw[←this];exact hl
end Go.Proofs.YtbdldkpifanaiaaDoor.Dec
