import Derived.Test.YtbkajklninmhiaaGreatDoorPm26
set_option maxHeartbeats 6400000
set_option maxRecDepth 1000000
set_option linter.unusedVariables false
set_option linter.unusedSimpArgs false
namespace Go.Proofs.YtbkajklninmhiaaGreatDoor.Dq
open Go Go.RowKit Mem Syn Parse Par Draw
attribute [local go_sem ↓] Go.wp_at_zero Go.wp_at_succ
variable {B g:Nat} {w0 w w':World} {bs:List UInt8} {D:Sr} {s s':DS}
variable {iv:Value} {X:List Xi}
def Fx0 (g:Nat) (v1:Value) (r:List Value):Act:={tmps:=(.pointer (some ⟨g,0,none⟩)::v1::r).toArray,defers:=[]}
theorem spTop {n cI bI:Nat} {A:Code} {Q:Exit→Act→World→Prop} {r:List Value} (hr:r.length=117) (C0:Hid (Cu B g w0 w bs D s)) (P0:Hid (PgO w0.heap.size w (.slice (some ⟨bI,0,none⟩) n cI) X)) (hn:n=X.length) (hn0:0<n) (hn1:n≤1000)
  (hA:Hid (∀j k s1 s2 gi x v1 v2 v8 v9 v10 r' wx,j<n→k<12→D.bel s n=(j,s1)→D.bel s1 12=(k,s2)→X[j]? =some x→r'.length=108→Sz B g w0 w wx bs D s2 (.slice (some ⟨bI,0,none⟩) n cI) X gi x→Code.wp Tryz.prog A Q (Fx g w gi (j:Int) (k:Int) v1 v2 v8 v9 v10 r') wx)):
  Code.wp Tryz.prog (.seq (sL t0) (.seq (sL (sR t0)) (.seq (sL (sR (sR t0))) (.seq (sL (sR (sR (sR t0)))) (.seq (sL (sR (sR (sR (sR t0))))) A))))) Q (Fx0 g (.agg #[(.slice (some ⟨bI,0,none⟩) n cI)]) r) w:=by
 have hw0:=C0.out.size;obtain⟨w1,hw1⟩:∃W,W=(w.alloc (.cells #[(.slice (some ⟨bI,0,none⟩) n cI)] 25)).alloc (.cells #[.slice none 0 0] 25):=⟨_,rfl⟩;have hb1:Below w.heap.size w w1:=by rw[hw1];exact zd (zd (Below.refl _ _) _) _
 have C1:=Hm (C0.out.below hb1);have P1:=Hm (P0.out.below hb1);have OD1:=Hm ((Old.refl w).below hb1);have X1:Hid (w1.heap[w.heap.size]? =some (.cells #[(.slice (some ⟨bI,0,none⟩) n cI)] 25)):=by rw[hw1];exact zv (zo _ _) _
 have Y1:Hid (w1.heap[w.heap.size+1]? =some (.cells #[.slice none 0 0] 25)):=by rw[hw1];exact yb _ _ _
 have hz1:w1.heap.size=w.heap.size+2:=by rw[hw1];simp
 have k0:((n:Int)==0)=false:=by simp;omega
 have b0:=cL0 X1.out;have HN:=Hm hn;rw[hw1]at b0;clear hb1 hn;revert r;refine @zp 117 _ ?_
 iterate 117 (intro _)
 show Code.wp _ _ _ _ _
 conv=>arg 2;dsimp only[t0,Tryz.f33,Option.getD,sR,sL,cT,cF,bk,lpo]
 conv=>arg 4;dsimp only[Fx0]
 go_wp2_with fail;rw[←hw1];clear hw1 b0;refine(yq C1.out n hn0 (by omega)).mono ?_;rintro e' w2 ⟨j,s1,hx,lj,rfl,hc,hgb⟩;have Qj:=Hm hx;have C2:=Hm hc;have P2:=Hm (P1.out.cur C1.out hgb);have X2:=Hm (C1.out.blk hw0 X1.out hgb);have Y2:=Hm (C1.out.blk (Nat.le_succ_of_le hw0) Y1.out hgb);have hz2:=hgb.size;have OD2:=Hm (OD1.out.cur C1.out hgb);clear hx hc hgb C1 P1 X1 Y1;obtain⟨x,hxe⟩:∃x,X[j]? =some x:=⟨X[j]'(by rw[←HN.out];exact lj),List.getElem?_eq_getElem _⟩;have hmem:x∈X:=List.mem_of_getElem? hxe;obtain⟨aE,nE,qE,heE⟩:∃a n c,x.e=.slice a n c:=by obtain⟨a,c,e,-⟩:=zh (P2.out.e x hmem);exact⟨_,_,_,e⟩
 obtain⟨aF,nF,qF,heF⟩:∃a n c,x.f=.slice a n c:=by obtain⟨a,c,e,-⟩:=zh (P2.out.f x hmem);exact⟨_,_,_,e⟩
 have hrow:w2.ownsRow w0.heap.size 38 7 (.slice (some ⟨bI,0,none⟩) n cI) n (X.flatMap Xi.cs):=by
  have:=P2.out.row;rw[←HN.out]at this;exact this
 have hcs:x.cs=[.int .i64 x.im.k,.string ⟨x.im.n.toArray⟩,.slice aE nE qE,.slice aF nF qF,.int .i64 x.im.K,.int .i64 x.im.lo,.int .i64 x.im.hi]:=by unfold Xi.cs itC;rw[heE,heF]
 obtain⟨p0,-⟩:=zk (i:=j*7) hrow ((zm Xi.len j X x 0 hxe (by omega)).trans (show _=some (.int .i64 x.im.k) by rw[hcs];rfl));obtain⟨p1,-⟩:=zk (i:=j*7+1) hrow ((zm Xi.len j X x 1 hxe (by omega)).trans (show _=some (.string ⟨x.im.n.toArray⟩) by rw[hcs];rfl));obtain⟨p2,-⟩:=zk (i:=j*7+2) hrow ((zm Xi.len j X x 2 hxe (by omega)).trans (show _=some (.slice aE nE qE) by rw[hcs];rfl));obtain⟨p3,-⟩:=zk (i:=j*7+3) hrow ((zm Xi.len j X x 3 hxe (by omega)).trans (show _=some (.slice aF nF qF) by rw[hcs];rfl));obtain⟨p4,-⟩:=zk (i:=j*7+4) hrow ((zm Xi.len j X x 4 hxe (by omega)).trans (show _=some (.int .i64 x.im.K) by rw[hcs];rfl))
 obtain⟨p5,-⟩:=zk (i:=j*7+5) hrow ((zm Xi.len j X x 5 hxe (by omega)).trans (show _=some (.int .i64 x.im.lo) by rw[hcs];rfl));obtain⟨p6,-⟩:=zk (i:=j*7+6) hrow ((zm Xi.len j X x 6 hxe (by omega)).trans (show _=some (.int .i64 x.im.hi) by rw[hcs];rfl));have b0:=cL0 X2.out;have j0:(0:Int)≤(j:Int):=by omega
 have jl:(j:Int)<(n:Int):=by omega
 have hni:((.slice (some ⟨bI,0,none⟩) n cI):Value).ownBlock≠some w2.heap.size:=fun e=>by
  have:=(World.ownsRow.lt hrow _ e).2;omega
 have HNI:=Hm hni;have HXE:=Hm hxe;have HMM:=Hm hmem;have HEE:=Hm (And.intro heE heF);clear hrow hcs hni hxe hmem heE heF;obtain⟨w3,hw3⟩:∃W,W=w2.alloc (.cells #[.int .i64 x.im.k,.string ⟨x.im.n.toArray⟩,.slice aE nE qE,.slice aF nF qF,.int .i64 x.im.K,.int .i64 x.im.lo,.int .i64 x.im.hi] 38):=⟨_,rfl⟩;have hb3:Below w2.heap.size w2 w3:=by rw[hw3];exact zd (Below.refl _ _) _
 have I3:Hid (w3.heap[w2.heap.size]? =some (.cells #[.int .i64 x.im.k,.string ⟨x.im.n.toArray⟩,.slice aE nE qE,.slice aF nF qF,.int .i64 x.im.K,.int .i64 x.im.lo,.int .i64 x.im.hi] 38)):=by rw[hw3];exact zo _ _
 have Z3:Hid (Sz B g w0 w w3 bs D s1 (.slice (some ⟨bI,0,none⟩) n cI) X w2.heap.size x):=by
  refine⟨C2.out.below hb3,P2.out.below hb3,by omega,hw0,HNI.out,zg X2.out hb3,zg Y2.out hb3,?_,(P2.out.e x HMM.out).below hb3,(P2.out.f x HMM.out).below hb3,by have:=P2.out.le x HMM.out;omega,OD2.out.below hb3⟩;unfold itA;rw[HEE.out.1,HEE.out.2];exact I3.out
 clear hb3 C2 P2 X2 Y2;go_upto_region 5 with fail;rw[←hw3];clear hw3 p0 p1 p2 p3 p4 p5 p6 b0;go_wp2_with fail;refine(yq Z3.out.c 12 (by omega) (by omega)).mono ?_;rintro e' w4 ⟨k,s2,hx,lk,rfl,hc,hgb⟩;have Qk:=Hm hx;have Z4:=Hm (Z3.out.cur hc hgb);clear hx hc hgb Z3;go_wp2_with fail;refine hA.out j k s1 s2 w2.heap.size x _ _ _ _ _ _ _ lj lk Qj.out Qk.out HXE.out ?_ Z4.out;rfl
theorem spNil {A:Code} {r:List Value} (hr:r.length=117) (C0:Hid (Cu B g w0 w bs D s)) (P0:Hid (PgO w0.heap.size w iv X)) (hX:X=[]) {m:List Im×DS} (hm:Hid (m=([],s))):
  Code.wp Tryz.prog (.seq (sL t0) (.seq (sL (sR t0)) A)) (bodyPost Tryz.prog Tryz.f33 (RQ' B g w0 w bs D m)) (Fx0 g (.agg #[iv]) r) w:=by
 have hw0:=C0.out.size;obtain⟨pi,ni,ci,rfl⟩:∃a n c,iv=.slice a n c:=by obtain⟨a,c,e,-⟩:=zh P0.out.row;exact⟨_,_,_,e⟩
 have hni:ni=0:=by obtain⟨a',c',e,-⟩:=zh P0.out.row;injection e with _ e _;rw[e,hX];rfl
 have k0:((ni:Int)==0)=true:=by simp;omega
 have HX:=Hm hX;obtain⟨V,hV⟩:∃V,V=(w.alloc (.cells #[.slice pi ni ci] 25)).alloc (.cells #[.slice pi ni ci] 25):=⟨_,rfl⟩;have hb1:Below w.heap.size w V:=by rw[hV];exact zd (zd (Below.refl _ _) _) _
 have q1:=Hm (C0.out.below hb1);have q2:=Hm (P0.out.below hb1).r;have q9:=Hm ((Old.refl w).below hb1);have q3:Hid (V.heap[w.heap.size+1]? =some (.cells #[.slice pi ni ci] 25)):=by rw[hV];exact yb _ _ _
 clear hb1 hni hX;revert r;refine @zp 117 _ ?_
 iterate 117 (intro _)
 show Code.wp _ _ _ _ _
 conv=>arg 2;dsimp only[t0,Tryz.f33,Option.getD,sR,sL,cT,cF,bk,lpo]
 conv=>arg 4;dsimp only[Fx0]
 go_wp2;rw[←hV];clear hV;have t0':=cL0 q3.out;refine bodyPost_ret (v:=.agg #[.slice pi ni ci]) (by simp[results,Tryz.results33,go_sem,t0'];try rfl) rfl ?_;rw[hm.out];exact⟨_,X,rfl,by rw[HX.out];rfl,q2.out,q1.out,q9.out⟩
theorem t0_eq:t0=.seq (sL t0) (.seq (sL (sR t0)) (.seq (sL (sR (sR t0))) (.seq (sL (sR (sR (sR t0)))) (.seq (sL (sR (sR (sR (sR t0))))) t5)))):=rfl
theorem t5_eq:t5=.seq (sL t5) (.seq (sL (sR t5)) (.seq (sL (sR (sR t5))) (.seq (sL (sR (sR (sR t5)))) (.seq (sL (sR (sR (sR (sR t5))))) (.seq (sL (sR (sR (sR (sR (sR t5)))))) (.seq (sL (sR (sR (sR (sR (sR (sR t5))))))) (.seq (sL (sR (sR (sR (sR (sR (sR (sR t5)))))))) (t13)))))))):=rfl
theorem UT (v u:Value) (n:Nat):#[v,u]++Array.replicate n undef=(v::u::List.replicate n undef).toArray:=by
 apply Array.ext';simp
theorem Zc {P:Program} {f:Func} {R:Ending→World→Prop} (c:List PanicEntry) (a a':Act) (w:World) (h:a.defers=a'.defers) (hq:bodyPost P f R (.panic c) a w):bodyPost P f R (.panic c) a' w:=by
 unfold bodyPost at*;simpa[h]using hq
theorem TF (C0:Cu B g w0 w bs D s) (P0:PgO w0.heap.size w iv X) (hX:X.length≤1000):Calls Tryz.prog 33 #[.pointer (some ⟨g,0,none⟩),.agg #[iv]] w (RQ' B g w0 w bs D (ZQ D (X.map Xi.im) s)):=by
 refine calls_of_wp Tryz.func33 (c:=t0) rfl ?_;rw[show(#[.pointer (some ⟨g,0,none⟩),.agg #[iv]]++Array.replicate (Tryz.f33.ntmps- (#[.pointer (some ⟨g,0,none⟩),.agg #[iv]]:Array Value).size) undef)=(.pointer (some ⟨g,0,none⟩)::.agg #[iv]::List.replicate 117 undef).toArray from UT _ _ 117,t0_eq];by_cases h0:X.length=0
 ·have hX0:X=[]:=List.eq_nil_of_length_eq_zero h0
  exact spNil (r:=List.replicate 117 undef) List.length_replicate (Hm C0) (Hm P0) hX0 (Hm (by subst hX0;rfl))
 obtain⟨bI,cI,hiv⟩:∃b c,iv=.slice (some ⟨b,0,none⟩) X.length c:=by
  rcases P0.row.2 with⟨_,e⟩|⟨g,cap,cur,e,_⟩
  ·exact absurd e h0
  ·exact⟨_,_,e⟩
 subst hiv;refine spTop (r:=List.replicate 117 undef) List.length_replicate (Hm C0) (Hm P0) rfl (by omega) hX (Hm fun j k s1 s2 gi x v1 v2 v8 v9 v10 r' wx hj hk qj qk hx hr Z=>?_);have hmem:x∈X:=List.mem_of_getElem? hx
 have hD:ZQ D (X.map Xi.im) s=((X.map Xi.im).set j (yP D x.im k s2).1,(yP D x.im k s2).2):=by
  unfold ZQ;rw[List.length_map,if_neg h0,qj];simp only[qk];rw[show(X.map Xi.im).getD j imZ=x.im by rw[List.getD_eq_getElem?_getD,List.getElem?_map,hx];rfl]
 rw[t5_eq];obtain⟨im,xe,xf⟩:=x;obtain⟨aE,nE,qE,rfl⟩:∃a n c,xe=.slice a n c:=by obtain⟨a,c,e,-⟩:=zh Z.e;exact⟨_,_,_,e⟩
 obtain⟨aF,nF,qF,rfl⟩:∃a n c,xf=.slice a n c:=by obtain⟨a,c,e,-⟩:=zh Z.f;exact⟨_,_,_,e⟩
 dsimp only at hD;have HZ:=Hm Z;have HM:=Hm hmem
 have tail:∀{k:Nat} {v1 v2:Value} (m:List Im×DS),m=((X.map Xi.im).set j (yP D im k s2).1,(yP D im k s2).2)→Hid (∀v8 v9 v10 r' wx s' y,r'.length=108→Sz B g w0 w wx bs D s' (.slice (some ⟨bI,0,none⟩) X.length cI) X gi y→yP D im k s2=(y.im,s')→Code.wp Tryz.prog t13 (bodyPost Tryz.prog Tryz.f33 (RQ' B g w0 w bs D m)) (Fx g w gi (j:Int) (k:Int) v1 v2 v8 v9 v10 r') wx):=fun {k v1 v2} m hm=>Hm fun v8 v9 v10 r' wx s' y hr hz hs=>by
  rw[hs]at hm;exact spTail hr (Hm hz) rfl hj (Hm hm)
 rcases(show k=0∨k=1∨k=2∨k=3∨k=4∨k=5∨k=6∨k=7∨k=8∨k=9∨k=10∨k=11 by omega)with rfl|rfl|rfl|rfl|rfl|rfl|rfl|rfl|rfl|rfl|rfl|rfl
 ·exact spK0 hr HZ HM (tail (k:=0) _ hD)
 ·exact spK1 hr HZ HM (tail (k:=1) _ hD)
 ·exact spK2 hr HZ HM (tail (k:=2) _ hD)
 ·exact spK3 hr HZ HM (tail (k:=3) _ hD)
 ·exact spK4 hr HZ HM (tail (k:=4) _ hD)
 ·exact spK5 hr HZ HM (tail (k:=5) _ hD)
 ·exact spK6 hr HZ HM (Hm Zc) (tail (k:=6) _ hD)
 ·by_cases hE:im.E.length=0
  ·exact spN7 hr HZ HM hE (tail (k:=7) _ hD)
  ·exact spE7 hr HZ HM (by omega) (tail (k:=7) _ hD)
 ·by_cases hE:im.E.length=0
  ·exact spN8 hr HZ HM hE (tail (k:=8) _ hD)
  ·exact spE8 hr HZ HM (by omega) (tail (k:=8) _ hD)
 ·by_cases hE:im.E.length=0
  ·exact spN9 hr HZ HM hE (tail (k:=9) _ hD)
  ·exact spE9 hr HZ HM (by omega) (tail (k:=9) _ hD)
 ·by_cases hE:im.E.length=0
  ·exact spN10 hr HZ HM hE (tail (k:=10) _ hD)
  ·exact spE10 hr HZ HM (by omega) (tail (k:=10) _ hD)
 ·by_cases hE:im.E.length=0
  ·exact spN11 hr HZ HM hE (tail (k:=11) _ hD)
  ·exact spE11 hr HZ HM (by omega) (tail (k:=11) _ hD)
end Go.Proofs.YtbkajklninmhiaaGreatDoor.Dq
namespace Go.Proofs.YtbkajklninmhiaaGreatDoor.Dq
open Go Go.RowKit Mem Syn Parse Par Draw
attribute [local go_sem ↓] Go.wp_at_zero Go.wp_at_succ
variable {B g:Nat} {w0 w w':World} {bs:List UInt8} {D:Sr} {s s':DS}
variable {iv:Value} {X:List Xi}
def xS (k:Int):Bool:=decide (k≠6)&&decide (k≠7)
theorem Wp (k:Int) (w:World):Calls Tryz.prog 36 #[.int .i64 k] w fun e w'=>e=.returned (.bool (xS k))∧w'=w:=by
 by_cases h6:k=6
 ·have h1:(k !=6)=false:=by simp[h6]
  have hv:xS k=false:=by simp[xS,h6]
  clear h6;go_enter Tryz.func36,Tryz.ntmps36;go_wp2;go_ret;rw[hv];exact⟨rfl,rfl⟩
 by_cases h7:k=7
 ·have h2:(k !=7)=false:=by simp[h7]
  have hv:xS k=false:=by simp[xS,h7]
  clear h7;go_enter Tryz.func36,Tryz.ntmps36;go_wp2;go_ret;rw[hv];exact⟨rfl,rfl⟩
 have h1:k≠6:=h6;have h2:k≠7:=h7;have hv:xS k=true:=by simp[xS,h6,h7]
 go_enter Tryz.func36,Tryz.ntmps36;go_wp2;go_ret;rw[hv];refine⟨?_,rfl⟩;show Ending.returned (.bool (k !=6&&k !=7))=_;simp[h6,h7]
def Zu (k:Int):Nat:=if k=4∨k=8 then 2 else 1
def xQ (k:Int):Int:=if k=1 then 0 else if k=4∨k=8 then 1 else 2
theorem UM (k:Int) (w:World):Calls Tryz.prog 72 #[.int .i64 k] w fun e w'=>e=.returned (.int .i64 (xQ k))∧w'=w:=by
 by_cases h1:k=1
 ·have t1:(k==1)=true:=by simp[h1]
  have hv:xQ k=0:=by simp[xQ,h1]
  clear h1;go_enter Tryz.func72,Tryz.ntmps72;go_wp2;go_ret;rw[hv];exact⟨rfl,rfl⟩
 have t1:(k==1)=false:=by simp[h1]
 by_cases h4:k=4
 ·have t4:(k==4)=true:=by simp[h4]
  have hv:xQ k=1:=by simp[xQ,h4]
  clear h4 h1;go_enter Tryz.func72,Tryz.ntmps72;go_wp2;go_ret;rw[hv];exact⟨rfl,rfl⟩
 have t4:(k==4)=false:=by simp[h4]
 by_cases h8:k=8
 ·have t8:(k==8)=true:=by simp[h8]
  have hv:xQ k=1:=by simp[xQ,h8]
  clear h4 h1 h8;go_enter Tryz.func72,Tryz.ntmps72;go_wp2;go_ret;rw[hv];exact⟨rfl,rfl⟩
 have t8:(k==8)=false:=by simp[h8]
 have hv:xQ k=2:=by simp[xQ,h1,h4,h8]
 go_enter Tryz.func72,Tryz.ntmps72;go_wp2;go_ret;rw[hv];exact⟨rfl,rfl⟩
def Yf (o:Po):Bool:=decide (o.k≤6)
theorem arD (o:Po) (w:World):Calls Tryz.prog 73 #[.agg #[.int .i64 o.k,.int .i64 o.v,.string ⟨o.n.toArray⟩]] w fun e w'=>∃z:Int,e=.returned (.int .i64 z)∧(z==0)=Yf o∧Below w.heap.size w w':=by
 have hb:Hid (Below w.heap.size w (w.alloc (.cells #[.int .i64 o.k,.int .i64 o.v,.string ⟨o.n.toArray⟩] 88))):=zd (Below.refl _ _) _;have y0:=(zb (zo w (.cells #[.int .i64 o.k,.int .i64 o.v,.string ⟨o.n.toArray⟩] 88)) 0).trans (show _=some (.int .i64 o.k)from rfl);have y1:=(zb (zo w (.cells #[.int .i64 o.k,.int .i64 o.v,.string ⟨o.n.toArray⟩] 88)) 1).trans (show _=some (.int .i64 o.v)from rfl);by_cases h6:o.k≤6
 ·have hv:Yf o=true:=by simp[Yf,h6]
  go_enter Tryz.func73,Tryz.ntmps73;go_wp2;go_ret;exact⟨0,rfl,by rw[hv];rfl,hb.out⟩
 have t6:decide (o.k≤6)=false:=by simp;omega
 have hv:Hid (Yf o=false):=by unfold Hid Yf;exact t6
 by_cases h7:o.k=7
 ·have t7:(o.k==7)=true:=by simp[h7]
  clear h7 h6;go_enter Tryz.func73,Tryz.ntmps73;go_wp2;go_ret;exact⟨1,rfl,by rw[hv.out];rfl,hb.out⟩
 have t7:(o.k==7)=false:=by simp[h7]
 by_cases h8:o.k=8
 ·have t8:(o.k==8)=true:=by simp[h8]
  clear h7 h6 h8;go_enter Tryz.func73,Tryz.ntmps73;go_wp2;go_ret;exact⟨1,rfl,by rw[hv.out];rfl,hb.out⟩
 have t8:(o.k==8)=false:=by simp[h8]
 by_cases h9:o.k=9
 ·have t9:(o.k==9)=true:=by simp[h9]
  clear h7 h6 h8 h9;go_enter Tryz.func73,Tryz.ntmps73;go_wp2;go_ret;exact⟨2,rfl,by rw[hv.out];rfl,hb.out⟩
 have t9:(o.k==9)=false:=by simp[h9]
 by_cases hq:o.v=2
 ·have tq:(o.v !=2)=false:=by simp[hq]
  clear h7 h6 h8 h9 hq;go_enter Tryz.func73,Tryz.ntmps73;go_wp2;go_ret;exact⟨3,rfl,by rw[hv.out];rfl,hb.out⟩
 ·have tq:o.v≠2:=hq
  clear h7 h6 h8 h9;go_enter Tryz.func73,Tryz.ntmps73;go_wp2;go_ret;exact⟨2,rfl,by rw[hv.out];rfl,hb.out⟩
def unOp (D:Sr) (k:Nat) (o:Po) (s:DS):Po×DS:=
 if k=3 then
  (if o.k=3 then
   match D.once s 2 with
   |(b,s1)=>(if b=true then ⟨o.k,Int.tmod (wrap64 (o.v+3)) 13,o.n⟩else o,s1)
  else (o,s))
 else if k=4 then
  (if o.k=9 then
   match D.once s 2 with
   |(b,s1)=>(if b=true then ⟨o.k,Int.tmod (wrap64 (o.v+3)) 8,o.n⟩else o,s1)
  else (o,s))
 else if k=5 then
  (if Yf o=true then
   match D.once s 3 with
   |(b,s1)=>
    if b=true then
     match D.bel s1 6 with
     |(x,s2)=>(⟨2,0,ZJ x⟩,s2)
    else (o,s1)
  else (o,s))
 else (o,s)
def Uo (D:Sr) (k:Nat):Nat→List Po→DS→List Po×DS
 |0,L,s=>(L,s)
 |i+1,L,s=>
  match Uo D k i L s with
  |(M,s1)=>match unOp D k (M.getD i ⟨0,0,[]⟩) s1 with
   |(o,s2)=>(M.set i o,s2)
def xR (D:Sr) (it:Im) (s:DS):Im×DS:=
 match y9 D [] 2 s (Zu it.k)with
 |(E,s1)=>
  match (if it.k=5 then D.once s1 2 else (false,s1))with
  |(b,s2)=>(if b=true then ⟨it.k,it.n,it.E,E,it.K,it.lo,it.hi⟩else ⟨it.k,it.n,E,it.F,it.K,it.lo,it.hi⟩,s2)
def Ut (D:Sr) (it:Im) (k:Nat) (s:DS):Im×DS:=
 match Uo D k it.E.length it.E s with
 |(E,s1)=>match D.once s1 3 with
  |(b,s2)=>(⟨it.k,it.n,E,if b=true∧it.k=5 then E else it.F,it.K,it.lo,it.hi⟩,s2)
def ya (D:Sr) (L:List Im) (j k:Nat) (s:DS):List Im×DS:=
 if k=0 then (L++[⟨7,[],[],[],2,0,0⟩,⟨7,[],[],[],3,0,0⟩],s)
 else if 5<k∧xS (L.getD j imZ).k=true then
  match xR D (L.getD j imZ) s with
  |(it,s1)=>(L.set j it,s1)
 else if k=1 then
  match D.bel s 3 with
  |(x,s1)=>(L++[⟨1,ZJ x,[⟨1,1,[]⟩],[],0,0,0⟩],s1)
 else if k=2 then
  (if j+1<L.length then (L.set j (L.getD (j+1) imZ)).set (j+1) (L.getD j imZ)else L,s)
 else if 0<(L.getD j imZ).E.length then
  match Ut D (L.getD j imZ) k s with
  |(it,s1)=>(L.set j it,s1)
 else (L,s)
def V9 (D:Sr) (L:List Im) (s:DS):List Im×DS:=
 if L.length=0 then (L,s)
 else match D.bel s L.length with
  |(j,s1)=>match D.bel s1 8 with
   |(k,s2)=>ya D L j k s2
def RU (B g:Nat) (w0 w:World) (bs:List UInt8) (D:Sr) (r:List Im×DS) (e:Ending) (w':World):Prop:=∃iv X,e=.returned (.agg #[iv])∧X.map Xi.im=r.1∧PgO w0.heap.size w' iv X∧Cu B g w0 w' bs D r.2∧Old w w'∧r.1.length≤200
noncomputable def u0:Code:=Tryz.f32.body.getD .skip
noncomputable def u5:Code:=sR (sR (sR (sR (sR u0))))
def Fu (g:Nat) (w:World) (gi:Nat) (j k:Int) (v1 v2 v8 v9 v10 v11 v12:Value) (r:List Value):Act:={tmps:=(.pointer (some ⟨g,0,none⟩)::v1::v2::.pointer (some ⟨w.heap.size,0,none⟩)::.pointer (some ⟨w.heap.size+1,0,none⟩)::.int .i64 j::.pointer (some ⟨gi,0,none⟩)::.int .i64 k::v8::v9::v10::v11::v12::r).toArray,defers:=[]}
def Fu0 (g:Nat) (v1:Value) (r:List Value):Act:={tmps:=(.pointer (some ⟨g,0,none⟩)::v1::r).toArray,defers:=[]}
theorem unTop {n cI bI:Nat} {A:Code} {Q:Exit→Act→World→Prop} {r:List Value} (hr:r.length=199) (C0:Hid (Cu B g w0 w bs D s)) (P0:Hid (PgO w0.heap.size w (.slice (some ⟨bI,0,none⟩) n cI) X)) (hn:n=X.length) (hn0:0<n) (hn1:n≤1000)
  (hA:Hid (∀j k s1 s2 gi x v1 v2 v8 v9 v10 v11 v12 r' wx,j<n→k<8→D.bel s n=(j,s1)→D.bel s1 8=(k,s2)→X[j]? =some x→r'.length=188→Sz B g w0 w wx bs D s2 (.slice (some ⟨bI,0,none⟩) n cI) X gi x→Code.wp Tryz.prog A Q (Fu g w gi (j:Int) (k:Int) v1 v2 v8 v9 v10 v11 v12 r') wx)):
  Code.wp Tryz.prog (.seq (sL u0) (.seq (sL (sR u0)) (.seq (sL (sR (sR u0))) (.seq (sL (sR (sR (sR u0)))) (.seq (sL (sR (sR (sR (sR u0))))) A))))) Q (Fu0 g (.agg #[(.slice (some ⟨bI,0,none⟩) n cI)]) r) w:=by
 have hw0:=C0.out.size;obtain⟨w1,hw1⟩:∃W,W=(w.alloc (.cells #[(.slice (some ⟨bI,0,none⟩) n cI)] 25)).alloc (.cells #[.slice none 0 0] 25):=⟨_,rfl⟩;have hb1:Below w.heap.size w w1:=by rw[hw1];exact zd (zd (Below.refl _ _) _) _
 have C1:=Hm (C0.out.below hb1);have P1:=Hm (P0.out.below hb1);have OD1:=Hm ((Old.refl w).below hb1);have X1:Hid (w1.heap[w.heap.size]? =some (.cells #[(.slice (some ⟨bI,0,none⟩) n cI)] 25)):=by rw[hw1];exact zv (zo _ _) _
 have Y1:Hid (w1.heap[w.heap.size+1]? =some (.cells #[.slice none 0 0] 25)):=by rw[hw1];exact yb _ _ _
 have hz1:w1.heap.size=w.heap.size+2:=by rw[hw1];simp
 have k0:((n:Int)==0)=false:=by simp;omega
 have b0:=cL0 X1.out;have HN:=Hm hn;rw[hw1]at b0;clear hb1 hn;revert r;refine @zp 199 _ ?_
 iterate 199 (intro _)
 show Code.wp _ _ _ _ _
 conv=>arg 2;dsimp only[u0,Tryz.f32,Option.getD,sR,sL,cT,cF,bk,lpo]
 conv=>arg 4;dsimp only[Fu0]
 go_wp2_with fail;rw[←hw1];clear hw1 b0;refine(yq C1.out n hn0 (by omega)).mono ?_;rintro e' w2 ⟨j,s1,hx,lj,rfl,hc,hgb⟩;have Qj:=Hm hx;have C2:=Hm hc;have P2:=Hm (P1.out.cur C1.out hgb);have X2:=Hm (C1.out.blk hw0 X1.out hgb);have Y2:=Hm (C1.out.blk (Nat.le_succ_of_le hw0) Y1.out hgb);have hz2:=hgb.size;have OD2:=Hm (OD1.out.cur C1.out hgb);clear hx hc hgb C1 P1 X1 Y1;obtain⟨x,hxe⟩:∃x,X[j]? =some x:=⟨X[j]'(by rw[←HN.out];exact lj),List.getElem?_eq_getElem _⟩;have hmem:x∈X:=List.mem_of_getElem? hxe;obtain⟨aE,nE,qE,heE⟩:∃a n c,x.e=.slice a n c:=by obtain⟨a,c,e,-⟩:=zh (P2.out.e x hmem);exact⟨_,_,_,e⟩
 obtain⟨aF,nF,qF,heF⟩:∃a n c,x.f=.slice a n c:=by obtain⟨a,c,e,-⟩:=zh (P2.out.f x hmem);exact⟨_,_,_,e⟩
 have hrow:w2.ownsRow w0.heap.size 38 7 (.slice (some ⟨bI,0,none⟩) n cI) n (X.flatMap Xi.cs):=by
  have:=P2.out.row;rw[←HN.out]at this;exact this
 have hcs:x.cs=[.int .i64 x.im.k,.string ⟨x.im.n.toArray⟩,.slice aE nE qE,.slice aF nF qF,.int .i64 x.im.K,.int .i64 x.im.lo,.int .i64 x.im.hi]:=by unfold Xi.cs itC;rw[heE,heF]
 obtain⟨p0,-⟩:=zk (i:=j*7) hrow ((zm Xi.len j X x 0 hxe (by omega)).trans (show _=some (.int .i64 x.im.k) by rw[hcs];rfl));obtain⟨p1,-⟩:=zk (i:=j*7+1) hrow ((zm Xi.len j X x 1 hxe (by omega)).trans (show _=some (.string ⟨x.im.n.toArray⟩) by rw[hcs];rfl));obtain⟨p2,-⟩:=zk (i:=j*7+2) hrow ((zm Xi.len j X x 2 hxe (by omega)).trans (show _=some (.slice aE nE qE) by rw[hcs];rfl));obtain⟨p3,-⟩:=zk (i:=j*7+3) hrow ((zm Xi.len j X x 3 hxe (by omega)).trans (show _=some (.slice aF nF qF) by rw[hcs];rfl));obtain⟨p4,-⟩:=zk (i:=j*7+4) hrow ((zm Xi.len j X x 4 hxe (by omega)).trans (show _=some (.int .i64 x.im.K) by rw[hcs];rfl))
 obtain⟨p5,-⟩:=zk (i:=j*7+5) hrow ((zm Xi.len j X x 5 hxe (by omega)).trans (show _=some (.int .i64 x.im.lo) by rw[hcs];rfl));obtain⟨p6,-⟩:=zk (i:=j*7+6) hrow ((zm Xi.len j X x 6 hxe (by omega)).trans (show _=some (.int .i64 x.im.hi) by rw[hcs];rfl));have b0:=cL0 X2.out;have j0:(0:Int)≤(j:Int):=by omega
 have jl:(j:Int)<(n:Int):=by omega
 have hni:((.slice (some ⟨bI,0,none⟩) n cI):Value).ownBlock≠some w2.heap.size:=fun e=>by
  have:=(World.ownsRow.lt hrow _ e).2;omega
 have HNI:=Hm hni;have HXE:=Hm hxe;have HMM:=Hm hmem;have HEE:=Hm (And.intro heE heF);clear hrow hcs hni hxe hmem heE heF;obtain⟨w3,hw3⟩:∃W,W=w2.alloc (.cells #[.int .i64 x.im.k,.string ⟨x.im.n.toArray⟩,.slice aE nE qE,.slice aF nF qF,.int .i64 x.im.K,.int .i64 x.im.lo,.int .i64 x.im.hi] 38):=⟨_,rfl⟩;have hb3:Below w2.heap.size w2 w3:=by rw[hw3];exact zd (Below.refl _ _) _
 have I3:Hid (w3.heap[w2.heap.size]? =some (.cells #[.int .i64 x.im.k,.string ⟨x.im.n.toArray⟩,.slice aE nE qE,.slice aF nF qF,.int .i64 x.im.K,.int .i64 x.im.lo,.int .i64 x.im.hi] 38)):=by rw[hw3];exact zo _ _
 have Z3:Hid (Sz B g w0 w w3 bs D s1 (.slice (some ⟨bI,0,none⟩) n cI) X w2.heap.size x):=by
  refine⟨C2.out.below hb3,P2.out.below hb3,by omega,hw0,HNI.out,zg X2.out hb3,zg Y2.out hb3,?_,(P2.out.e x HMM.out).below hb3,(P2.out.f x HMM.out).below hb3,by have:=P2.out.le x HMM.out;omega,OD2.out.below hb3⟩;unfold itA;rw[HEE.out.1,HEE.out.2];exact I3.out
 clear hb3 C2 P2 X2 Y2;go_upto_region 5 with fail;rw[←hw3];clear hw3 p0 p1 p2 p3 p4 p5 p6 b0;go_wp2_with fail;refine(yq Z3.out.c 8 (by omega) (by omega)).mono ?_;rintro e' w4 ⟨k,s2,hx,lk,rfl,hc,hgb⟩;have Qk:=Hm hx;have Z4:=Hm (Z3.out.cur hc hgb);clear hx hc hgb Z3;go_wp2_with fail;refine hA.out j k s1 s2 w2.heap.size x _ _ _ _ _ _ _ _ _ lj lk Qj.out Qk.out HXE.out ?_ Z4.out;rfl
theorem unNil {A:Code} {r:List Value} (hr:r.length=199) (C0:Hid (Cu B g w0 w bs D s)) (P0:Hid (PgO w0.heap.size w iv X)) (hX:X=[]) {m:List Im×DS} (hm:Hid (m=([],s))):
  Code.wp Tryz.prog (.seq (sL u0) (.seq (sL (sR u0)) A)) (bodyPost Tryz.prog Tryz.f32 (RU B g w0 w bs D m)) (Fu0 g (.agg #[iv]) r) w:=by
 have hw0:=C0.out.size;obtain⟨pi,ni,ci,rfl⟩:∃a n c,iv=.slice a n c:=by obtain⟨a,c,e,-⟩:=zh P0.out.row;exact⟨_,_,_,e⟩
 have hni:ni=0:=by obtain⟨a',c',e,-⟩:=zh P0.out.row;injection e with _ e _;rw[e,hX];rfl
 have k0:((ni:Int)==0)=true:=by simp;omega
 have HX:=Hm hX;obtain⟨V,hV⟩:∃V,V=(w.alloc (.cells #[.slice pi ni ci] 25)).alloc (.cells #[.slice pi ni ci] 25):=⟨_,rfl⟩;have hb1:Below w.heap.size w V:=by rw[hV];exact zd (zd (Below.refl _ _) _) _
 have q1:=Hm (C0.out.below hb1);have q2:=Hm (P0.out.below hb1);have q9:=Hm ((Old.refl w).below hb1);have q3:Hid (V.heap[w.heap.size+1]? =some (.cells #[.slice pi ni ci] 25)):=by rw[hV];exact yb _ _ _
 clear hb1 hni hX;revert r;refine @zp 199 _ ?_
 iterate 199 (intro _)
 show Code.wp _ _ _ _ _
 conv=>arg 2;dsimp only[u0,Tryz.f32,Option.getD,sR,sL,cT,cF,bk,lpo]
 conv=>arg 4;dsimp only[Fu0]
 go_wp2;rw[←hV];clear hV;have t0':=cL0 q3.out;refine bodyPost_ret (v:=.agg #[.slice pi ni ci]) (by simp[results,Tryz.results32,go_sem,t0'];try rfl) rfl ?_;rw[hm.out];exact⟨_,X,rfl,by rw[HX.out];rfl,q2.out,q1.out,q9.out,by simp⟩
end Go.Proofs.YtbkajklninmhiaaGreatDoor.Dq
