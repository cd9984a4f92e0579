import Derived.Test.YtbkajklninmhiaaGreatDoorPm13
set_option maxHeartbeats 6400000
set_option maxRecDepth 1000000
set_option linter.unusedVariables false
set_option linter.unusedSimpArgs false
open List renaming length_append → qg, append_assoc → ql
open Nat renaming le_refl → qp, le_trans → qq, lt_of_lt_of_le → qr, le_of_lt → qs
namespace Go.Proofs.YtbkajklninmhiaaGreatDoor.Dq
open Go Go.RowKit Mem Syn Parse Par Draw
attribute [local go_sem ↓] Go.wp_at_zero Go.wp_at_succ
theorem ZN (w:World) (o:Po):OwnO w.heap.size (w.alloc (.cells o.cells.toArray 88)) (.slice (some ⟨w.heap.size,0,none⟩) 1 1) [o]:=by
 refine⟨rfl,Or.inr ⟨w.heap.size,1,o.cells.toArray,rfl,qp _,zo _ _,qp _,by unfold maxLen;omega,rfl,?_⟩⟩;simp[zH,Po.cells]
theorem XV (w:World):OwnO w.heap.size (w.alloc (.cells #[] 88)) (.slice (some ⟨w.heap.size,0,none⟩) 0 0) []:=
 ⟨rfl,Or.inr ⟨w.heap.size,0,#[],rfl,qp _,zo _ _,qp _,by unfold maxLen;omega,by simp,by simp[zH]⟩⟩
theorem _root_.Go.Proofs.YtbkajklninmhiaaGreatDoor.Par.OwnO.app {B:Nat} {w:World} {v:Value} {L M:List Po} (h:w.ownsRow B 88 3 v (L.length+M.length) (zH L++zH M)):OwnO B w v (L++M):=by
 unfold OwnO zH;rw[qg,List.flatMap_append];exact h
theorem yo (L:List Po):(zH L).length=L.length*3:=by
 induction L with
 |nil=>rfl
 |cons o r ih=>unfold zH at*;rw[List.flatMap_cons,qg,ih];simp[Po.cells];omega
theorem Yb (L:List Po):∀u∈zH L,u.oneCell'=true:=fun u hu=>by
 unfold zH at hu;obtain⟨o,-,h⟩:=List.mem_flatMap.1 hu;exact Yc o u h
theorem _root_.Go.Proofs.YtbkajklninmhiaaGreatDoor.Par.OwnO.some' {B:Nat} {w:World} {v:Value} {L:List Po} (h:OwnO B w v L) (hn:0<L.length):∃g c,v=.slice (some ⟨g,0,none⟩) L.length c∧B≤g∧g<w.heap.size:=by
 rcases h.2 with⟨_,h0⟩|⟨g,cap,cur,h1,h2,h3,h4⟩
 ·omega
 ·exact⟨g,cap,h1,h2,zN h3⟩
theorem YC {B g c:Nat} {w:World} {L:List Po} (h:OwnO B w (.slice (some ⟨g,0,none⟩) L.length c) L):∀j u,(zH L)[j]? =some u→w.cell? ((⟨g,0,none⟩:Addr).add j)=some u:=fun j u hu=>by
 have hj:j<L.length*3:=by
  rw[←yo];exact(List.getElem?_eq_some_iff.1 hu).1
 rw[Addr.add_lit,Nat.zero_add,World.ownsRow.cellAt h j hj];exact hu
theorem ZO {B g c n:Nat} {w:World} {L:List Po} (hn:n=L.length) (h:OwnO B w (.slice (some ⟨g,0,none⟩) L.length c) L):∀j u,(zH L)[j]? =some u→w.cell? ((⟨g,0,none⟩:Addr).add j)=some u:=YC h
theorem yk {s B n:Nat} {w W w1:World} {v:Value} {xs:List Value} {T:TypeId} {z:Nat} (h:Below s w W) (hrow:W.ownsRow B T z v n xs) (hs:s≤B) (hB:s≤W.heap.size) (hg:W.grownBy w1 v.ownBlock):Below s w w1:=h.grown hg hB fun k hk=>by
 obtain⟨-,h2⟩:=hrow;rcases h2 with⟨rfl,-⟩|⟨g,cap,cur,rfl,hb,-⟩
 ·cases hk
 ·have:some g=some k:=hk
  injection this with e;omega
theorem _root_.Go.Proofs.YtbkajklninmhiaaGreatDoor.Par.OwnO.keepA {B B':Nat} {w w1:World} {v u:Value} {L M:List Po} (h:OwnO B w v L) (hu:OwnO B' w u M) (hne:∀g,v.ownBlock=some g→u.ownBlock≠some g) (hg:w.grownBy w1 u.ownBlock):OwnO B w1 v L:=by
 refine⟨h.1,?_⟩;rcases h.2 with h0|⟨g,cap,cur,h1,h2,h3,h4⟩
 ·exact Or.inl h0
 ·refine Or.inr ⟨g,cap,cur,h1,h2,?_,h4⟩
  rw[hg.block g (zN h3) (fun e=>hne g (by rw[h1];rfl) e.symm)];exact h3
theorem YA {B B' g n z:Nat} {T:TypeId} {w w':World} {v:Value} {xs:List Value} {bs:List UInt8} {s:DS} (h:w.ownsRow B T z v n xs) (hT:T≠99) (d:DC B' g w bs s) (hg:w.grownBy w' (some g)):w'.ownsRow B T z v n xs:=by
 obtain⟨-,-,u,hx,-⟩:=d;refine⟨h.1,?_⟩;rcases h.2 with h0|⟨x,cap,cur,h1,h2,h3,h4⟩
 ·exact Or.inl h0
 ·refine Or.inr ⟨x,cap,cur,h1,h2,?_,h4⟩
  rw[hg.block x (zN h3) (fun e=>?_)]
  ·exact h3
  ·injection e with e
   subst e;rw[h3]at hx;injection hx with hx;injection hx with _ h2 _;exact hT h2
theorem _root_.Go.Proofs.YtbkajklninmhiaaGreatDoor.Par.OwnO.cur {B B' g:Nat} {w w':World} {v:Value} {L:List Po} {bs:List UInt8} {s:DS} (h:OwnO B w v L) (d:DC B' g w bs s) (hg:w.grownBy w' (some g)):OwnO B w' v L:=YA h (by decide) d hg
theorem _root_.Go.Proofs.YtbkajklninmhiaaGreatDoor.Par.OwnO.low {B B':Nat} {w:World} {v:Value} {L:List Po} (h:OwnO B w v L) (hb:B'≤B):OwnO B' w v L:=by
 refine⟨h.1,?_⟩;rcases h.2 with h0|⟨x,cap,cur,h1,h2,h3⟩
 ·exact Or.inl h0
 ·exact Or.inr ⟨x,cap,cur,h1,qq hb h2,h3⟩
theorem _root_.Go.Proofs.YtbkajklninmhiaaGreatDoor.Par.OwnO.blk {B:Nat} {w:World} {v:Value} {L:List Po} (h:OwnO B w v L):∀g,v.ownBlock=some g→B≤g:=fun g e=>by
 rcases h.2 with⟨rfl,_⟩|⟨x,cap,cur,h1,h2,h3⟩
 ·cases e
 ·subst h1
  have:some x=some g:=e;injection this with e;omega
theorem xO (z:Int) (w:World):Calls Tryz.prog 65 #[.int .i64 z] w fun e w'=>∃v,e=.returned v∧OwnO w.heap.size w' v [⟨1,z,[]⟩]∧Below w.heap.size w w':=by
 obtain⟨i0,hi,hz0,hz1,hz2⟩:=info_parts yl;go_enter Tryz.func65,Tryz.ntmps65;go_wp2_with (refine zC rfl 36 88 _ rfl i0 _ Tryz.underlying36 hi hz0 3 hz1 (Po.cells ⟨1,z,[]⟩) rfl (yM _ _ _) (by decide) (by decide) ?_);go_ret;exact⟨_,rfl,ZN w ⟨1,z,[]⟩,zd (Below.refl _ _) _⟩
theorem yV (z:Int) (w:World):Calls Tryz.prog 67 #[.int .i64 z] w fun e w'=>∃v,e=.returned v∧OwnO w.heap.size w' v [⟨3,z,[]⟩]∧Below w.heap.size w w':=by
 obtain⟨i0,hi,hz0,hz1,hz2⟩:=info_parts yl;go_enter Tryz.func67,Tryz.ntmps67;go_wp2_with (refine zC rfl 36 88 _ rfl i0 _ Tryz.underlying36 hi hz0 3 hz1 (Po.cells ⟨3,z,[]⟩) rfl (yM _ _ _) (by decide) (by decide) ?_);go_ret;exact⟨_,rfl,ZN w ⟨3,z,[]⟩,zd (Below.refl _ _) _⟩
theorem unD (k:Int) {B:Nat} {a:Value} {A:List Po} (w:World) (hA:OwnO B w a A) (pA:0<A.length) (qA:A.length≤100000):Calls Tryz.prog 106 #[.int .i64 k,a] w fun e w'=>∃v,e=.returned v∧OwnO w.heap.size w' v (A++[⟨k,0,[]⟩])∧Below w.heap.size w w':=by
 obtain⟨i0,hi,hz0,hz1,hz2⟩:=info_parts yl;obtain⟨gA,cA,rfl,-,hgA⟩:=OwnO.some' hA pA;obtain⟨nA,eA⟩:∃n,n=A.length:=⟨_,rfl⟩;have HA:=Hm hA;rw[←eA]at pA qA ⊢;have EA:=Hm eA;clear hA eA;have B0:Hid (Below w.heap.size w (w.alloc (.cells #[] 88))):=zd (Below.refl _ _) _;have z0:w.heap.size≤(w.alloc (.cells #[] 88)).heap.size:=B0.out.size;have R0:Hid ((w.alloc (.cells #[] 88)).ownsRow w.heap.size 88 3 (.slice (some ⟨w.heap.size,0,none⟩) 0 0) 0 (zH [])):=XV w;go_enter Tryz.func106,Tryz.ntmps106
 go_wp2_with (at_builtin;go_must (refine wpList_append_own_at _ rfl _ _ 36 rfl w.heap.size 88 i0 (.agg #[.int .i64 0,.int .i64 0,.string ⟨#[]⟩]) 3 32 Tryz.underlying36 hi hz0 hz1 hz2 rfl (by decide) _ (0) (zH ([])) rfl R0.out ⟨gA,0,none⟩ nA cA (zH A) rfl (by rw[yo,EA.out]) (ZO EA.out (HA.out.below B0.out)) (Yb A) (by unfold maxLen;omega) (by omega) z0 ?_));intro v1 w1 ho hgr _ _;have B1:=Hm (yk B0.out R0.out (qp _) z0 hgr);have z1:w.heap.size≤w1.heap.size:=B1.out.size;have R1:Hid (w1.ownsRow w.heap.size 88 3 v1 (nA) (zH (A))):=by unfold Hid;simpa[zH]using ho
 obtain⟨a1,b1,rfl,-⟩:=zh ho;clear ho hgr;refine Hid.out ?_;refine Lib.hid ?_;have zA:w.heap.size≤(w1.alloc (.cells (Po.cells ⟨k,0,[]⟩).toArray 88)).heap.size:=by simp;omega
 have BA:=Hm (zd B1.out (.cells (Po.cells ⟨k,0,[]⟩).toArray 88));have RA:Hid ((w1.alloc (.cells (Po.cells ⟨k,0,[]⟩).toArray 88)).ownsRow w.heap.size 88 3 (.slice a1 (nA) b1) (nA) (zH (A))):=z7 R1.out (zd (Below.refl _ _) _);go_wp2_with (first|(at_builtin;go_must (refine wpList_append_own_at _ rfl _ _ 36 rfl w.heap.size 88 i0 (.agg #[.int .i64 0,.int .i64 0,.string ⟨#[]⟩]) 3 32 Tryz.underlying36 hi hz0 hz1 hz2 rfl (by decide) _ (nA) (zH (A)) rfl RA.out ⟨w1.heap.size,0,none⟩ 1 1 (Po.cells ⟨k,0,[]⟩) rfl rfl (XC w1 ⟨k,0,[]⟩) (Yc _) (by unfold maxLen;omega) (by omega) zA ?_))|(refine zC rfl 36 88 _ rfl i0 _ Tryz.underlying36 hi hz0 3 hz1 (Po.cells ⟨k,0,[]⟩) rfl (yM _ _ _) (by decide) (by decide) ?_));intro vz wz ho hgr _ _;have BZ:=Hm (yk BA.out RA.out (qp _) zA hgr)
 have OZ:Hid (OwnO w.heap.size wz vz (A++[⟨k,0,[]⟩])):=by
  refine Hm (OwnO.snoc ?_);have e:(A).length=nA:=by simp only[qg,EA.out]
  rw[e]
  first|exact ho|(rw[ql];exact ho)
 obtain⟨az,bz,rfl,-⟩:=zh ho;clear ho hgr;refine Hid.out ?_;refine Lib.hid ?_;go_wp2;go_ret;exact⟨_,rfl,OZ.out,BZ.out⟩
theorem ZR (k:Int) {B B':Nat} {a b:Value} {A C:List Po} (w:World) (hA:OwnO B w a A) (hC:OwnO B' w b C) (pA:0<A.length) (qA:A.length≤100000) (pC:0<C.length) (qC:C.length≤100000):Calls Tryz.prog 66 #[.int .i64 k,a,b] w fun e w'=>∃v,e=.returned v∧OwnO w.heap.size w' v (A++C++[⟨9,k,[]⟩])∧Below w.heap.size w w':=by
 obtain⟨i0,hi,hz0,hz1,hz2⟩:=info_parts yl;obtain⟨gA,cA,rfl,-,hgA⟩:=OwnO.some' hA pA;obtain⟨nA,eA⟩:∃n,n=A.length:=⟨_,rfl⟩;have HA:=Hm hA;rw[←eA]at pA qA ⊢;have EA:=Hm eA;clear hA eA;obtain⟨gC,cC,rfl,-,hgC⟩:=OwnO.some' hC pC;obtain⟨nC,eC⟩:∃n,n=C.length:=⟨_,rfl⟩;have HC:=Hm hC;rw[←eC]at pC qC ⊢;have EC:=Hm eC;clear hC eC;have B0:Hid (Below w.heap.size w (w.alloc (.cells #[] 88))):=zd (Below.refl _ _) _;have z0:w.heap.size≤(w.alloc (.cells #[] 88)).heap.size:=B0.out.size;have R0:Hid ((w.alloc (.cells #[] 88)).ownsRow w.heap.size 88 3 (.slice (some ⟨w.heap.size,0,none⟩) 0 0) 0 (zH [])):=XV w;go_enter Tryz.func66,Tryz.ntmps66
 go_wp2_with (at_builtin;go_must (refine wpList_append_own_at _ rfl _ _ 36 rfl w.heap.size 88 i0 (.agg #[.int .i64 0,.int .i64 0,.string ⟨#[]⟩]) 3 32 Tryz.underlying36 hi hz0 hz1 hz2 rfl (by decide) _ (0) (zH ([])) rfl R0.out ⟨gA,0,none⟩ nA cA (zH A) rfl (by rw[yo,EA.out]) (ZO EA.out (HA.out.below B0.out)) (Yb A) (by unfold maxLen;omega) (by omega) z0 ?_));intro v1 w1 ho hgr _ _;have B1:=Hm (yk B0.out R0.out (qp _) z0 hgr);have z1:w.heap.size≤w1.heap.size:=B1.out.size;have R1:Hid (w1.ownsRow w.heap.size 88 3 v1 (nA) (zH (A))):=by unfold Hid;simpa[zH]using ho
 obtain⟨a1,b1,rfl,-⟩:=zh ho;clear ho hgr;refine Hid.out ?_;refine Lib.hid ?_;go_wp2_with (at_builtin;go_must (refine wpList_append_own_at _ rfl _ _ 36 rfl w.heap.size 88 i0 (.agg #[.int .i64 0,.int .i64 0,.string ⟨#[]⟩]) 3 32 Tryz.underlying36 hi hz0 hz1 hz2 rfl (by decide) _ (nA) (zH (A)) rfl R1.out ⟨gC,0,none⟩ nC cC (zH C) rfl (by rw[yo,EC.out]) (ZO EC.out (HC.out.below B1.out)) (Yb C) (by unfold maxLen;omega) (by omega) z1 ?_));intro v2 w2 ho hgr _ _;have B2:=Hm (yk B1.out R1.out (qp _) z1 hgr);have z2:w.heap.size≤w2.heap.size:=B2.out.size;have R2:Hid (w2.ownsRow w.heap.size 88 3 v2 (nA+nC) (zH (A++C))):=by unfold Hid;simpa[zH]using ho
 obtain⟨a2,b2,rfl,-⟩:=zh ho;clear ho hgr;refine Hid.out ?_;refine Lib.hid ?_;have zA:w.heap.size≤(w2.alloc (.cells (Po.cells ⟨9,k,[]⟩).toArray 88)).heap.size:=by simp;omega
 have BA:=Hm (zd B2.out (.cells (Po.cells ⟨9,k,[]⟩).toArray 88));have RA:Hid ((w2.alloc (.cells (Po.cells ⟨9,k,[]⟩).toArray 88)).ownsRow w.heap.size 88 3 (.slice a2 (nA+nC) b2) (nA+nC) (zH (A++C))):=z7 R2.out (zd (Below.refl _ _) _);go_wp2_with (first|(at_builtin;go_must (refine wpList_append_own_at _ rfl _ _ 36 rfl w.heap.size 88 i0 (.agg #[.int .i64 0,.int .i64 0,.string ⟨#[]⟩]) 3 32 Tryz.underlying36 hi hz0 hz1 hz2 rfl (by decide) _ (nA+nC) (zH (A++C)) rfl RA.out ⟨w2.heap.size,0,none⟩ 1 1 (Po.cells ⟨9,k,[]⟩) rfl rfl (XC w2 ⟨9,k,[]⟩) (Yc _) (by unfold maxLen;omega) (by omega) zA ?_))|(refine zC rfl 36 88 _ rfl i0 _ Tryz.underlying36 hi hz0 3 hz1 (Po.cells ⟨9,k,[]⟩) rfl (yM _ _ _) (by decide) (by decide) ?_));intro vz wz ho hgr _ _
 have BZ:=Hm (yk BA.out RA.out (qp _) zA hgr)
 have OZ:Hid (OwnO w.heap.size wz vz (A++C++[⟨9,k,[]⟩])):=by
  refine Hm (OwnO.snoc ?_);have e:(A++C).length=nA+nC:=by simp only[qg,EA.out,EC.out]
  rw[e]
  first|exact ho|(rw[ql];exact ho)
 obtain⟨az,bz,rfl,-⟩:=zh ho;clear ho hgr;refine Hid.out ?_;refine Lib.hid ?_;go_wp2;go_ret;exact⟨_,rfl,OZ.out,BZ.out⟩
theorem Pk (k:Int) {B B':Nat} {a b:Value} {A C:List Po} (w:World) (hA:OwnO B w a A) (hC:OwnO B' w b C) (pA:0<A.length) (qA:A.length≤100000) (pC:0<C.length) (qC:C.length≤100000):Calls Tryz.prog 107 #[.int .i64 k,a,b] w fun e w'=>∃v,e=.returned v∧OwnO w.heap.size w' v (A++C++[⟨10,k,[]⟩])∧Below w.heap.size w w':=by
 obtain⟨i0,hi,hz0,hz1,hz2⟩:=info_parts yl;obtain⟨gA,cA,rfl,-,hgA⟩:=OwnO.some' hA pA;obtain⟨nA,eA⟩:∃n,n=A.length:=⟨_,rfl⟩;have HA:=Hm hA;rw[←eA]at pA qA ⊢;have EA:=Hm eA;clear hA eA;obtain⟨gC,cC,rfl,-,hgC⟩:=OwnO.some' hC pC;obtain⟨nC,eC⟩:∃n,n=C.length:=⟨_,rfl⟩;have HC:=Hm hC;rw[←eC]at pC qC ⊢;have EC:=Hm eC;clear hC eC;have B0:Hid (Below w.heap.size w (w.alloc (.cells #[] 88))):=zd (Below.refl _ _) _;have z0:w.heap.size≤(w.alloc (.cells #[] 88)).heap.size:=B0.out.size;have R0:Hid ((w.alloc (.cells #[] 88)).ownsRow w.heap.size 88 3 (.slice (some ⟨w.heap.size,0,none⟩) 0 0) 0 (zH [])):=XV w;go_enter Tryz.func107,Tryz.ntmps107
 go_wp2_with (at_builtin;go_must (refine wpList_append_own_at _ rfl _ _ 36 rfl w.heap.size 88 i0 (.agg #[.int .i64 0,.int .i64 0,.string ⟨#[]⟩]) 3 32 Tryz.underlying36 hi hz0 hz1 hz2 rfl (by decide) _ (0) (zH ([])) rfl R0.out ⟨gA,0,none⟩ nA cA (zH A) rfl (by rw[yo,EA.out]) (ZO EA.out (HA.out.below B0.out)) (Yb A) (by unfold maxLen;omega) (by omega) z0 ?_));intro v1 w1 ho hgr _ _;have B1:=Hm (yk B0.out R0.out (qp _) z0 hgr);have z1:w.heap.size≤w1.heap.size:=B1.out.size;have R1:Hid (w1.ownsRow w.heap.size 88 3 v1 (nA) (zH (A))):=by unfold Hid;simpa[zH]using ho
 obtain⟨a1,b1,rfl,-⟩:=zh ho;clear ho hgr;refine Hid.out ?_;refine Lib.hid ?_;go_wp2_with (at_builtin;go_must (refine wpList_append_own_at _ rfl _ _ 36 rfl w.heap.size 88 i0 (.agg #[.int .i64 0,.int .i64 0,.string ⟨#[]⟩]) 3 32 Tryz.underlying36 hi hz0 hz1 hz2 rfl (by decide) _ (nA) (zH (A)) rfl R1.out ⟨gC,0,none⟩ nC cC (zH C) rfl (by rw[yo,EC.out]) (ZO EC.out (HC.out.below B1.out)) (Yb C) (by unfold maxLen;omega) (by omega) z1 ?_));intro v2 w2 ho hgr _ _;have B2:=Hm (yk B1.out R1.out (qp _) z1 hgr);have z2:w.heap.size≤w2.heap.size:=B2.out.size;have R2:Hid (w2.ownsRow w.heap.size 88 3 v2 (nA+nC) (zH (A++C))):=by unfold Hid;simpa[zH]using ho
 obtain⟨a2,b2,rfl,-⟩:=zh ho;clear ho hgr;refine Hid.out ?_;refine Lib.hid ?_;have zA:w.heap.size≤(w2.alloc (.cells (Po.cells ⟨10,k,[]⟩).toArray 88)).heap.size:=by simp;omega
 have BA:=Hm (zd B2.out (.cells (Po.cells ⟨10,k,[]⟩).toArray 88));have RA:Hid ((w2.alloc (.cells (Po.cells ⟨10,k,[]⟩).toArray 88)).ownsRow w.heap.size 88 3 (.slice a2 (nA+nC) b2) (nA+nC) (zH (A++C))):=z7 R2.out (zd (Below.refl _ _) _);go_wp2_with (first|(at_builtin;go_must (refine wpList_append_own_at _ rfl _ _ 36 rfl w.heap.size 88 i0 (.agg #[.int .i64 0,.int .i64 0,.string ⟨#[]⟩]) 3 32 Tryz.underlying36 hi hz0 hz1 hz2 rfl (by decide) _ (nA+nC) (zH (A++C)) rfl RA.out ⟨w2.heap.size,0,none⟩ 1 1 (Po.cells ⟨10,k,[]⟩) rfl rfl (XC w2 ⟨10,k,[]⟩) (Yc _) (by unfold maxLen;omega) (by omega) zA ?_))|(refine zC rfl 36 88 _ rfl i0 _ Tryz.underlying36 hi hz0 3 hz1 (Po.cells ⟨10,k,[]⟩) rfl (yM _ _ _) (by decide) (by decide) ?_));intro vz wz ho hgr _ _
 have BZ:=Hm (yk BA.out RA.out (qp _) zA hgr)
 have OZ:Hid (OwnO w.heap.size wz vz (A++C++[⟨10,k,[]⟩])):=by
  refine Hm (OwnO.snoc ?_);have e:(A++C).length=nA+nC:=by simp only[qg,EA.out,EC.out]
  rw[e]
  first|exact ho|(rw[ql];exact ho)
 obtain⟨az,bz,rfl,-⟩:=zh ho;clear ho hgr;refine Hid.out ?_;refine Lib.hid ?_;go_wp2;go_ret;exact⟨_,rfl,OZ.out,BZ.out⟩
theorem ifD {B B' B'':Nat} {a b c:Value} {A C D:List Po} (w:World) (hA:OwnO B w a A) (hC:OwnO B' w b C) (hD:OwnO B'' w c D) (pA:0<A.length) (qA:A.length≤100000) (pC:0<C.length) (qC:C.length≤100000) (pD:0<D.length) (qD:D.length≤100000):Calls Tryz.prog 105 #[a,b,c] w fun e w'=>∃v,e=.returned v∧OwnO w.heap.size w' v (A++C++D++[⟨10,2,[]⟩])∧Below w.heap.size w w':=by
 obtain⟨i0,hi,hz0,hz1,hz2⟩:=info_parts yl;obtain⟨gA,cA,rfl,-,hgA⟩:=OwnO.some' hA pA;obtain⟨nA,eA⟩:∃n,n=A.length:=⟨_,rfl⟩;have HA:=Hm hA;rw[←eA]at pA qA ⊢;have EA:=Hm eA;clear hA eA;obtain⟨gC,cC,rfl,-,hgC⟩:=OwnO.some' hC pC;obtain⟨nC,eC⟩:∃n,n=C.length:=⟨_,rfl⟩;have HC:=Hm hC;rw[←eC]at pC qC ⊢;have EC:=Hm eC;clear hC eC;obtain⟨gD,cD,rfl,-,hgD⟩:=OwnO.some' hD pD;obtain⟨nD,eD⟩:∃n,n=D.length:=⟨_,rfl⟩;have HD:=Hm hD;rw[←eD]at pD qD ⊢;have ED:=Hm eD;clear hD eD;have B0:Hid (Below w.heap.size w (w.alloc (.cells #[] 88))):=zd (Below.refl _ _) _;have z0:w.heap.size≤(w.alloc (.cells #[] 88)).heap.size:=B0.out.size
 have R0:Hid ((w.alloc (.cells #[] 88)).ownsRow w.heap.size 88 3 (.slice (some ⟨w.heap.size,0,none⟩) 0 0) 0 (zH [])):=XV w;go_enter Tryz.func105,Tryz.ntmps105;go_wp2_with (at_builtin;go_must (refine wpList_append_own_at _ rfl _ _ 36 rfl w.heap.size 88 i0 (.agg #[.int .i64 0,.int .i64 0,.string ⟨#[]⟩]) 3 32 Tryz.underlying36 hi hz0 hz1 hz2 rfl (by decide) _ (0) (zH ([])) rfl R0.out ⟨gA,0,none⟩ nA cA (zH A) rfl (by rw[yo,EA.out]) (ZO EA.out (HA.out.below B0.out)) (Yb A) (by unfold maxLen;omega) (by omega) z0 ?_));intro v1 w1 ho hgr _ _;have B1:=Hm (yk B0.out R0.out (qp _) z0 hgr);have z1:w.heap.size≤w1.heap.size:=B1.out.size;have R1:Hid (w1.ownsRow w.heap.size 88 3 v1 (nA) (zH (A))):=by unfold Hid;simpa[zH]using ho
 obtain⟨a1,b1,rfl,-⟩:=zh ho;clear ho hgr;refine Hid.out ?_;refine Lib.hid ?_;go_wp2_with (at_builtin;go_must (refine wpList_append_own_at _ rfl _ _ 36 rfl w.heap.size 88 i0 (.agg #[.int .i64 0,.int .i64 0,.string ⟨#[]⟩]) 3 32 Tryz.underlying36 hi hz0 hz1 hz2 rfl (by decide) _ (nA) (zH (A)) rfl R1.out ⟨gC,0,none⟩ nC cC (zH C) rfl (by rw[yo,EC.out]) (ZO EC.out (HC.out.below B1.out)) (Yb C) (by unfold maxLen;omega) (by omega) z1 ?_));intro v2 w2 ho hgr _ _;have B2:=Hm (yk B1.out R1.out (qp _) z1 hgr);have z2:w.heap.size≤w2.heap.size:=B2.out.size;have R2:Hid (w2.ownsRow w.heap.size 88 3 v2 (nA+nC) (zH (A++C))):=by unfold Hid;simpa[zH]using ho
 obtain⟨a2,b2,rfl,-⟩:=zh ho;clear ho hgr;refine Hid.out ?_;refine Lib.hid ?_;go_wp2_with (at_builtin;go_must (refine wpList_append_own_at _ rfl _ _ 36 rfl w.heap.size 88 i0 (.agg #[.int .i64 0,.int .i64 0,.string ⟨#[]⟩]) 3 32 Tryz.underlying36 hi hz0 hz1 hz2 rfl (by decide) _ (nA+nC) (zH (A++C)) rfl R2.out ⟨gD,0,none⟩ nD cD (zH D) rfl (by rw[yo,ED.out]) (ZO ED.out (HD.out.below B2.out)) (Yb D) (by unfold maxLen;omega) (by omega) z2 ?_));intro v3 w3 ho hgr _ _;have B3:=Hm (yk B2.out R2.out (qp _) z2 hgr);have z3:w.heap.size≤w3.heap.size:=B3.out.size;have R3:Hid (w3.ownsRow w.heap.size 88 3 v3 (nA+nC+nD) (zH (A++C++D))):=by unfold Hid;simpa[zH]using ho
 obtain⟨a3,b3,rfl,-⟩:=zh ho;clear ho hgr;refine Hid.out ?_;refine Lib.hid ?_;have zA:w.heap.size≤(w3.alloc (.cells (Po.cells ⟨10,2,[]⟩).toArray 88)).heap.size:=by simp;omega
 have BA:=Hm (zd B3.out (.cells (Po.cells ⟨10,2,[]⟩).toArray 88));have RA:Hid ((w3.alloc (.cells (Po.cells ⟨10,2,[]⟩).toArray 88)).ownsRow w.heap.size 88 3 (.slice a3 (nA+nC+nD) b3) (nA+nC+nD) (zH (A++C++D))):=z7 R3.out (zd (Below.refl _ _) _);go_wp2_with (first|(at_builtin;go_must (refine wpList_append_own_at _ rfl _ _ 36 rfl w.heap.size 88 i0 (.agg #[.int .i64 0,.int .i64 0,.string ⟨#[]⟩]) 3 32 Tryz.underlying36 hi hz0 hz1 hz2 rfl (by decide) _ (nA+nC+nD) (zH (A++C++D)) rfl RA.out ⟨w3.heap.size,0,none⟩ 1 1 (Po.cells ⟨10,2,[]⟩) rfl rfl (XC w3 ⟨10,2,[]⟩) (Yc _) (by unfold maxLen;omega) (by omega) zA ?_))|(refine zC rfl 36 88 _ rfl i0 _ Tryz.underlying36 hi hz0 3 hz1 (Po.cells ⟨10,2,[]⟩) rfl (yM _ _ _) (by decide) (by decide) ?_));intro vz wz ho hgr _ _
 have BZ:=Hm (yk BA.out RA.out (qp _) zA hgr)
 have OZ:Hid (OwnO w.heap.size wz vz (A++C++D++[⟨10,2,[]⟩])):=by
  refine Hm (OwnO.snoc ?_);have e:(A++C++D).length=nA+nC+nD:=by simp only[qg,EA.out,EC.out,ED.out]
  rw[e]
  first|exact ho|(rw[ql];exact ho)
 obtain⟨az,bz,rfl,-⟩:=zh ho;clear ho hgr;refine Hid.out ?_;refine Lib.hid ?_;go_wp2;go_ret;exact⟨_,rfl,OZ.out,BZ.out⟩
def sL:Code→Code
 |.seq a _=>a
 |c=>c
def sR:Code→Code
 |.seq _ b=>b
 |c=>c
def cT:Code→Code
 |.cond _ a _=>a
 |c=>c
def cF:Code→Code
 |.cond _ _ b=>b
 |c=>c
def bk:Code→Code
 |.block _ a=>a
 |c=>c
def lpo:Code→Code
 |.loop a=>a
 |c=>c
def elim:Nat→(List Value→Prop)→Prop
 |0,m=>m []
 |n+1,m=>∀u,elim n (fun l=>m (u::l))
theorem zp:∀(n:Nat) (m:List Value→Prop),elim n m→∀l:List Value,l.length=n→m l
 |0,m,h,[],_=>h
 |n+1,m,h,u::l,e=>zp n _ (h u) l (by simpa using e)
theorem two {α β:Type} (x:α×β):∃a b,x=(a,b):=⟨x.1,x.2,rfl⟩
structure Sr where
 bel:DS→Nat→Nat×DS
 once:DS→Nat→Bool×DS
structure Cu (B g:Nat) (w0 w:World) (bs:List UInt8) (D:Sr) (s:DS):Prop where
 d:DC B g w bs s
 gb:w0.grownBy w (some g)
 lB:B≤g
 lg:g<w0.heap.size
 len:bs.length≤1048576
 hb:∀s n,D.bel s n=yv bs s n
 ho:∀s n,D.once s n=Wt bs s n
variable {B g:Nat} {w0 w w':World} {bs:List UInt8} {D:Sr} {s s':DS}
theorem Cu.size (h:Cu B g w0 w bs D s):w0.heap.size≤w.heap.size:=h.gb.size
theorem Cu.call (h:Cu B g w0 w bs D s) (d:DC B g w' bs s') (hg:w.grownBy w' (some g)):Cu B g w0 w' bs D s':=⟨d,zi h.gb hg,h.lB,h.lg,h.len,h.hb,h.ho⟩
theorem Cu.below (h:Cu B g w0 w bs D s) (hb:Below w.heap.size w w'):Cu B g w0 w' bs D s:=⟨h.d.keep (qq h.lB (qs h.d.lt)) hb,zi h.gb (zD hb),h.lB,h.lg,h.len,h.hb,h.ho⟩
theorem Cu.al (h:Cu B g w0 w bs D s) (o:Obj):Cu B g w0 (w.alloc o) bs D s:=h.below (zd (Below.refl _ _) _)
theorem Cu.own {B':Nat} {v:Value} {L:List Po} (h:Cu B g w0 w bs D s) (ho:OwnO B' w v L) (hg:w.grownBy w' (some g)):OwnO B' w' v L:=ho.cur h.d hg
theorem Cu.blk {r:Nat} {o:Obj} (h:Cu B g w0 w bs D s) (hr:w0.heap.size≤r) (hx:w.heap[r]? =some o) (hg:w.grownBy w' (some g)):w'.heap[r]? =some o:=by
 rw[hg.block r (zN hx) (by have:=h.lg;intro e;injection e with e;omega)];exact hx
theorem Cu.self (h:Cu B g w0 w bs D s):Cu B g w w bs D s:=⟨h.d,World.grownBy.refl _ _,h.lB,qr h.lg h.size,h.len,h.hb,h.ho⟩
theorem Cu.in' {w1:World} (h:Cu B g w0 w bs D s) (k:Cu B g w w1 bs D s'):Cu B g w0 w1 bs D s':=⟨k.d,zi h.gb k.gb,h.lB,h.lg,h.len,h.hb,h.ho⟩
theorem yq (h:Cu B g w0 w bs D s) (n:Nat) (h0:0<n) (h1:n≤1000000):Calls Tryz.prog 27 #[.pointer (some ⟨g,0,none⟩),.int .i64 (n:Int)] w fun e w'=>∃x s',D.bel s n=(x,s')∧x<n∧e=.returned (.int .i64 (x:Int))∧Cu B g w0 w' bs D s'∧w.grownBy w' (some g):=by
 refine(Ud B g bs s n w h.lB h.d h.len h0 h1).mono ?_;rintro e w' ⟨rfl,d,hg⟩;exact⟨_,_,(h.hb s n).trans (Prod.ext rfl rfl),XN _ _ h0,rfl,h.call d hg,hg⟩
theorem xl (h:Cu B g w0 w bs D s) (n:Nat) (h0:0<n) (h1:n≤1000000):Calls Tryz.prog 25 #[.pointer (some ⟨g,0,none⟩),.int .i64 (n:Int)] w fun e w'=>∃x s',D.once s n=(x,s')∧e=.returned (.bool x)∧Cu B g w0 w' bs D s'∧w.grownBy w' (some g):=by
 refine(onceD B g bs s n w h.lB h.d h.len h0 h1).mono ?_;rintro e w' ⟨rfl,d,hg⟩;exact⟨_,_,(h.ho s n).trans (Prod.ext rfl rfl),rfl,h.call d hg,hg⟩
def RO (B g:Nat) (w:World) (bs:List UInt8) (D:Sr) (r:List Po×DS) (m:Nat) (e:Ending) (w':World):Prop:=∃v,e=.returned v∧OwnO w.heap.size w' v r.1∧Cu B g w w' bs D r.2∧0<r.1.length∧r.1.length≤m
theorem RO.mk' {L:List Po} {m:Nat} {r:List Po×DS} {v:Value} (hr:r=(L,s')) (ho:OwnO w.heap.size w' v L) (hc:Cu B g w w' bs D s') (h0:0<L.length) (h1:L.length≤m):RO B g w bs D r m (.returned v) w':=by
 subst hr;exact⟨v,rfl,ho,hc,h0,h1⟩
abbrev Ev:=List (List UInt8×Nat)
structure zy (C:Nat) (w:World) (a b:Value) (ev:Ev):Prop where
 n:w.ownsRow C 9 1 a ev.length (ev.map fun x=>.string ⟨x.1.toArray⟩)
 t:w.ownsRow C 2 1 b ev.length (ev.map fun x=>.int .i64 (x.2:Int))
theorem zy.below {C:Nat} {a b:Value} {ev:Ev} (h:zy C w a b ev) (hb:Below w.heap.size w w'):zy C w' a b ev:=⟨z7 h.n hb,z7 h.t hb⟩
theorem zy.cur {C:Nat} {a b:Value} {ev:Ev} (h:zy C w a b ev) (c:Cu B g w0 w bs D s) (hg:w.grownBy w' (some g)):zy C w' a b ev:=⟨YA h.n (by decide) c.d hg,YA h.t (by decide) c.d hg⟩
def xL (D:Sr) (s:DS) (t:Nat):List Po×DS:=
 if t=1 then
  match D.bel s 4 with
  |(k,s1)=>
   if k=0 then
    match D.bel s1 40 with
    |(x,s2)=>([⟨1,(x:Int),[]⟩],s2)
   else
    match (if k=1 then D.once s1 6 else (false,s1))with
    |(o,s2)=>
     if o=true then
      match D.bel s2 2 with
      |(x,s3)=>([⟨1,999999999- (x:Int),[]⟩],s3)
     else
      match D.bel s2 11 with
      |(x,s3)=>([⟨3,(x:Int),[]⟩],s3)
 else
  match D.bel s 8 with
  |(k,s1)=>
   if k=0 then
    match D.bel s1 2 with
    |(x,s2)=>([⟨6,(x:Int),[]⟩],s2)
   else if k<4 then
    match D.bel s1 5 with
    |(x,s2)=>([⟨4,(x:Int),[]⟩],s2)
   else if k<6 then
    match D.bel s1 5 with
    |(x,s2)=>([⟨5,(x:Int),[]⟩],s2)
   else
    match D.bel s1 2 with
    |(x,s2)=>([⟨3,11+(x:Int),[]⟩],s2)
def xG (D:Sr) (s:DS) (t:Nat) (ev:Ev):List Po×DS:=
 match (if 0<ev.length then D.once s 3 else (false,s))with
 |(o,s1)=>
  if o=true then
   match D.bel s1 ev.length with
   |(j,s2)=>if (ev.getD j ([],0)).2=t then ([⟨2,0,(ev.getD j ([],0)).1⟩],s2)else xL D s2 t
  else xL D s1 t
noncomputable def lf0:Code:=Tryz.f104.body.getD .skip
def Fl (g t:Nat) (v2 v3 v4 v5 v6 v7 v8 v9:Value) (r:List Value):Act:={tmps:=(.pointer (some ⟨g,0,none⟩)::.int .i64 (t:Int)::v2::v3::v4::v5::v6::v7::v8::v9::r).toArray,defers:=[]}
theorem leafR1 {W:World} {v2 v3 v4 v5 v6 v7 v8 v9:Value} {r:List Value} (hr:r.length=73) (C0:Hid (Cu B g w W bs D s)) {m:List Po×DS} (hm:Hid (xL D s 1=m)):Code.wp Tryz.prog (sR (sR lf0)) (bodyPost Tryz.prog Tryz.f104 (RO B g w bs D m 1)) (Fl g 1 v2 v3 v4 v5 v6 v7 v8 v9 r) W:=by
 obtain⟨i0,hi,hz0,hz1,hz2⟩:=info_parts yl;revert r;refine @zp 73 _ ?_
 iterate 73 (intro _)
 show Code.wp _ _ _ _ _
 conv=>arg 2;dsimp only[lf0,Tryz.f104,Option.getD,sR,sL,cT,cF,bk,lpo]
 conv=>arg 4;dsimp only[Fl]
 go_wp2_with fail;refine(yq C0.out 4 (by omega) (by omega)).mono ?_;rintro e wC1 ⟨k,s1,hk,lk,rfl,hc,hgb⟩;have C1:=Hm hc;have Qk:=Hm hk;clear hc hgb hk;by_cases h0:k=0
 ·subst h0
  have k00:((0:Nat):Int)=0:=rfl;go_wp2_with fail;refine(yq C1.out 40 (by omega) (by omega)).mono ?_;rintro e wC2 ⟨x,s2,hx,lx,rfl,hc,hgb⟩;have C2:=Hm hc;have Qx:=Hm hx;clear hc hgb hx;go_wp2_with fail;refine(xO (x:Int) _).mono ?_;rintro e wz ⟨v,rfl,ho,hb⟩;have OZ:=Hm (ho.low (Cu.size C2.out));have CZ:=Hm (Cu.below C2.out hb);obtain⟨az,bz,rfl,-⟩:=zh ho;clear ho hb;go_wp2;go_ret;refine RO.mk' (L:=[⟨1,(x:Int),[]⟩]) (s':=s2) ?_ OZ.out CZ.out (by simp) (by simp);rw[←hm.out];simp[xL,Qk.out,Qx.out]
 have kk0:((k:Int)==0)=false:=by simp;omega
 by_cases h1:k=1
 ·subst h1
  go_wp2_with fail;refine(xl C1.out 6 (by omega) (by omega)).mono ?_;rintro e wC2 ⟨b,s2,hb,rfl,hc,hgb⟩;have C2:=Hm hc;have Qb:=Hm hb;clear hc hgb hb
  cases b with
  |true=>
   go_wp2_with fail;refine(yq C2.out 2 (by omega) (by omega)).mono ?_;rintro e wC3 ⟨x,s3,hx,lx,rfl,hc,hgb⟩;have C3:=Hm hc;have Qx:=Hm hx;clear hc hgb hx;have ew:IntKind.i64.wrap (999999999- (x:Int))=999999999- (x:Int):=by rw[IntKind.wrap_i64];omega
   go_wp2_with fail;refine(xO (999999999- (x:Int)) _).mono ?_;rintro e wz ⟨v,rfl,ho,hb⟩;have OZ:=Hm (ho.low (Cu.size C3.out));have CZ:=Hm (Cu.below C3.out hb);obtain⟨az,bz,rfl,-⟩:=zh ho;clear ho hb;go_wp2;go_ret;refine RO.mk' (L:=[⟨1,999999999- (x:Int),[]⟩]) (s':=s3) ?_ OZ.out CZ.out (by simp) (by simp);rw[←hm.out];simp[xL,Qk.out,Qb.out,Qx.out]
  |false=>
   go_wp2_with fail;refine(yq C2.out 11 (by omega) (by omega)).mono ?_;rintro e wC3 ⟨x,s3,hx,lx,rfl,hc,hgb⟩;have C3:=Hm hc;have Qx:=Hm hx;clear hc hgb hx;go_wp2_with fail;refine(yV (x:Int) _).mono ?_;rintro e wz ⟨v,rfl,ho,hb⟩;have OZ:=Hm (ho.low (Cu.size C3.out));have CZ:=Hm (Cu.below C3.out hb);obtain⟨az,bz,rfl,-⟩:=zh ho;clear ho hb;go_wp2;go_ret;refine RO.mk' (L:=[⟨3,(x:Int),[]⟩]) (s':=s3) ?_ OZ.out CZ.out (by simp) (by simp);rw[←hm.out];simp[xL,Qk.out,Qb.out,Qx.out]
 have kk1:((k:Int)==1)=false:=by simp;omega
 go_wp2_with fail;refine(yq C1.out 11 (by omega) (by omega)).mono ?_;rintro e wC3 ⟨x,s3,hx,lx,rfl,hc,hgb⟩;have C3:=Hm hc;have Qx:=Hm hx;clear hc hgb hx;go_wp2_with fail;refine(yV (x:Int) _).mono ?_;rintro e wz ⟨v,rfl,ho,hb⟩;have OZ:=Hm (ho.low (Cu.size C3.out));have CZ:=Hm (Cu.below C3.out hb);obtain⟨az,bz,rfl,-⟩:=zh ho;clear ho hb;go_wp2;go_ret;refine RO.mk' (L:=[⟨3,(x:Int),[]⟩]) (s':=s3) ?_ OZ.out CZ.out (by simp) (by simp);rw[←hm.out];simp[xL,Qk.out,h0,h1,Qx.out]
theorem leafR2 {W:World} {v2 v3 v4 v5 v6 v7 v8 v9:Value} {r:List Value} (hr:r.length=73) (C0:Hid (Cu B g w W bs D s)) {m:List Po×DS} (hm:Hid (xL D s 2=m)):Code.wp Tryz.prog (sR (sR lf0)) (bodyPost Tryz.prog Tryz.f104 (RO B g w bs D m 1)) (Fl g 2 v2 v3 v4 v5 v6 v7 v8 v9 r) W:=by
 obtain⟨i0,hi,hz0,hz1,hz2⟩:=info_parts yl;revert r;refine @zp 73 _ ?_
 iterate 73 (intro _)
 show Code.wp _ _ _ _ _
 conv=>arg 2;dsimp only[lf0,Tryz.f104,Option.getD,sR,sL,cT,cF,bk,lpo]
 conv=>arg 4;dsimp only[Fl]
 go_wp2_with fail;refine(yq C0.out 8 (by omega) (by omega)).mono ?_;rintro e wC1 ⟨k,s1,hk,lk,rfl,hc,hgb⟩;have C1:=Hm hc;have Qk:=Hm hk;clear hc hgb hk;by_cases h0:k=0
 ·subst h0
  go_wp2_with fail;refine(yq C1.out 2 (by omega) (by omega)).mono ?_;rintro e wC2 ⟨x,s2,hx,lx,rfl,hc,hgb⟩;have C2:=Hm hc;have Qx:=Hm hx;clear hc hgb hx;go_wp2_with (refine zC rfl 36 88 _ rfl i0 _ Tryz.underlying36 hi hz0 3 hz1 (Po.cells ⟨6,(x:Int),[]⟩) rfl (yM _ _ _) (by decide) (by decide) ?_);go_ret;refine RO.mk' (L:=[⟨6,(x:Int),[]⟩]) (s':=s2) ?_ ((ZN _ ⟨6,(x:Int),[]⟩).low (Cu.size C2.out)) (Cu.al C2.out _) (by simp) (by simp);rw[←hm.out];simp[xL,Qk.out,Qx.out]
 have kk0:((k:Int)==0)=false:=by simp;omega
 by_cases h1:k<4
 ·have mk4:(k:Int)<4:=by omega
  go_wp2_with fail;refine(yq C1.out 5 (by omega) (by omega)).mono ?_;rintro e wC2 ⟨x,s2,hx,lx,rfl,hc,hgb⟩;have C2:=Hm hc;have Qx:=Hm hx;clear hc hgb hx;go_wp2_with (refine zC rfl 36 88 _ rfl i0 _ Tryz.underlying36 hi hz0 3 hz1 (Po.cells ⟨4,(x:Int),[]⟩) rfl (yM _ _ _) (by decide) (by decide) ?_);go_ret;refine RO.mk' (L:=[⟨4,(x:Int),[]⟩]) (s':=s2) ?_ ((ZN _ ⟨4,(x:Int),[]⟩).low (Cu.size C2.out)) (Cu.al C2.out _) (by simp) (by simp);rw[←hm.out];simp[xL,Qk.out,Qx.out,h0,h1]
 have mk4:decide ((k:Int)<4)=false:=by simp;omega
 by_cases h2:k<6
 ·have mk6:(k:Int)<6:=by omega
  go_wp2_with fail;refine(yq C1.out 5 (by omega) (by omega)).mono ?_;rintro e wC2 ⟨x,s2,hx,lx,rfl,hc,hgb⟩;have C2:=Hm hc;have Qx:=Hm hx;clear hc hgb hx;go_wp2_with (refine zC rfl 36 88 _ rfl i0 _ Tryz.underlying36 hi hz0 3 hz1 (Po.cells ⟨5,(x:Int),[]⟩) rfl (yM _ _ _) (by decide) (by decide) ?_);go_ret;refine RO.mk' (L:=[⟨5,(x:Int),[]⟩]) (s':=s2) ?_ ((ZN _ ⟨5,(x:Int),[]⟩).low (Cu.size C2.out)) (Cu.al C2.out _) (by simp) (by simp);rw[←hm.out];simp[xL,Qk.out,Qx.out,h0,h1,h2]
 have mk6:decide ((k:Int)<6)=false:=by simp;omega
 go_wp2_with fail;refine(yq C1.out 2 (by omega) (by omega)).mono ?_;rintro e wC2 ⟨x,s2,hx,lx,rfl,hc,hgb⟩;have C2:=Hm hc;have Qx:=Hm hx;clear hc hgb hx;have ew:IntKind.i64.wrap (11+(x:Int))=11+(x:Int):=by rw[IntKind.wrap_i64];omega
 go_wp2_with fail;refine(yV (11+(x:Int)) _).mono ?_;rintro e wz ⟨v,rfl,ho,hb⟩;have OZ:=Hm (ho.low (Cu.size C2.out));have CZ:=Hm (Cu.below C2.out hb);obtain⟨az,bz,rfl,-⟩:=zh ho;clear ho hb;go_wp2;go_ret;refine RO.mk' (L:=[⟨3,11+(x:Int),[]⟩]) (s':=s2) ?_ OZ.out CZ.out (by simp) (by simp);rw[←hm.out];simp[xL,Qk.out,h0,h1,h2,Qx.out]
end Go.Proofs.YtbkajklninmhiaaGreatDoor.Dq
namespace Go.Proofs.YtbkajklninmhiaaGreatDoor.Dq
open Go Go.RowKit Mem Syn Parse Par Draw
attribute [local go_sem ↓] Go.wp_at_zero Go.wp_at_succ
variable {B g:Nat} {w0 w w':World} {bs:List UInt8} {D:Sr} {s s':DS}
theorem WR (v u x:Value) (n:Nat):#[v,u,x]++Array.replicate n undef=(v::u::x::List.replicate n undef).toArray:=by
 apply Array.ext';simp
theorem US (v u x y:Value) (n:Nat):#[v,u,x,y]++Array.replicate n undef=(v::u::x::y::List.replicate n undef).toArray:=by
 apply Array.ext';simp
theorem lf0_eq:lf0=.seq (sL lf0) (.seq (sL (sR lf0)) (sR (sR lf0))):=rfl
theorem TX {B n j:Nat} {T:TypeId} {w:World} {v u:Value} {xs:List Value} (h:w.ownsRow B T 1 v n xs) (hj:xs[j]? =some u):∃g c,v=.slice (some ⟨g,0,none⟩) n c∧w.cell? ⟨g,j,none⟩=some u:=by
 have hl:=(List.getElem?_eq_some_iff.1 hj).1;have hn:=h.1;rcases h.2 with⟨_,h0⟩|⟨g,cap,cur,h1,h2,h3,h4⟩
 ·omega
 ·subst h1
  refine⟨g,cap,rfl,?_⟩;rw[World.ownsRow.cellAt h j (by omega)];exact hj
theorem Qm {t:Nat} {a b:Value} {ev:Ev} {C:Nat} {A:Code} {m:List Po×DS} {r:List Value} (hr:r.length=73) (C0:Hid (Cu B g w w bs D s)) (hE:Hid (zy C w a b ev)) (hn1:ev.length≤100) (hm:Hid (xG D s t ev=m))
  (hA:Hid (∀v2 v3 v4 v5 v6 v7 v8 v9 r' wx s',r'.length=73→Cu B g w wx bs D s'→xL D s' t=m→Code.wp Tryz.prog A (bodyPost Tryz.prog Tryz.f104 (RO B g w bs D m 1)) (Fl g t v2 v3 v4 v5 v6 v7 v8 v9 r') wx)):
  Code.wp Tryz.prog (.seq (sL lf0) (.seq (sL (sR lf0)) A)) (bodyPost Tryz.prog Tryz.f104 (RO B g w bs D m 1)) (Fl g t (.agg #[a,b]) undef undef undef undef undef undef undef r) w:=by
 obtain⟨i0,hi,hz0,hz1,hz2⟩:=info_parts yl;obtain⟨pa,ca,rfl,-⟩:=zh hE.out.n;obtain⟨pb,cb,rfl,-⟩:=zh hE.out.t;obtain⟨n,hn⟩:∃n,n=ev.length:=⟨_,rfl⟩;rw[←hn]at hE hn1 ⊢;have HN:=Hm hn;clear hn;obtain⟨W1,hW1⟩:∃W,W=w.alloc (.cells #[.slice pa n ca,.slice pb n cb] 112):=⟨_,rfl⟩;have C1:Hid (Cu B g w W1 bs D s):=by rw[hW1];exact C0.out.al _
 have E1:Hid (zy C W1 (.slice pa n ca) (.slice pb n cb) ev):=by rw[hW1];exact hE.out.below (zd (Below.refl _ _) _)
 have X1:Hid (W1.heap[w.heap.size]? =some (.cells #[.slice pa n ca,.slice pb n cb] 112)):=by rw[hW1];exact zo _ _
 revert r;refine @zp 73 _ ?_
 iterate 73 (intro _)
 show Code.wp _ _ _ _ _
 conv=>arg 2;dsimp only[lf0,Tryz.f104,Option.getD,sR,sL,cT,cF,bk,lpo]
 conv=>arg 4;dsimp only[Fl]
 by_cases hn0:0<n
 ·have k0:(0:Int)<(n:Int):=by omega
  have y0:=cL0 X1.out;have y1:=cL1 X1.out;rw[hW1]at y0 y1;go_wp2_with fail;rw[←hW1]at y0 y1 ⊢;clear hW1 hE;refine(xl C1.out 3 (by omega) (by omega)).mono ?_;rintro e wC2 ⟨b,s1,hb,rfl,hc,hgb⟩;have C2:=Hm hc;have X2:=Hm (Cu.blk C1.out (qp _) X1.out hgb);have E2:=Hm (zy.cur E1.out C1.out hgb);have Qb:=Hm hb;clear hc hgb hb;clear y0 y1 X1 E1
  cases b with
  |true=>
   have y0:=cL0 X2.out;have y1:=cL1 X2.out;go_wp2_with fail;refine(yq C2.out n hn0 (by omega)).mono ?_;rintro e w3 ⟨j,s2,hj,lj,rfl,hc,hgb⟩;have C3:=Hm hc;have X3:=Hm (Cu.blk C2.out (qp _) X2.out hgb);have E3:=Hm (zy.cur E2.out C2.out hgb);have Qj:=Hm hj;clear hc hgb hj y0 y1 X2 E2;have z0:=cL0 X3.out;have z1:=cL1 X3.out;have hjl:j<ev.length:=by rw[←HN.out];exact lj
   obtain⟨x,hx⟩:∃x,x=ev.getD j ([],0):=⟨_,rfl⟩;have hxe:ev[j]? =some x:=by rw[hx];simp[List.getD,hjl]
   obtain⟨gn,cn,hvn,q0⟩:=TX (j:=j) (u:=.string ⟨x.1.toArray⟩) E3.out.n (by rw[List.getElem?_map,hxe];rfl);obtain⟨gt,ct,hvt,q1⟩:=TX (j:=j) (u:=.int .i64 (x.2:Int)) E3.out.t (by rw[List.getElem?_map,hxe];rfl);injection hvn with hpa _ hca;injection hvt with hpb _ hcb;subst hpa hpb hca hcb;have HX:=Hm hx;clear hx hxe hjl;obtain⟨xn,xt⟩:=x;dsimp only at q0 q1;have jl:(j:Int)<(n:Int):=by omega
   have j0:(0:Int)≤(j:Int):=by omega
   by_cases ht:xt=t
   ·subst ht
    go_wp2_with (refine zC rfl 36 88 _ rfl i0 _ Tryz.underlying36 hi hz0 3 hz1 (Po.cells ⟨2,0,xn⟩) rfl (yM _ _ _) (by decide) (by decide) ?_);go_ret;refine RO.mk' (L:=[⟨2,0,xn⟩]) (s':=s2) ?_ ((ZN _ ⟨2,0,xn⟩).low (Cu.size C3.out)) (Cu.al C3.out _) (by simp) (by simp);rw[←hm.out,xG,←HN.out];simp only[hn0,if_true,Qb.out,Qj.out,←HX.out]
   ·have kt:((xt:Int)==(t:Int))=false:=by simp;omega
    go_wp2_with fail;refine hA.out _ _ _ _ _ _ _ _ _ _ s2 ?_ C3.out ?_
    ·rfl
    ·rw[←hm.out,xG,←HN.out]
     simp only[hn0,if_true,Qb.out,Qj.out,←HX.out,if_neg ht]
  |false=>
   go_wp2_with fail;refine hA.out _ _ _ _ _ _ _ _ _ _ s1 ?_ C2.out ?_
   ·rfl
   ·rw[←hm.out,xG,if_pos (by rw[←HN.out];exact hn0),Qb.out]
    dsimp only;rw[if_neg (by simp)]
 ·have k0:decide ((0:Int)<(n:Int))=false:=by simp;omega
  have y0:=cL0 X1.out;rw[hW1]at y0;go_wp2_with fail;rw[←hW1];refine hA.out _ _ _ _ _ _ _ _ _ _ s ?_ C1.out ?_
  ·rfl
  ·rw[←hm.out,xG,if_neg (by rw[←HN.out];exact hn0)]
   dsimp only;rw[if_neg (by simp)]
theorem Y6 {t:Nat} (ht:t=1∨t=2) {a b:Value} {ev:Ev} {C:Nat} (C0:Cu B g w w bs D s) (hE:zy C w a b ev) (hn:ev.length≤100):Calls Tryz.prog 104 #[.pointer (some ⟨g,0,none⟩),.int .i64 (t:Int),.agg #[a,b]] w (RO B g w bs D (xG D s t ev) 1):=by
 refine calls_of_wp Tryz.func104 (c:=lf0) rfl ?_;rw[show(#[.pointer (some ⟨g,0,none⟩),.int .i64 (t:Int),.agg #[a,b]]++Array.replicate (Tryz.f104.ntmps- (#[.pointer (some ⟨g,0,none⟩),.int .i64 (t:Int),.agg #[a,b]]:Array Value).size) undef)=(.pointer (some ⟨g,0,none⟩)::.int .i64 (t:Int)::.agg #[a,b]::List.replicate 80 undef).toArray from WR _ _ _ 80,lf0_eq];refine Qm (r:=List.replicate 73 undef) List.length_replicate (Hm C0) (Hm hE) hn (Hm rfl) (Hm fun v2 v3 v4 v5 v6 v7 v8 v9 r' wx s' hr hc hd=>?_);rcases ht with rfl|rfl
 ·exact leafR1 hr (Hm hc) (Hm hd)
 ·exact leafR2 hr (Hm hc) (Hm hd)
end Go.Proofs.YtbkajklninmhiaaGreatDoor.Dq
