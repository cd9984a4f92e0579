import Derived.Test.YtbdldkpifanaiaaDoorCr28
set_option maxHeartbeats 3200000
set_option maxRecDepth 1000000
set_option linter.unusedVariables false
set_option linter.unusedSimpArgs false
open List renaming length_append → qg, append_assoc → qj
open Nat renaming le_refl → qn, le_trans → qo
namespace Go.Proofs.YtbdldkpifanaiaaDoor.Dq
open Go Go.RowKit Mem Syn Parse Par Draw
attribute [local go_sem ↓] Go.wp_at_zero Go.wp_at_succ
theorem xY (w:World) (o:Po):OwnO w.heap.size (w.alloc (.cells o.cells.toArray 97)) (.slice (some ⟨w.heap.size,0,none⟩) 1 1) [o]:=by
 refine⟨rfl,Or.inr ⟨w.heap.size,1,o.cells.toArray,rfl,qn _,zi _ _,qn _,by unfold maxLen;omega,rfl,?_⟩⟩;simp[zW,Po.cells]
theorem U7 (w:World):OwnO w.heap.size (w.alloc (.cells #[] 97)) (.slice (some ⟨w.heap.size,0,none⟩) 0 0) []:=
 ⟨rfl,Or.inr ⟨w.heap.size,0,#[],rfl,qn _,zi _ _,qn _,by unfold maxLen;omega,by simp,by simp[zW]⟩⟩
theorem _root_.Go.Proofs.YtbdldkpifanaiaaDoor.Par.OwnO.app {B:Nat} {w:World} {v:Value} {L M:List Po} (h:w.ownsRow B 97 3 v (L.length+M.length) (zW L++zW M)):OwnO B w v (L++M):=by
 unfold OwnO zW;rw[qg,List.flatMap_append];exact h
theorem yU (L:List Po):(zW L).length=L.length*3:=by
 induction L with
 |nil=>rfl
 |cons o r ih=>unfold zW at*;rw[List.flatMap_cons,qg,ih];simp[Po.cells];omega
theorem yp (L:List Po):∀u∈zW L,u.oneCell'=true:=fun u hu=>by
 unfold zW at hu;obtain⟨o,-,h⟩:=List.mem_flatMap.1 hu;exact V8 o u h
theorem _root_.Go.Proofs.YtbdldkpifanaiaaDoor.Par.OwnO.some' {B:Nat} {w:World} {v:Value} {L:List Po} (h:OwnO B w v L) (hn:0<L.length):∃g c,v=.slice (some ⟨g,0,none⟩) L.length c∧B≤g∧g<w.heap.size:=by
 rcases h.2 with⟨_,h0⟩|⟨g,cap,cur,h1,h2,h3,h4⟩
 ·omega
 ·exact⟨g,cap,h1,h2,zu h3⟩
theorem newsR {B g c:Nat} {w:World} {L:List Po} (h:OwnO B w (.slice (some ⟨g,0,none⟩) L.length c) L):∀j u,(zW L)[j]? =some u→w.cell? ((⟨g,0,none⟩:Addr).add j)=some u:=fun j u hu=>by
 have hj:j<L.length*3:=by
  rw[←yU];exact(List.getElem?_eq_some_iff.1 hu).1
 rw[Addr.add_lit,Nat.zero_add,World.ownsRow.cellAt h j hj];exact hu
theorem x7 {B g c n:Nat} {w:World} {L:List Po} (hn:n=L.length) (h:OwnO B w (.slice (some ⟨g,0,none⟩) L.length c) L):∀j u,(zW L)[j]? =some u→w.cell? ((⟨g,0,none⟩:Addr).add j)=some u:=newsR h
theorem yB {s B n:Nat} {w W w1:World} {v:Value} {xs:List Value} {T:TypeId} {z:Nat} (h:Below s w W) (hrow:W.ownsRow B T z v n xs) (hs:s≤B) (hB:s≤W.heap.size) (hg:W.grownBy w1 v.ownBlock):Below s w w1:=h.grown hg hB fun k hk=>by
 obtain⟨-,h2⟩:=hrow;rcases h2 with⟨rfl,-⟩|⟨g,cap,cur,rfl,hb,-⟩
 ·cases hk
 ·have:some g=some k:=hk
  injection this with e;omega
theorem _root_.Go.Proofs.YtbdldkpifanaiaaDoor.Par.OwnO.keepA {B B':Nat} {w w1:World} {v u:Value} {L M:List Po} (h:OwnO B w v L) (hu:OwnO B' w u M) (hne:∀g,v.ownBlock=some g→u.ownBlock≠some g) (hg:w.grownBy w1 u.ownBlock):OwnO B w1 v L:=by
 refine⟨h.1,?_⟩;rcases h.2 with h0|⟨g,cap,cur,h1,h2,h3,h4⟩
 ·exact Or.inl h0
 ·refine Or.inr ⟨g,cap,cur,h1,h2,?_,h4⟩
  rw[hg.block g (zu h3) (fun e=>hne g (by rw[h1];rfl) e.symm)];exact h3
theorem xq {B B' g n z:Nat} {T:TypeId} {w w':World} {v:Value} {xs:List Value} {bs:List UInt8} {s:DS} (h:w.ownsRow B T z v n xs) (hT:T≠50) (d:DC B' g w bs s) (hg:w.grownBy w' (some g)):w'.ownsRow B T z v n xs:=by
 obtain⟨-,-,u,hx,-⟩:=d;refine⟨h.1,?_⟩;rcases h.2 with h0|⟨x,cap,cur,h1,h2,h3,h4⟩
 ·exact Or.inl h0
 ·refine Or.inr ⟨x,cap,cur,h1,h2,?_,h4⟩
  rw[hg.block x (zu h3) (fun e=>?_)]
  ·exact h3
  ·injection e with e
   subst e;rw[h3]at hx;injection hx with hx;injection hx with _ h2 _;exact hT h2
theorem _root_.Go.Proofs.YtbdldkpifanaiaaDoor.Par.OwnO.cur {B B' g:Nat} {w w':World} {v:Value} {L:List Po} {bs:List UInt8} {s:DS} (h:OwnO B w v L) (d:DC B' g w bs s) (hg:w.grownBy w' (some g)):OwnO B w' v L:=xq h (by decide) d hg
theorem _root_.Go.Proofs.YtbdldkpifanaiaaDoor.Par.OwnO.low {B B':Nat} {w:World} {v:Value} {L:List Po} (h:OwnO B w v L) (hb:B'≤B):OwnO B' w v L:=by
 refine⟨h.1,?_⟩;rcases h.2 with h0|⟨x,cap,cur,h1,h2,h3⟩
 ·exact Or.inl h0
 ·exact Or.inr ⟨x,cap,cur,h1,qo hb h2,h3⟩
theorem _root_.Go.Proofs.YtbdldkpifanaiaaDoor.Par.OwnO.blk {B:Nat} {w:World} {v:Value} {L:List Po} (h:OwnO B w v L):∀g,v.ownBlock=some g→B≤g:=fun g e=>by
 rcases h.2 with⟨rfl,_⟩|⟨x,cap,cur,h1,h2,h3⟩
 ·cases e
 ·subst h1
  have:some x=some g:=e;injection this with e;omega
theorem Yw (z:Int) (w:World):Calls Tryd.prog 80 #[.int .i64 z] w fun e w'=>∃v,e=.returned v∧OwnO w.heap.size w' v [⟨1,z,[]⟩]∧Below w.heap.size w w':=by
 obtain⟨i0,hi,hz0,hz1,hz2⟩:=info_parts yF;go_enter Tryd.func80,Tryd.ntmps80;go_wp2_with (refine zv rfl 75 97 _ rfl i0 _ Tryd.underlying75 hi hz0 3 hz1 (Po.cells ⟨1,z,[]⟩) rfl (yK _ _ _) (by decide) (by decide) ?_);go_ret;exact⟨_,rfl,xY w ⟨1,z,[]⟩,zf (Below.refl _ _) _⟩
theorem yz (z:Int) (w:World):Calls Tryd.prog 79 #[.int .i64 z] w fun e w'=>∃v,e=.returned v∧OwnO w.heap.size w' v [⟨3,z,[]⟩]∧Below w.heap.size w w':=by
 obtain⟨i0,hi,hz0,hz1,hz2⟩:=info_parts yF;go_enter Tryd.func79,Tryd.ntmps79;go_wp2_with (refine zv rfl 75 97 _ rfl i0 _ Tryd.underlying75 hi hz0 3 hz1 (Po.cells ⟨3,z,[]⟩) rfl (yK _ _ _) (by decide) (by decide) ?_);go_ret;exact⟨_,rfl,xY w ⟨3,z,[]⟩,zf (Below.refl _ _) _⟩
theorem unD (k:Int) {B:Nat} {a:Value} {A:List Po} (w:World) (hA:OwnO B w a A) (pA:0<A.length) (qA:A.length≤100000):Calls Tryd.prog 75 #[.int .i64 k,a] w fun e w'=>∃v,e=.returned v∧OwnO w.heap.size w' v (A++[⟨k,0,[]⟩])∧Below w.heap.size w w':=by
 obtain⟨i0,hi,hz0,hz1,hz2⟩:=info_parts yF;obtain⟨gA,cA,rfl,-,hgA⟩:=OwnO.some' hA pA;obtain⟨nA,eA⟩:∃n,n=A.length:=⟨_,rfl⟩;have HA:=Hm hA;rw[←eA]at pA qA ⊢;have EA:=Hm eA;clear hA eA;have B0:Hid (Below w.heap.size w (w.alloc (.cells #[] 97))):=zf (Below.refl _ _) _;have z0:w.heap.size≤(w.alloc (.cells #[] 97)).heap.size:=B0.out.size;have R0:Hid ((w.alloc (.cells #[] 97)).ownsRow w.heap.size 97 3 (.slice (some ⟨w.heap.size,0,none⟩) 0 0) 0 (zW [])):=U7 w;go_enter Tryd.func75,Tryd.ntmps75
 go_wp2_with (at_builtin;go_must (refine wpList_append_own_at _ rfl _ _ 75 rfl w.heap.size 97 i0 (.agg #[.int .i64 0,.int .i64 0,.string ⟨#[]⟩]) 3 32 Tryd.underlying75 hi hz0 hz1 hz2 rfl (by decide) _ (0) (zW ([])) rfl R0.out ⟨gA,0,none⟩ nA cA (zW A) rfl (by rw[yU,EA.out]) (x7 EA.out (HA.out.below B0.out)) (yp A) (by unfold maxLen;omega) (by omega) z0 ?_));intro v1 w1 ho hgr _ _;have B1:=Hm (yB B0.out R0.out (qn _) z0 hgr);have z1:w.heap.size≤w1.heap.size:=B1.out.size;have R1:Hid (w1.ownsRow w.heap.size 97 3 v1 (nA) (zW (A))):=by unfold Hid;simpa[zW]using ho
 obtain⟨a1,b1,rfl,-⟩:=zj ho;clear ho hgr;refine Hid.out ?_;refine Lib.hid ?_;have zA:w.heap.size≤(w1.alloc (.cells (Po.cells ⟨k,0,[]⟩).toArray 97)).heap.size:=by simp;omega
 have BA:=Hm (zf B1.out (.cells (Po.cells ⟨k,0,[]⟩).toArray 97));have RA:Hid ((w1.alloc (.cells (Po.cells ⟨k,0,[]⟩).toArray 97)).ownsRow w.heap.size 97 3 (.slice a1 (nA) b1) (nA) (zW (A))):=z9 R1.out (zf (Below.refl _ _) _);go_wp2_with (first|(at_builtin;go_must (refine wpList_append_own_at _ rfl _ _ 75 rfl w.heap.size 97 i0 (.agg #[.int .i64 0,.int .i64 0,.string ⟨#[]⟩]) 3 32 Tryd.underlying75 hi hz0 hz1 hz2 rfl (by decide) _ (nA) (zW (A)) rfl RA.out ⟨w1.heap.size,0,none⟩ 1 1 (Po.cells ⟨k,0,[]⟩) rfl rfl (WI w1 ⟨k,0,[]⟩) (V8 _) (by unfold maxLen;omega) (by omega) zA ?_))|(refine zv rfl 75 97 _ rfl i0 _ Tryd.underlying75 hi hz0 3 hz1 (Po.cells ⟨k,0,[]⟩) rfl (yK _ _ _) (by decide) (by decide) ?_));intro vz wz ho hgr _ _;have BZ:=Hm (yB BA.out RA.out (qn _) zA hgr)
 have OZ:Hid (OwnO w.heap.size wz vz (A++[⟨k,0,[]⟩])):=by
  refine Hm (OwnO.snoc ?_);have e:(A).length=nA:=by simp only[qg,EA.out]
  rw[e]
  first|exact ho|(rw[qj];exact ho)
 obtain⟨az,bz,rfl,-⟩:=zj ho;clear ho hgr;refine Hid.out ?_;refine Lib.hid ?_;go_wp2;go_ret;exact⟨_,rfl,OZ.out,BZ.out⟩
theorem Zv (k:Int) {B B':Nat} {a b:Value} {A C:List Po} (w:World) (hA:OwnO B w a A) (hC:OwnO B' w b C) (pA:0<A.length) (qA:A.length≤100000) (pC:0<C.length) (qC:C.length≤100000):Calls Tryd.prog 77 #[.int .i64 k,a,b] w fun e w'=>∃v,e=.returned v∧OwnO w.heap.size w' v (A++C++[⟨9,k,[]⟩])∧Below w.heap.size w w':=by
 obtain⟨i0,hi,hz0,hz1,hz2⟩:=info_parts yF;obtain⟨gA,cA,rfl,-,hgA⟩:=OwnO.some' hA pA;obtain⟨nA,eA⟩:∃n,n=A.length:=⟨_,rfl⟩;have HA:=Hm hA;rw[←eA]at pA qA ⊢;have EA:=Hm eA;clear hA eA;obtain⟨gC,cC,rfl,-,hgC⟩:=OwnO.some' hC pC;obtain⟨nC,eC⟩:∃n,n=C.length:=⟨_,rfl⟩;have HC:=Hm hC;rw[←eC]at pC qC ⊢;have EC:=Hm eC;clear hC eC;have B0:Hid (Below w.heap.size w (w.alloc (.cells #[] 97))):=zf (Below.refl _ _) _;have z0:w.heap.size≤(w.alloc (.cells #[] 97)).heap.size:=B0.out.size;have R0:Hid ((w.alloc (.cells #[] 97)).ownsRow w.heap.size 97 3 (.slice (some ⟨w.heap.size,0,none⟩) 0 0) 0 (zW [])):=U7 w;go_enter Tryd.func77,Tryd.ntmps77
 go_wp2_with (at_builtin;go_must (refine wpList_append_own_at _ rfl _ _ 75 rfl w.heap.size 97 i0 (.agg #[.int .i64 0,.int .i64 0,.string ⟨#[]⟩]) 3 32 Tryd.underlying75 hi hz0 hz1 hz2 rfl (by decide) _ (0) (zW ([])) rfl R0.out ⟨gA,0,none⟩ nA cA (zW A) rfl (by rw[yU,EA.out]) (x7 EA.out (HA.out.below B0.out)) (yp A) (by unfold maxLen;omega) (by omega) z0 ?_));intro v1 w1 ho hgr _ _;have B1:=Hm (yB B0.out R0.out (qn _) z0 hgr);have z1:w.heap.size≤w1.heap.size:=B1.out.size;have R1:Hid (w1.ownsRow w.heap.size 97 3 v1 (nA) (zW (A))):=by unfold Hid;simpa[zW]using ho
 obtain⟨a1,b1,rfl,-⟩:=zj ho;clear ho hgr;refine Hid.out ?_;refine Lib.hid ?_;go_wp2_with (at_builtin;go_must (refine wpList_append_own_at _ rfl _ _ 75 rfl w.heap.size 97 i0 (.agg #[.int .i64 0,.int .i64 0,.string ⟨#[]⟩]) 3 32 Tryd.underlying75 hi hz0 hz1 hz2 rfl (by decide) _ (nA) (zW (A)) rfl R1.out ⟨gC,0,none⟩ nC cC (zW C) rfl (by rw[yU,EC.out]) (x7 EC.out (HC.out.below B1.out)) (yp C) (by unfold maxLen;omega) (by omega) z1 ?_));intro v2 w2 ho hgr _ _;have B2:=Hm (yB B1.out R1.out (qn _) z1 hgr);have z2:w.heap.size≤w2.heap.size:=B2.out.size;have R2:Hid (w2.ownsRow w.heap.size 97 3 v2 (nA+nC) (zW (A++C))):=by unfold Hid;simpa[zW]using ho
 obtain⟨a2,b2,rfl,-⟩:=zj ho;clear ho hgr;refine Hid.out ?_;refine Lib.hid ?_;have zA:w.heap.size≤(w2.alloc (.cells (Po.cells ⟨9,k,[]⟩).toArray 97)).heap.size:=by simp;omega
 have BA:=Hm (zf B2.out (.cells (Po.cells ⟨9,k,[]⟩).toArray 97));have RA:Hid ((w2.alloc (.cells (Po.cells ⟨9,k,[]⟩).toArray 97)).ownsRow w.heap.size 97 3 (.slice a2 (nA+nC) b2) (nA+nC) (zW (A++C))):=z9 R2.out (zf (Below.refl _ _) _);go_wp2_with (first|(at_builtin;go_must (refine wpList_append_own_at _ rfl _ _ 75 rfl w.heap.size 97 i0 (.agg #[.int .i64 0,.int .i64 0,.string ⟨#[]⟩]) 3 32 Tryd.underlying75 hi hz0 hz1 hz2 rfl (by decide) _ (nA+nC) (zW (A++C)) rfl RA.out ⟨w2.heap.size,0,none⟩ 1 1 (Po.cells ⟨9,k,[]⟩) rfl rfl (WI w2 ⟨9,k,[]⟩) (V8 _) (by unfold maxLen;omega) (by omega) zA ?_))|(refine zv rfl 75 97 _ rfl i0 _ Tryd.underlying75 hi hz0 3 hz1 (Po.cells ⟨9,k,[]⟩) rfl (yK _ _ _) (by decide) (by decide) ?_));intro vz wz ho hgr _ _
 have BZ:=Hm (yB BA.out RA.out (qn _) zA hgr)
 have OZ:Hid (OwnO w.heap.size wz vz (A++C++[⟨9,k,[]⟩])):=by
  refine Hm (OwnO.snoc ?_);have e:(A++C).length=nA+nC:=by simp only[qg,EA.out,EC.out]
  rw[e]
  first|exact ho|(rw[qj];exact ho)
 obtain⟨az,bz,rfl,-⟩:=zj ho;clear ho hgr;refine Hid.out ?_;refine Lib.hid ?_;go_wp2;go_ret;exact⟨_,rfl,OZ.out,BZ.out⟩
theorem TN (k:Int) {B B':Nat} {a b:Value} {A C:List Po} (w:World) (hA:OwnO B w a A) (hC:OwnO B' w b C) (pA:0<A.length) (qA:A.length≤100000) (pC:0<C.length) (qC:C.length≤100000):Calls Tryd.prog 76 #[.int .i64 k,a,b] w fun e w'=>∃v,e=.returned v∧OwnO w.heap.size w' v (A++C++[⟨10,k,[]⟩])∧Below w.heap.size w w':=by
 obtain⟨i0,hi,hz0,hz1,hz2⟩:=info_parts yF;obtain⟨gA,cA,rfl,-,hgA⟩:=OwnO.some' hA pA;obtain⟨nA,eA⟩:∃n,n=A.length:=⟨_,rfl⟩;have HA:=Hm hA;rw[←eA]at pA qA ⊢;have EA:=Hm eA;clear hA eA;obtain⟨gC,cC,rfl,-,hgC⟩:=OwnO.some' hC pC;obtain⟨nC,eC⟩:∃n,n=C.length:=⟨_,rfl⟩;have HC:=Hm hC;rw[←eC]at pC qC ⊢;have EC:=Hm eC;clear hC eC;have B0:Hid (Below w.heap.size w (w.alloc (.cells #[] 97))):=zf (Below.refl _ _) _;have z0:w.heap.size≤(w.alloc (.cells #[] 97)).heap.size:=B0.out.size;have R0:Hid ((w.alloc (.cells #[] 97)).ownsRow w.heap.size 97 3 (.slice (some ⟨w.heap.size,0,none⟩) 0 0) 0 (zW [])):=U7 w;go_enter Tryd.func76,Tryd.ntmps76
 go_wp2_with (at_builtin;go_must (refine wpList_append_own_at _ rfl _ _ 75 rfl w.heap.size 97 i0 (.agg #[.int .i64 0,.int .i64 0,.string ⟨#[]⟩]) 3 32 Tryd.underlying75 hi hz0 hz1 hz2 rfl (by decide) _ (0) (zW ([])) rfl R0.out ⟨gA,0,none⟩ nA cA (zW A) rfl (by rw[yU,EA.out]) (x7 EA.out (HA.out.below B0.out)) (yp A) (by unfold maxLen;omega) (by omega) z0 ?_));intro v1 w1 ho hgr _ _;have B1:=Hm (yB B0.out R0.out (qn _) z0 hgr);have z1:w.heap.size≤w1.heap.size:=B1.out.size;have R1:Hid (w1.ownsRow w.heap.size 97 3 v1 (nA) (zW (A))):=by unfold Hid;simpa[zW]using ho
 obtain⟨a1,b1,rfl,-⟩:=zj ho;clear ho hgr;refine Hid.out ?_;refine Lib.hid ?_;go_wp2_with (at_builtin;go_must (refine wpList_append_own_at _ rfl _ _ 75 rfl w.heap.size 97 i0 (.agg #[.int .i64 0,.int .i64 0,.string ⟨#[]⟩]) 3 32 Tryd.underlying75 hi hz0 hz1 hz2 rfl (by decide) _ (nA) (zW (A)) rfl R1.out ⟨gC,0,none⟩ nC cC (zW C) rfl (by rw[yU,EC.out]) (x7 EC.out (HC.out.below B1.out)) (yp C) (by unfold maxLen;omega) (by omega) z1 ?_));intro v2 w2 ho hgr _ _;have B2:=Hm (yB B1.out R1.out (qn _) z1 hgr);have z2:w.heap.size≤w2.heap.size:=B2.out.size;have R2:Hid (w2.ownsRow w.heap.size 97 3 v2 (nA+nC) (zW (A++C))):=by unfold Hid;simpa[zW]using ho
 obtain⟨a2,b2,rfl,-⟩:=zj ho;clear ho hgr;refine Hid.out ?_;refine Lib.hid ?_;have zA:w.heap.size≤(w2.alloc (.cells (Po.cells ⟨10,k,[]⟩).toArray 97)).heap.size:=by simp;omega
 have BA:=Hm (zf B2.out (.cells (Po.cells ⟨10,k,[]⟩).toArray 97));have RA:Hid ((w2.alloc (.cells (Po.cells ⟨10,k,[]⟩).toArray 97)).ownsRow w.heap.size 97 3 (.slice a2 (nA+nC) b2) (nA+nC) (zW (A++C))):=z9 R2.out (zf (Below.refl _ _) _);go_wp2_with (first|(at_builtin;go_must (refine wpList_append_own_at _ rfl _ _ 75 rfl w.heap.size 97 i0 (.agg #[.int .i64 0,.int .i64 0,.string ⟨#[]⟩]) 3 32 Tryd.underlying75 hi hz0 hz1 hz2 rfl (by decide) _ (nA+nC) (zW (A++C)) rfl RA.out ⟨w2.heap.size,0,none⟩ 1 1 (Po.cells ⟨10,k,[]⟩) rfl rfl (WI w2 ⟨10,k,[]⟩) (V8 _) (by unfold maxLen;omega) (by omega) zA ?_))|(refine zv rfl 75 97 _ rfl i0 _ Tryd.underlying75 hi hz0 3 hz1 (Po.cells ⟨10,k,[]⟩) rfl (yK _ _ _) (by decide) (by decide) ?_));intro vz wz ho hgr _ _
 have BZ:=Hm (yB BA.out RA.out (qn _) zA hgr)
 have OZ:Hid (OwnO w.heap.size wz vz (A++C++[⟨10,k,[]⟩])):=by
  refine Hm (OwnO.snoc ?_);have e:(A++C).length=nA+nC:=by simp only[qg,EA.out,EC.out]
  rw[e]
  first|exact ho|(rw[qj];exact ho)
 obtain⟨az,bz,rfl,-⟩:=zj ho;clear ho hgr;refine Hid.out ?_;refine Lib.hid ?_;go_wp2;go_ret;exact⟨_,rfl,OZ.out,BZ.out⟩
theorem ifD {B B' B'':Nat} {a b c:Value} {A C D:List Po} (w:World) (hA:OwnO B w a A) (hC:OwnO B' w b C) (hD:OwnO B'' w c D) (pA:0<A.length) (qA:A.length≤100000) (pC:0<C.length) (qC:C.length≤100000) (pD:0<D.length) (qD:D.length≤100000):Calls Tryd.prog 74 #[a,b,c] w fun e w'=>∃v,e=.returned v∧OwnO w.heap.size w' v (A++C++D++[⟨10,2,[]⟩])∧Below w.heap.size w w':=by
 obtain⟨i0,hi,hz0,hz1,hz2⟩:=info_parts yF;obtain⟨gA,cA,rfl,-,hgA⟩:=OwnO.some' hA pA;obtain⟨nA,eA⟩:∃n,n=A.length:=⟨_,rfl⟩;have HA:=Hm hA;rw[←eA]at pA qA ⊢;have EA:=Hm eA;clear hA eA;obtain⟨gC,cC,rfl,-,hgC⟩:=OwnO.some' hC pC;obtain⟨nC,eC⟩:∃n,n=C.length:=⟨_,rfl⟩;have HC:=Hm hC;rw[←eC]at pC qC ⊢;have EC:=Hm eC;clear hC eC;obtain⟨gD,cD,rfl,-,hgD⟩:=OwnO.some' hD pD;obtain⟨nD,eD⟩:∃n,n=D.length:=⟨_,rfl⟩;have HD:=Hm hD;rw[←eD]at pD qD ⊢;have ED:=Hm eD;clear hD eD;have B0:Hid (Below w.heap.size w (w.alloc (.cells #[] 97))):=zf (Below.refl _ _) _;have z0:w.heap.size≤(w.alloc (.cells #[] 97)).heap.size:=B0.out.size
 have R0:Hid ((w.alloc (.cells #[] 97)).ownsRow w.heap.size 97 3 (.slice (some ⟨w.heap.size,0,none⟩) 0 0) 0 (zW [])):=U7 w;go_enter Tryd.func74,Tryd.ntmps74;go_wp2_with (at_builtin;go_must (refine wpList_append_own_at _ rfl _ _ 75 rfl w.heap.size 97 i0 (.agg #[.int .i64 0,.int .i64 0,.string ⟨#[]⟩]) 3 32 Tryd.underlying75 hi hz0 hz1 hz2 rfl (by decide) _ (0) (zW ([])) rfl R0.out ⟨gA,0,none⟩ nA cA (zW A) rfl (by rw[yU,EA.out]) (x7 EA.out (HA.out.below B0.out)) (yp A) (by unfold maxLen;omega) (by omega) z0 ?_));intro v1 w1 ho hgr _ _;have B1:=Hm (yB B0.out R0.out (qn _) z0 hgr);have z1:w.heap.size≤w1.heap.size:=B1.out.size;have R1:Hid (w1.ownsRow w.heap.size 97 3 v1 (nA) (zW (A))):=by unfold Hid;simpa[zW]using ho
 obtain⟨a1,b1,rfl,-⟩:=zj ho;clear ho hgr;refine Hid.out ?_;refine Lib.hid ?_;go_wp2_with (at_builtin;go_must (refine wpList_append_own_at _ rfl _ _ 75 rfl w.heap.size 97 i0 (.agg #[.int .i64 0,.int .i64 0,.string ⟨#[]⟩]) 3 32 Tryd.underlying75 hi hz0 hz1 hz2 rfl (by decide) _ (nA) (zW (A)) rfl R1.out ⟨gC,0,none⟩ nC cC (zW C) rfl (by rw[yU,EC.out]) (x7 EC.out (HC.out.below B1.out)) (yp C) (by unfold maxLen;omega) (by omega) z1 ?_));intro v2 w2 ho hgr _ _;have B2:=Hm (yB B1.out R1.out (qn _) z1 hgr);have z2:w.heap.size≤w2.heap.size:=B2.out.size;have R2:Hid (w2.ownsRow w.heap.size 97 3 v2 (nA+nC) (zW (A++C))):=by unfold Hid;simpa[zW]using ho
 obtain⟨a2,b2,rfl,-⟩:=zj ho;clear ho hgr;refine Hid.out ?_;refine Lib.hid ?_;go_wp2_with (at_builtin;go_must (refine wpList_append_own_at _ rfl _ _ 75 rfl w.heap.size 97 i0 (.agg #[.int .i64 0,.int .i64 0,.string ⟨#[]⟩]) 3 32 Tryd.underlying75 hi hz0 hz1 hz2 rfl (by decide) _ (nA+nC) (zW (A++C)) rfl R2.out ⟨gD,0,none⟩ nD cD (zW D) rfl (by rw[yU,ED.out]) (x7 ED.out (HD.out.below B2.out)) (yp D) (by unfold maxLen;omega) (by omega) z2 ?_));intro v3 w3 ho hgr _ _;have B3:=Hm (yB B2.out R2.out (qn _) z2 hgr);have z3:w.heap.size≤w3.heap.size:=B3.out.size;have R3:Hid (w3.ownsRow w.heap.size 97 3 v3 (nA+nC+nD) (zW (A++C++D))):=by unfold Hid;simpa[zW]using ho
 obtain⟨a3,b3,rfl,-⟩:=zj ho;clear ho hgr;refine Hid.out ?_;refine Lib.hid ?_;have zA:w.heap.size≤(w3.alloc (.cells (Po.cells ⟨10,2,[]⟩).toArray 97)).heap.size:=by simp;omega
 have BA:=Hm (zf B3.out (.cells (Po.cells ⟨10,2,[]⟩).toArray 97));have RA:Hid ((w3.alloc (.cells (Po.cells ⟨10,2,[]⟩).toArray 97)).ownsRow w.heap.size 97 3 (.slice a3 (nA+nC+nD) b3) (nA+nC+nD) (zW (A++C++D))):=z9 R3.out (zf (Below.refl _ _) _);go_wp2_with (first|(at_builtin;go_must (refine wpList_append_own_at _ rfl _ _ 75 rfl w.heap.size 97 i0 (.agg #[.int .i64 0,.int .i64 0,.string ⟨#[]⟩]) 3 32 Tryd.underlying75 hi hz0 hz1 hz2 rfl (by decide) _ (nA+nC+nD) (zW (A++C++D)) rfl RA.out ⟨w3.heap.size,0,none⟩ 1 1 (Po.cells ⟨10,2,[]⟩) rfl rfl (WI w3 ⟨10,2,[]⟩) (V8 _) (by unfold maxLen;omega) (by omega) zA ?_))|(refine zv rfl 75 97 _ rfl i0 _ Tryd.underlying75 hi hz0 3 hz1 (Po.cells ⟨10,2,[]⟩) rfl (yK _ _ _) (by decide) (by decide) ?_));intro vz wz ho hgr _ _
 have BZ:=Hm (yB BA.out RA.out (qn _) zA hgr)
 have OZ:Hid (OwnO w.heap.size wz vz (A++C++D++[⟨10,2,[]⟩])):=by
  refine Hm (OwnO.snoc ?_);have e:(A++C++D).length=nA+nC+nD:=by simp only[qg,EA.out,EC.out,ED.out]
  rw[e]
  first|exact ho|(rw[qj];exact ho)
 obtain⟨az,bz,rfl,-⟩:=zj ho;clear ho hgr;refine Hid.out ?_;refine Lib.hid ?_;go_wp2;go_ret;exact⟨_,rfl,OZ.out,BZ.out⟩
end Go.Proofs.YtbdldkpifanaiaaDoor.Dq
