import Derived.Test.YtbdldkpifanaiaaDoorCr30
set_option maxHeartbeats 6400000
set_option maxRecDepth 1000000
set_option linter.unusedVariables false
set_option linter.unusedSimpArgs false
open List renaming length_append → qg
open Nat renaming le_refl → qn
namespace Go.Proofs.YtbdldkpifanaiaaDoor.Dq
open Go Go.RowKit Mem Syn Parse Par Draw
attribute [local go_sem ↓] Go.wp_at_zero Go.wp_at_succ
variable {B g:Nat} {w0 w w':World} {bs:List UInt8} {D:Sr} {s s':DS}
def dEx (F:DS→Nat→List Po×DS) (k:Nat) (s:DS) (t:Nat):List Po×DS:=
 if k=0 then
  match F s 2 with
  |(x,s1)=>match F s1 t with
   |(y,s2)=>match F s2 t with
    |(z,s3)=>(x++y++z++[⟨10,2,[]⟩],s3)
 else if t=1 then
  if k=1 then
   match F s 1 with
   |(x,s1)=>(x++[⟨7,0,[]⟩],s1)
  else
   match F s 1 with
   |(x,s1)=>match F s1 1 with
    |(y,s2)=>(x++y++[if k=2∨k=3 then ⟨10,(k:Int) -2,[]⟩else ⟨9,((k % 3:Nat):Int),[]⟩],s2)
 else if k=1 then
  match F s 2 with
  |(x,s1)=>(x++[⟨8,0,[]⟩],s1)
 else if k<6 then
  match F s 2 with
  |(x,s1)=>match F s1 2 with
   |(y,s2)=>(x++y++[⟨9,if k=2 then 5 else 6+((k % 2:Nat):Int),[]⟩],s2)
 else
  match F s 1 with
  |(x,s1)=>match F s1 1 with
   |(y,s2)=>(x++y++[⟨9,3+((k % 3:Nat):Int),[]⟩],s2)
def y7 (D:Sr) (ev:Ev):Nat→DS→Nat→List Po×DS
 |0,s,t=>yW D s t ev
 |d+1,s,t=>
  match D.once s 5 with
  |(o,s1)=>
   if o=true then yW D s1 t ev
   else match D.bel s1 10 with
    |(k,s2)=>dEx (y7 D ev d) k s2 t
def ExF (B g:Nat) (bs:List UInt8) (D:Sr) (C:Nat) (a b:Value) (ev:Ev) (d:Nat) (F:DS→Nat→List Po×DS):Prop:=∀(s:DS) (t:Nat) (w:World),(t=1∨t=2)→Cu B g w w bs D s→zp C w a b ev→Calls Tryd.prog 65 #[.pointer (some ⟨g,0,none⟩),.int .i64 (t:Int),.int .i64 (d:Int),.agg #[a,b]] w (RO B g w bs D (F s t) (4 ^ d))
theorem ExF.call {C d:Nat} {a b:Value} {ev:Ev} {F:DS→Nat→List Po×DS} (hF:ExF B g bs D C a b ev d F) (t:Nat) (ht:t=1∨t=2) (h:Cu B g w0 w bs D s) (hE:zp C w a b ev):Calls Tryd.prog 65 #[.pointer (some ⟨g,0,none⟩),.int .i64 (t:Int),.int .i64 (d:Int),.agg #[a,b]] w fun e w'=>∃v L s',F s t=(L,s')∧e=.returned v∧OwnO w0.heap.size w' v L∧Cu B g w0 w' bs D s'∧w.grownBy w' (some g)∧0<L.length∧L.length≤4 ^ d:=by
 refine(hF s t w ht h.self hE).mono ?_;rintro e w' ⟨v,rfl,ho,hc,hp,hq⟩;exact⟨v,_,_,Prod.ext rfl rfl,rfl,ho.low h.size,h.in' hc,hc.gb,hp,hq⟩
noncomputable def e0:Code:=Tryd.f65.body.getD .skip
noncomputable def e3:Code:=sR (sR (sR e0))
def Fe (g t:Nat) (d:Int) (v3 v4 v5 v6 v7 v8 v9:Value) (r:List Value):Act:={tmps:=(.pointer (some ⟨g,0,none⟩)::.int .i64 (t:Int)::.int .i64 d::v3::v4::v5::v6::v7::v8::v9::r).toArray,defers:=[]}
theorem exB0 {W:World} {d k t n C ca cb:Nat} {pa pb:Option Addr} {ev:Ev} {F:DS→Nat→List Po×DS} {m:List Po×DS} {v3 v4 v5 v6 v8:Value} {r:List Value} (hr:r.length=139) (C0:Hid (Cu B g w W bs D s)) (X0:Hid (W.heap[w.heap.size]? =some (.cells #[.slice pa n ca,.slice pb n cb] 102))) (E0:Hid (zp C W (.slice pa n ca) (.slice pb n cb) ev)) (hd4:4 ^ d≤50000) (hd5:d≤100) (hF:Hid (ExF B g bs D C (.slice pa n ca) (.slice pb n cb) ev d F)) (ht:t=1∨t=2) (hk:k=0) (hm:Hid (dEx F k s t=m)):Code.wp Tryd.prog e3 (bodyPost Tryd.prog Tryd.f65 (RO B g w bs D m (4 ^ (d+1)))) (Fe g t ((d:Int)+1) v3 v4 v5 v6 (.pointer (some ⟨w.heap.size,0,none⟩)) v8 (.int .i64 (k:Int)) r) W:=by
 have ew:IntKind.i64.wrap ((d:Int)+1-1)=(d:Int):=by rw[IntKind.wrap_i64];omega
 have hpw:4 ^ (d+1)=4 ^ d*4:=Nat.pow_succ ..;subst hk;revert r;refine @zE 139 _ ?_
 iterate 139 (intro _)
 show Code.wp _ _ _ _ _
 conv=>arg 2;dsimp only[e3,e0,Tryd.f65,Option.getD,sR,sL,cT,cF,bk,lpo]
 conv=>arg 4;dsimp only[Fe]
 have y0:=cl0 X0.out;have y1:=cl1 X0.out;go_wp2_with fail;clear y0 y1;refine(hF.out.call 2 (by omega) C0.out E0.out).mono ?_;rintro e w1 ⟨v1,L1,s1,hx,rfl,ho,hc,hgb,hp1,hq1⟩;have Q1:=Hm hx;have O1_1:=Hm ho;have X1:=Hm (Cu.blk C0.out (qn _) X0.out hgb);have E1:=Hm (zp.cur E0.out C0.out hgb);have C1:=Hm hc;obtain⟨a1,n1,c1,rfl⟩:∃a n c,v1=.slice a n c:=by obtain⟨a,c,e,-⟩:=zj ho;exact⟨_,_,_,e⟩
 clear hx ho hc hgb X0 E0;have y0:=cl0 X1.out;have y1:=cl1 X1.out;go_wp2_with fail;clear y0 y1;refine(hF.out.call t (by exact ht) C1.out E1.out).mono ?_;rintro e w2 ⟨v2,L2,s2,hx,rfl,ho,hc,hgb,hp2,hq2⟩;have Q2:=Hm hx;have O2_2:=Hm ho;have X2:=Hm (Cu.blk C1.out (qn _) X1.out hgb);have E2:=Hm (zp.cur E1.out C1.out hgb);have O1_2:=Hm (Cu.own C1.out O1_1.out hgb);have C2:=Hm hc;obtain⟨a2,n2,c2,rfl⟩:∃a n c,v2=.slice a n c:=by obtain⟨a,c,e,-⟩:=zj ho;exact⟨_,_,_,e⟩
 clear hx ho hc hgb X1 E1;have y0:=cl0 X2.out;have y1:=cl1 X2.out;go_wp2_with fail;clear y0 y1;refine(hF.out.call t (by exact ht) C2.out E2.out).mono ?_;rintro e w3 ⟨v3,L3,s3,hx,rfl,ho,hc,hgb,hp3,hq3⟩;have Q3:=Hm hx;have O3_3:=Hm ho;have X3:=Hm (Cu.blk C2.out (qn _) X2.out hgb);have E3:=Hm (zp.cur E2.out C2.out hgb);have O1_3:=Hm (Cu.own C2.out O1_2.out hgb);have O2_3:=Hm (Cu.own C2.out O2_2.out hgb);have C3:=Hm hc;obtain⟨a3,n3,c3,rfl⟩:∃a n c,v3=.slice a n c:=by obtain⟨a,c,e,-⟩:=zj ho;exact⟨_,_,_,e⟩
 clear hx ho hc hgb X2 E2;go_wp2_with fail;refine(ifD _ O1_3.out O2_3.out O3_3.out (by omega) (by omega) (by omega) (by omega) (by omega) (by omega)).mono ?_;rintro e wz ⟨vz,rfl,ho,hb⟩;have OZ:=Hm (ho.low (Cu.size C3.out));have CZ:=Hm (Cu.below C3.out hb);obtain⟨az,nz,bz,rfl⟩:∃a n c,vz=.slice a n c:=by obtain⟨a,c,e,-⟩:=zj ho;exact⟨_,_,_,e⟩
 clear ho hb;go_wp2;go_ret;refine RO.mk' (v:=.slice az nz bz) (L:=L1++L2++L3++[⟨10,2,[]⟩]) (s':=s3) ?_ OZ.out CZ.out (by simp only[qg,List.length_singleton];omega) (by simp only[qg,List.length_singleton];omega);rw[←hm.out];simp[dEx,Q1.out,Q2.out,Q3.out,if_true]
theorem exB11 {W:World} {d k n C ca cb:Nat} {pa pb:Option Addr} {ev:Ev} {F:DS→Nat→List Po×DS} {m:List Po×DS} {v3 v4 v5 v6 v8:Value} {r:List Value} (hr:r.length=139) (C0:Hid (Cu B g w W bs D s)) (X0:Hid (W.heap[w.heap.size]? =some (.cells #[.slice pa n ca,.slice pb n cb] 102))) (E0:Hid (zp C W (.slice pa n ca) (.slice pb n cb) ev)) (hd4:4 ^ d≤50000) (hd5:d≤100) (hF:Hid (ExF B g bs D C (.slice pa n ca) (.slice pb n cb) ev d F)) (hk:k=1) (hm:Hid (dEx F k s 1=m)):Code.wp Tryd.prog e3 (bodyPost Tryd.prog Tryd.f65 (RO B g w bs D m (4 ^ (d+1)))) (Fe g 1 ((d:Int)+1) v3 v4 v5 v6 (.pointer (some ⟨w.heap.size,0,none⟩)) v8 (.int .i64 (k:Int)) r) W:=by
 have ew:IntKind.i64.wrap ((d:Int)+1-1)=(d:Int):=by rw[IntKind.wrap_i64];omega
 have hpw:4 ^ (d+1)=4 ^ d*4:=Nat.pow_succ ..;subst hk;revert r;refine @zE 139 _ ?_
 iterate 139 (intro _)
 show Code.wp _ _ _ _ _
 conv=>arg 2;dsimp only[e3,e0,Tryd.f65,Option.getD,sR,sL,cT,cF,bk,lpo]
 conv=>arg 4;dsimp only[Fe]
 have y0:=cl0 X0.out;have y1:=cl1 X0.out;go_wp2_with fail;clear y0 y1;refine(hF.out.call 1 (by omega) C0.out E0.out).mono ?_;rintro e w1 ⟨v1,L1,s1,hx,rfl,ho,hc,hgb,hp1,hq1⟩;have Q1:=Hm hx;have O1_1:=Hm ho;have X1:=Hm (Cu.blk C0.out (qn _) X0.out hgb);have E1:=Hm (zp.cur E0.out C0.out hgb);have C1:=Hm hc;obtain⟨a1,n1,c1,rfl⟩:∃a n c,v1=.slice a n c:=by obtain⟨a,c,e,-⟩:=zj ho;exact⟨_,_,_,e⟩
 clear hx ho hc hgb X0 E0;go_wp2_with fail;refine(unD (7) _ O1_1.out (by omega) (by omega)).mono ?_;rintro e wz ⟨vz,rfl,ho,hb⟩;have OZ:=Hm (ho.low (Cu.size C1.out));have CZ:=Hm (Cu.below C1.out hb);obtain⟨az,nz,bz,rfl⟩:∃a n c,vz=.slice a n c:=by obtain⟨a,c,e,-⟩:=zj ho;exact⟨_,_,_,e⟩
 clear ho hb;go_wp2;go_ret;refine RO.mk' (v:=.slice az nz bz) (L:=L1++[⟨7,0,[]⟩]) (s':=s1) ?_ OZ.out CZ.out (by simp only[qg,List.length_singleton];omega) (by simp only[qg,List.length_singleton];omega);rw[←hm.out];simp[dEx,Q1.out,if_true]
theorem exB12 {W:World} {d k n C ca cb:Nat} {pa pb:Option Addr} {ev:Ev} {F:DS→Nat→List Po×DS} {m:List Po×DS} {v3 v4 v5 v6 v8:Value} {r:List Value} (hr:r.length=139) (C0:Hid (Cu B g w W bs D s)) (X0:Hid (W.heap[w.heap.size]? =some (.cells #[.slice pa n ca,.slice pb n cb] 102))) (E0:Hid (zp C W (.slice pa n ca) (.slice pb n cb) ev)) (hd4:4 ^ d≤50000) (hd5:d≤100) (hF:Hid (ExF B g bs D C (.slice pa n ca) (.slice pb n cb) ev d F)) (hk:k=2) (hm:Hid (dEx F k s 1=m)):Code.wp Tryd.prog e3 (bodyPost Tryd.prog Tryd.f65 (RO B g w bs D m (4 ^ (d+1)))) (Fe g 1 ((d:Int)+1) v3 v4 v5 v6 (.pointer (some ⟨w.heap.size,0,none⟩)) v8 (.int .i64 (k:Int)) r) W:=by
 have ew:IntKind.i64.wrap ((d:Int)+1-1)=(d:Int):=by rw[IntKind.wrap_i64];omega
 have hpw:4 ^ (d+1)=4 ^ d*4:=Nat.pow_succ ..;subst hk;have e2:IntKind.i64.wrap (((2:Nat):Int) -2)=0:=by decide
 revert r;refine @zE 139 _ ?_
 iterate 139 (intro _)
 show Code.wp _ _ _ _ _
 conv=>arg 2;dsimp only[e3,e0,Tryd.f65,Option.getD,sR,sL,cT,cF,bk,lpo]
 conv=>arg 4;dsimp only[Fe]
 have y0:=cl0 X0.out;have y1:=cl1 X0.out;go_wp2_with fail;clear y0 y1;refine(hF.out.call 1 (by omega) C0.out E0.out).mono ?_;rintro e w1 ⟨v1,L1,s1,hx,rfl,ho,hc,hgb,hp1,hq1⟩;have Q1:=Hm hx;have O1_1:=Hm ho;have X1:=Hm (Cu.blk C0.out (qn _) X0.out hgb);have E1:=Hm (zp.cur E0.out C0.out hgb);have C1:=Hm hc;obtain⟨a1,n1,c1,rfl⟩:∃a n c,v1=.slice a n c:=by obtain⟨a,c,e,-⟩:=zj ho;exact⟨_,_,_,e⟩
 clear hx ho hc hgb X0 E0;have y0:=cl0 X1.out;have y1:=cl1 X1.out;go_wp2_with fail;clear y0 y1;refine(hF.out.call 1 (by omega) C1.out E1.out).mono ?_;rintro e w2 ⟨v2,L2,s2,hx,rfl,ho,hc,hgb,hp2,hq2⟩;have Q2:=Hm hx;have O2_2:=Hm ho;have X2:=Hm (Cu.blk C1.out (qn _) X1.out hgb);have E2:=Hm (zp.cur E1.out C1.out hgb);have O1_2:=Hm (Cu.own C1.out O1_1.out hgb);have C2:=Hm hc;obtain⟨a2,n2,c2,rfl⟩:∃a n c,v2=.slice a n c:=by obtain⟨a,c,e,-⟩:=zj ho;exact⟨_,_,_,e⟩
 clear hx ho hc hgb X1 E1;go_wp2_with fail;refine(TN (0) _ O1_2.out O2_2.out (by omega) (by omega) (by omega) (by omega)).mono ?_;rintro e wz ⟨vz,rfl,ho,hb⟩;have OZ:=Hm (ho.low (Cu.size C2.out));have CZ:=Hm (Cu.below C2.out hb);obtain⟨az,nz,bz,rfl⟩:∃a n c,vz=.slice a n c:=by obtain⟨a,c,e,-⟩:=zj ho;exact⟨_,_,_,e⟩
 clear ho hb;go_wp2;go_ret;refine RO.mk' (v:=.slice az nz bz) (L:=L1++L2++[⟨10,0,[]⟩]) (s':=s2) ?_ OZ.out CZ.out (by simp only[qg,List.length_singleton];omega) (by simp only[qg,List.length_singleton];omega);rw[←hm.out];simp[dEx,Q1.out,Q2.out,if_true]
theorem exB13 {W:World} {d k n C ca cb:Nat} {pa pb:Option Addr} {ev:Ev} {F:DS→Nat→List Po×DS} {m:List Po×DS} {v3 v4 v5 v6 v8:Value} {r:List Value} (hr:r.length=139) (C0:Hid (Cu B g w W bs D s)) (X0:Hid (W.heap[w.heap.size]? =some (.cells #[.slice pa n ca,.slice pb n cb] 102))) (E0:Hid (zp C W (.slice pa n ca) (.slice pb n cb) ev)) (hd4:4 ^ d≤50000) (hd5:d≤100) (hF:Hid (ExF B g bs D C (.slice pa n ca) (.slice pb n cb) ev d F)) (hk:k=3) (hm:Hid (dEx F k s 1=m)):Code.wp Tryd.prog e3 (bodyPost Tryd.prog Tryd.f65 (RO B g w bs D m (4 ^ (d+1)))) (Fe g 1 ((d:Int)+1) v3 v4 v5 v6 (.pointer (some ⟨w.heap.size,0,none⟩)) v8 (.int .i64 (k:Int)) r) W:=by
 have ew:IntKind.i64.wrap ((d:Int)+1-1)=(d:Int):=by rw[IntKind.wrap_i64];omega
 have hpw:4 ^ (d+1)=4 ^ d*4:=Nat.pow_succ ..;subst hk;have e2:IntKind.i64.wrap (((3:Nat):Int) -2)=1:=by decide
 revert r;refine @zE 139 _ ?_
 iterate 139 (intro _)
 show Code.wp _ _ _ _ _
 conv=>arg 2;dsimp only[e3,e0,Tryd.f65,Option.getD,sR,sL,cT,cF,bk,lpo]
 conv=>arg 4;dsimp only[Fe]
 have y0:=cl0 X0.out;have y1:=cl1 X0.out;go_wp2_with fail;clear y0 y1;refine(hF.out.call 1 (by omega) C0.out E0.out).mono ?_;rintro e w1 ⟨v1,L1,s1,hx,rfl,ho,hc,hgb,hp1,hq1⟩;have Q1:=Hm hx;have O1_1:=Hm ho;have X1:=Hm (Cu.blk C0.out (qn _) X0.out hgb);have E1:=Hm (zp.cur E0.out C0.out hgb);have C1:=Hm hc;obtain⟨a1,n1,c1,rfl⟩:∃a n c,v1=.slice a n c:=by obtain⟨a,c,e,-⟩:=zj ho;exact⟨_,_,_,e⟩
 clear hx ho hc hgb X0 E0;have y0:=cl0 X1.out;have y1:=cl1 X1.out;go_wp2_with fail;clear y0 y1;refine(hF.out.call 1 (by omega) C1.out E1.out).mono ?_;rintro e w2 ⟨v2,L2,s2,hx,rfl,ho,hc,hgb,hp2,hq2⟩;have Q2:=Hm hx;have O2_2:=Hm ho;have X2:=Hm (Cu.blk C1.out (qn _) X1.out hgb);have E2:=Hm (zp.cur E1.out C1.out hgb);have O1_2:=Hm (Cu.own C1.out O1_1.out hgb);have C2:=Hm hc;obtain⟨a2,n2,c2,rfl⟩:∃a n c,v2=.slice a n c:=by obtain⟨a,c,e,-⟩:=zj ho;exact⟨_,_,_,e⟩
 clear hx ho hc hgb X1 E1;go_wp2_with fail;refine(TN (1) _ O1_2.out O2_2.out (by omega) (by omega) (by omega) (by omega)).mono ?_;rintro e wz ⟨vz,rfl,ho,hb⟩;have OZ:=Hm (ho.low (Cu.size C2.out));have CZ:=Hm (Cu.below C2.out hb);obtain⟨az,nz,bz,rfl⟩:∃a n c,vz=.slice a n c:=by obtain⟨a,c,e,-⟩:=zj ho;exact⟨_,_,_,e⟩
 clear ho hb;go_wp2;go_ret;refine RO.mk' (v:=.slice az nz bz) (L:=L1++L2++[⟨10,1,[]⟩]) (s':=s2) ?_ OZ.out CZ.out (by simp only[qg,List.length_singleton];omega) (by simp only[qg,List.length_singleton];omega);rw[←hm.out];simp[dEx,Q1.out,Q2.out,if_true]
theorem exB14 {W:World} {d k n C ca cb:Nat} {pa pb:Option Addr} {ev:Ev} {F:DS→Nat→List Po×DS} {m:List Po×DS} {v3 v4 v5 v6 v8:Value} {r:List Value} (hr:r.length=139) (C0:Hid (Cu B g w W bs D s)) (X0:Hid (W.heap[w.heap.size]? =some (.cells #[.slice pa n ca,.slice pb n cb] 102))) (E0:Hid (zp C W (.slice pa n ca) (.slice pb n cb) ev)) (hd4:4 ^ d≤50000) (hd5:d≤100) (hF:Hid (ExF B g bs D C (.slice pa n ca) (.slice pb n cb) ev d F)) (hk:4≤k) (hk9:k<10) (hm:Hid (dEx F k s 1=m)):Code.wp Tryd.prog e3 (bodyPost Tryd.prog Tryd.f65 (RO B g w bs D m (4 ^ (d+1)))) (Fe g 1 ((d:Int)+1) v3 v4 v5 v6 (.pointer (some ⟨w.heap.size,0,none⟩)) v8 (.int .i64 (k:Int)) r) W:=by
 have ew:IntKind.i64.wrap ((d:Int)+1-1)=(d:Int):=by rw[IntKind.wrap_i64];omega
 have hpw:4 ^ (d+1)=4 ^ d*4:=Nat.pow_succ ..;have kk0:((k:Int)==0)=false:=by simp;omega
 have kk1:((k:Int)==1)=false:=by simp;omega
 have kk2:((k:Int)==2)=false:=by simp;omega
 have kk3:((k:Int)==3)=false:=by simp;omega
 have hk0:¬k=0:=by omega
 have hk1:¬k=1:=by omega
 have hk2:¬k=2:=by omega
 have hk3:¬k=3:=by omega
 have e2:Int.tmod (k:Int) 3=((k % 3:Nat):Int):=by rw[Int.tmod_eq_emod_of_nonneg (by omega)];simp
 obtain⟨q,hq⟩:∃q,q=k % 3:=⟨_,rfl⟩;have HQ:=Hm hq;rw[←hq]at e2;clear hq;revert r;refine @zE 139 _ ?_
 iterate 139 (intro _)
 show Code.wp _ _ _ _ _
 conv=>arg 2;dsimp only[e3,e0,Tryd.f65,Option.getD,sR,sL,cT,cF,bk,lpo]
 conv=>arg 4;dsimp only[Fe]
 have y0:=cl0 X0.out;have y1:=cl1 X0.out;go_wp2_with fail;clear y0 y1;refine(hF.out.call 1 (by omega) C0.out E0.out).mono ?_;rintro e w1 ⟨v1,L1,s1,hx,rfl,ho,hc,hgb,hp1,hq1⟩;have Q1:=Hm hx;have O1_1:=Hm ho;have X1:=Hm (Cu.blk C0.out (qn _) X0.out hgb);have E1:=Hm (zp.cur E0.out C0.out hgb);have C1:=Hm hc;obtain⟨a1,n1,c1,rfl⟩:∃a n c,v1=.slice a n c:=by obtain⟨a,c,e,-⟩:=zj ho;exact⟨_,_,_,e⟩
 clear hx ho hc hgb X0 E0;have y0:=cl0 X1.out;have y1:=cl1 X1.out;go_wp2_with fail;clear y0 y1;refine(hF.out.call 1 (by omega) C1.out E1.out).mono ?_;rintro e w2 ⟨v2,L2,s2,hx,rfl,ho,hc,hgb,hp2,hq2⟩;have Q2:=Hm hx;have O2_2:=Hm ho;have X2:=Hm (Cu.blk C1.out (qn _) X1.out hgb);have E2:=Hm (zp.cur E1.out C1.out hgb);have O1_2:=Hm (Cu.own C1.out O1_1.out hgb);have C2:=Hm hc;obtain⟨a2,n2,c2,rfl⟩:∃a n c,v2=.slice a n c:=by obtain⟨a,c,e,-⟩:=zj ho;exact⟨_,_,_,e⟩
 clear hx ho hc hgb X1 E1;go_wp2_with fail;refine(Zv ((q:Int)) _ O1_2.out O2_2.out (by omega) (by omega) (by omega) (by omega)).mono ?_;rintro e wz ⟨vz,rfl,ho,hb⟩;have OZ:=Hm (ho.low (Cu.size C2.out));have CZ:=Hm (Cu.below C2.out hb);obtain⟨az,nz,bz,rfl⟩:∃a n c,vz=.slice a n c:=by obtain⟨a,c,e,-⟩:=zj ho;exact⟨_,_,_,e⟩
 clear ho hb;go_wp2;go_ret;refine RO.mk' (v:=.slice az nz bz) (L:=L1++L2++[⟨9,(q:Int),[]⟩]) (s':=s2) ?_ OZ.out CZ.out (by simp only[qg,List.length_singleton];omega) (by simp only[qg,List.length_singleton];omega);rw[←hm.out];simp[dEx,Q1.out,Q2.out,hk0,hk1,hk2,hk3,HQ.out]
theorem exB21 {W:World} {d k n C ca cb:Nat} {pa pb:Option Addr} {ev:Ev} {F:DS→Nat→List Po×DS} {m:List Po×DS} {v3 v4 v5 v6 v8:Value} {r:List Value} (hr:r.length=139) (C0:Hid (Cu B g w W bs D s)) (X0:Hid (W.heap[w.heap.size]? =some (.cells #[.slice pa n ca,.slice pb n cb] 102))) (E0:Hid (zp C W (.slice pa n ca) (.slice pb n cb) ev)) (hd4:4 ^ d≤50000) (hd5:d≤100) (hF:Hid (ExF B g bs D C (.slice pa n ca) (.slice pb n cb) ev d F)) (hk:k=1) (hm:Hid (dEx F k s 2=m)):Code.wp Tryd.prog e3 (bodyPost Tryd.prog Tryd.f65 (RO B g w bs D m (4 ^ (d+1)))) (Fe g 2 ((d:Int)+1) v3 v4 v5 v6 (.pointer (some ⟨w.heap.size,0,none⟩)) v8 (.int .i64 (k:Int)) r) W:=by
 have ew:IntKind.i64.wrap ((d:Int)+1-1)=(d:Int):=by rw[IntKind.wrap_i64];omega
 have hpw:4 ^ (d+1)=4 ^ d*4:=Nat.pow_succ ..;subst hk;revert r;refine @zE 139 _ ?_
 iterate 139 (intro _)
 show Code.wp _ _ _ _ _
 conv=>arg 2;dsimp only[e3,e0,Tryd.f65,Option.getD,sR,sL,cT,cF,bk,lpo]
 conv=>arg 4;dsimp only[Fe]
 have y0:=cl0 X0.out;have y1:=cl1 X0.out;go_wp2_with fail;clear y0 y1;refine(hF.out.call 2 (by omega) C0.out E0.out).mono ?_;rintro e w1 ⟨v1,L1,s1,hx,rfl,ho,hc,hgb,hp1,hq1⟩;have Q1:=Hm hx;have O1_1:=Hm ho;have X1:=Hm (Cu.blk C0.out (qn _) X0.out hgb);have E1:=Hm (zp.cur E0.out C0.out hgb);have C1:=Hm hc;obtain⟨a1,n1,c1,rfl⟩:∃a n c,v1=.slice a n c:=by obtain⟨a,c,e,-⟩:=zj ho;exact⟨_,_,_,e⟩
 clear hx ho hc hgb X0 E0;go_wp2_with fail;refine(unD (8) _ O1_1.out (by omega) (by omega)).mono ?_;rintro e wz ⟨vz,rfl,ho,hb⟩;have OZ:=Hm (ho.low (Cu.size C1.out));have CZ:=Hm (Cu.below C1.out hb);obtain⟨az,nz,bz,rfl⟩:∃a n c,vz=.slice a n c:=by obtain⟨a,c,e,-⟩:=zj ho;exact⟨_,_,_,e⟩
 clear ho hb;go_wp2;go_ret;refine RO.mk' (v:=.slice az nz bz) (L:=L1++[⟨8,0,[]⟩]) (s':=s1) ?_ OZ.out CZ.out (by simp only[qg,List.length_singleton];omega) (by simp only[qg,List.length_singleton];omega);rw[←hm.out];simp[dEx,Q1.out,if_true]
theorem exB22 {W:World} {d k n C ca cb:Nat} {pa pb:Option Addr} {ev:Ev} {F:DS→Nat→List Po×DS} {m:List Po×DS} {v3 v4 v5 v6 v8:Value} {r:List Value} (hr:r.length=139) (C0:Hid (Cu B g w W bs D s)) (X0:Hid (W.heap[w.heap.size]? =some (.cells #[.slice pa n ca,.slice pb n cb] 102))) (E0:Hid (zp C W (.slice pa n ca) (.slice pb n cb) ev)) (hd4:4 ^ d≤50000) (hd5:d≤100) (hF:Hid (ExF B g bs D C (.slice pa n ca) (.slice pb n cb) ev d F)) (hk:k=2) (hm:Hid (dEx F k s 2=m)):Code.wp Tryd.prog e3 (bodyPost Tryd.prog Tryd.f65 (RO B g w bs D m (4 ^ (d+1)))) (Fe g 2 ((d:Int)+1) v3 v4 v5 v6 (.pointer (some ⟨w.heap.size,0,none⟩)) v8 (.int .i64 (k:Int)) r) W:=by
 have ew:IntKind.i64.wrap ((d:Int)+1-1)=(d:Int):=by rw[IntKind.wrap_i64];omega
 have hpw:4 ^ (d+1)=4 ^ d*4:=Nat.pow_succ ..;subst hk;revert r;refine @zE 139 _ ?_
 iterate 139 (intro _)
 show Code.wp _ _ _ _ _
 conv=>arg 2;dsimp only[e3,e0,Tryd.f65,Option.getD,sR,sL,cT,cF,bk,lpo]
 conv=>arg 4;dsimp only[Fe]
 have y0:=cl0 X0.out;have y1:=cl1 X0.out;go_wp2_with fail;clear y0 y1;refine(hF.out.call 2 (by omega) C0.out E0.out).mono ?_;rintro e w1 ⟨v1,L1,s1,hx,rfl,ho,hc,hgb,hp1,hq1⟩;have Q1:=Hm hx;have O1_1:=Hm ho;have X1:=Hm (Cu.blk C0.out (qn _) X0.out hgb);have E1:=Hm (zp.cur E0.out C0.out hgb);have C1:=Hm hc;obtain⟨a1,n1,c1,rfl⟩:∃a n c,v1=.slice a n c:=by obtain⟨a,c,e,-⟩:=zj ho;exact⟨_,_,_,e⟩
 clear hx ho hc hgb X0 E0;have y0:=cl0 X1.out;have y1:=cl1 X1.out;go_wp2_with fail;clear y0 y1;refine(hF.out.call 2 (by omega) C1.out E1.out).mono ?_;rintro e w2 ⟨v2,L2,s2,hx,rfl,ho,hc,hgb,hp2,hq2⟩;have Q2:=Hm hx;have O2_2:=Hm ho;have X2:=Hm (Cu.blk C1.out (qn _) X1.out hgb);have E2:=Hm (zp.cur E1.out C1.out hgb);have O1_2:=Hm (Cu.own C1.out O1_1.out hgb);have C2:=Hm hc;obtain⟨a2,n2,c2,rfl⟩:∃a n c,v2=.slice a n c:=by obtain⟨a,c,e,-⟩:=zj ho;exact⟨_,_,_,e⟩
 clear hx ho hc hgb X1 E1;go_wp2_with fail;refine(Zv (5) _ O1_2.out O2_2.out (by omega) (by omega) (by omega) (by omega)).mono ?_;rintro e wz ⟨vz,rfl,ho,hb⟩;have OZ:=Hm (ho.low (Cu.size C2.out));have CZ:=Hm (Cu.below C2.out hb);obtain⟨az,nz,bz,rfl⟩:∃a n c,vz=.slice a n c:=by obtain⟨a,c,e,-⟩:=zj ho;exact⟨_,_,_,e⟩
 clear ho hb;go_wp2;go_ret;refine RO.mk' (v:=.slice az nz bz) (L:=L1++L2++[⟨9,5,[]⟩]) (s':=s2) ?_ OZ.out CZ.out (by simp only[qg,List.length_singleton];omega) (by simp only[qg,List.length_singleton];omega);rw[←hm.out];simp[dEx,Q1.out,Q2.out,if_true]
theorem exB23 {W:World} {d k n C ca cb:Nat} {pa pb:Option Addr} {ev:Ev} {F:DS→Nat→List Po×DS} {m:List Po×DS} {v3 v4 v5 v6 v8:Value} {r:List Value} (hr:r.length=139) (C0:Hid (Cu B g w W bs D s)) (X0:Hid (W.heap[w.heap.size]? =some (.cells #[.slice pa n ca,.slice pb n cb] 102))) (E0:Hid (zp C W (.slice pa n ca) (.slice pb n cb) ev)) (hd4:4 ^ d≤50000) (hd5:d≤100) (hF:Hid (ExF B g bs D C (.slice pa n ca) (.slice pb n cb) ev d F)) (hk:3≤k) (hk6:k<6) (hm:Hid (dEx F k s 2=m)):Code.wp Tryd.prog e3 (bodyPost Tryd.prog Tryd.f65 (RO B g w bs D m (4 ^ (d+1)))) (Fe g 2 ((d:Int)+1) v3 v4 v5 v6 (.pointer (some ⟨w.heap.size,0,none⟩)) v8 (.int .i64 (k:Int)) r) W:=by
 have ew:IntKind.i64.wrap ((d:Int)+1-1)=(d:Int):=by rw[IntKind.wrap_i64];omega
 have hpw:4 ^ (d+1)=4 ^ d*4:=Nat.pow_succ ..;have kk0:((k:Int)==0)=false:=by simp;omega
 have kk1:((k:Int)==1)=false:=by simp;omega
 have kk2:((k:Int)==2)=false:=by simp;omega
 have kl6:(k:Int)<6:=by omega
 have hk0:¬k=0:=by omega
 have hk1:¬k=1:=by omega
 have hk2:¬k=2:=by omega
 have e2:Int.tmod (k:Int) 2=((k % 2:Nat):Int):=by rw[Int.tmod_eq_emod_of_nonneg (by omega)];simp
 obtain⟨q,hq⟩:∃q,q=k % 2:=⟨_,rfl⟩;have HQ:=Hm hq;have hql:q<2:=by omega
 rw[←hq]at e2;clear hq;have e5:IntKind.i64.wrap (6+(q:Int))=6+(q:Int):=by rw[IntKind.wrap_i64];omega
 revert r;refine @zE 139 _ ?_
 iterate 139 (intro _)
 show Code.wp _ _ _ _ _
 conv=>arg 2;dsimp only[e3,e0,Tryd.f65,Option.getD,sR,sL,cT,cF,bk,lpo]
 conv=>arg 4;dsimp only[Fe]
 have y0:=cl0 X0.out;have y1:=cl1 X0.out;go_wp2_with fail;clear y0 y1;refine(hF.out.call 2 (by omega) C0.out E0.out).mono ?_;rintro e w1 ⟨v1,L1,s1,hx,rfl,ho,hc,hgb,hp1,hq1⟩;have Q1:=Hm hx;have O1_1:=Hm ho;have X1:=Hm (Cu.blk C0.out (qn _) X0.out hgb);have E1:=Hm (zp.cur E0.out C0.out hgb);have C1:=Hm hc;obtain⟨a1,n1,c1,rfl⟩:∃a n c,v1=.slice a n c:=by obtain⟨a,c,e,-⟩:=zj ho;exact⟨_,_,_,e⟩
 clear hx ho hc hgb X0 E0;have y0:=cl0 X1.out;have y1:=cl1 X1.out;go_wp2_with fail;clear y0 y1;refine(hF.out.call 2 (by omega) C1.out E1.out).mono ?_;rintro e w2 ⟨v2,L2,s2,hx,rfl,ho,hc,hgb,hp2,hq2⟩;have Q2:=Hm hx;have O2_2:=Hm ho;have X2:=Hm (Cu.blk C1.out (qn _) X1.out hgb);have E2:=Hm (zp.cur E1.out C1.out hgb);have O1_2:=Hm (Cu.own C1.out O1_1.out hgb);have C2:=Hm hc;obtain⟨a2,n2,c2,rfl⟩:∃a n c,v2=.slice a n c:=by obtain⟨a,c,e,-⟩:=zj ho;exact⟨_,_,_,e⟩
 clear hx ho hc hgb X1 E1;go_wp2_with fail;refine(Zv (6+(q:Int)) _ O1_2.out O2_2.out (by omega) (by omega) (by omega) (by omega)).mono ?_;rintro e wz ⟨vz,rfl,ho,hb⟩;have OZ:=Hm (ho.low (Cu.size C2.out));have CZ:=Hm (Cu.below C2.out hb);obtain⟨az,nz,bz,rfl⟩:∃a n c,vz=.slice a n c:=by obtain⟨a,c,e,-⟩:=zj ho;exact⟨_,_,_,e⟩
 clear ho hb;go_wp2;go_ret;refine RO.mk' (v:=.slice az nz bz) (L:=L1++L2++[⟨9,6+(q:Int),[]⟩]) (s':=s2) ?_ OZ.out CZ.out (by simp only[qg,List.length_singleton];omega) (by simp only[qg,List.length_singleton];omega);rw[←hm.out];simp[dEx,Q1.out,Q2.out,hk0,hk1,hk2,hk6,HQ.out]
theorem exB26 {W:World} {d k n C ca cb:Nat} {pa pb:Option Addr} {ev:Ev} {F:DS→Nat→List Po×DS} {m:List Po×DS} {v3 v4 v5 v6 v8:Value} {r:List Value} (hr:r.length=139) (C0:Hid (Cu B g w W bs D s)) (X0:Hid (W.heap[w.heap.size]? =some (.cells #[.slice pa n ca,.slice pb n cb] 102))) (E0:Hid (zp C W (.slice pa n ca) (.slice pb n cb) ev)) (hd4:4 ^ d≤50000) (hd5:d≤100) (hF:Hid (ExF B g bs D C (.slice pa n ca) (.slice pb n cb) ev d F)) (hk:6≤k) (hk9:k<10) (hm:Hid (dEx F k s 2=m)):Code.wp Tryd.prog e3 (bodyPost Tryd.prog Tryd.f65 (RO B g w bs D m (4 ^ (d+1)))) (Fe g 2 ((d:Int)+1) v3 v4 v5 v6 (.pointer (some ⟨w.heap.size,0,none⟩)) v8 (.int .i64 (k:Int)) r) W:=by
 have ew:IntKind.i64.wrap ((d:Int)+1-1)=(d:Int):=by rw[IntKind.wrap_i64];omega
 have hpw:4 ^ (d+1)=4 ^ d*4:=Nat.pow_succ ..;have kk0:((k:Int)==0)=false:=by simp;omega
 have kk1:((k:Int)==1)=false:=by simp;omega
 have kk2:((k:Int)==2)=false:=by simp;omega
 have kl6:decide ((k:Int)<6)=false:=by simp;omega
 have hk6:¬k<6:=by omega
 have hk0:¬k=0:=by omega
 have hk1:¬k=1:=by omega
 have hk2:¬k=2:=by omega
 have e2:Int.tmod (k:Int) 3=((k % 3:Nat):Int):=by rw[Int.tmod_eq_emod_of_nonneg (by omega)];simp
 obtain⟨q,hq⟩:∃q,q=k % 3:=⟨_,rfl⟩;have HQ:=Hm hq;have hql:q<3:=by omega
 rw[←hq]at e2;clear hq;have e5:IntKind.i64.wrap (3+(q:Int))=3+(q:Int):=by rw[IntKind.wrap_i64];omega
 revert r;refine @zE 139 _ ?_
 iterate 139 (intro _)
 show Code.wp _ _ _ _ _
 conv=>arg 2;dsimp only[e3,e0,Tryd.f65,Option.getD,sR,sL,cT,cF,bk,lpo]
 conv=>arg 4;dsimp only[Fe]
 have y0:=cl0 X0.out;have y1:=cl1 X0.out;go_wp2_with fail;clear y0 y1;refine(hF.out.call 1 (by omega) C0.out E0.out).mono ?_;rintro e w1 ⟨v1,L1,s1,hx,rfl,ho,hc,hgb,hp1,hq1⟩;have Q1:=Hm hx;have O1_1:=Hm ho;have X1:=Hm (Cu.blk C0.out (qn _) X0.out hgb);have E1:=Hm (zp.cur E0.out C0.out hgb);have C1:=Hm hc;obtain⟨a1,n1,c1,rfl⟩:∃a n c,v1=.slice a n c:=by obtain⟨a,c,e,-⟩:=zj ho;exact⟨_,_,_,e⟩
 clear hx ho hc hgb X0 E0;have y0:=cl0 X1.out;have y1:=cl1 X1.out;go_wp2_with fail;clear y0 y1;refine(hF.out.call 1 (by omega) C1.out E1.out).mono ?_;rintro e w2 ⟨v2,L2,s2,hx,rfl,ho,hc,hgb,hp2,hq2⟩;have Q2:=Hm hx;have O2_2:=Hm ho;have X2:=Hm (Cu.blk C1.out (qn _) X1.out hgb);have E2:=Hm (zp.cur E1.out C1.out hgb);have O1_2:=Hm (Cu.own C1.out O1_1.out hgb);have C2:=Hm hc;obtain⟨a2,n2,c2,rfl⟩:∃a n c,v2=.slice a n c:=by obtain⟨a,c,e,-⟩:=zj ho;exact⟨_,_,_,e⟩
 clear hx ho hc hgb X1 E1;go_wp2_with fail;refine(Zv (3+(q:Int)) _ O1_2.out O2_2.out (by omega) (by omega) (by omega) (by omega)).mono ?_;rintro e wz ⟨vz,rfl,ho,hb⟩;have OZ:=Hm (ho.low (Cu.size C2.out));have CZ:=Hm (Cu.below C2.out hb);obtain⟨az,nz,bz,rfl⟩:∃a n c,vz=.slice a n c:=by obtain⟨a,c,e,-⟩:=zj ho;exact⟨_,_,_,e⟩
 clear ho hb;go_wp2;go_ret;refine RO.mk' (v:=.slice az nz bz) (L:=L1++L2++[⟨9,3+(q:Int),[]⟩]) (s':=s2) ?_ OZ.out CZ.out (by simp only[qg,List.length_singleton];omega) (by simp only[qg,List.length_singleton];omega);rw[←hm.out];simp[dEx,Q1.out,Q2.out,hk0,hk1,hk2,hk6,HQ.out]
end Go.Proofs.YtbdldkpifanaiaaDoor.Dq
