import Derived.Test.YtbdldkpifanaiaaDoorCr48
set_option maxHeartbeats 6400000
set_option maxRecDepth 100000
set_option linter.unusedVariables false
set_option linter.unusedSimpArgs false
open List renaming setIfInBounds_toArray → qa, set_cons_zero → qb, set_cons_succ → qc, getElem_cons_succ → qd, getElem_cons_zero → qe, getElem_toArray → qf, getElem?_toArray → qk, getElem?_cons_zero → ql, getElem?_cons_succ → qm
open Nat renaming le_trans → qo, le_of_lt → qq
namespace Go.Proofs.YtbdldkpifanaiaaDoor.Dec
open Go Go.RowKit Mem ValC Enc
attribute [local go_sem ↓] Go.wp_at_zero Go.wp_at_succ
theorem five {l:List Int} (h:5≤l.length):∃R S x y z t,l=R::S::x::y::z::t:=by
 match l,h with
 |R::S::x::y::z::t,_=>exact⟨R,S,x,y,z,t,rfl⟩
theorem yb {w:World} {a:Option Addr} {n k:Nat} {C:Nat→List Value} (h:zq w a n k C) {p:Addr} (hp:∀q,a=some q→p.block≠q.block) (v:Value):zq (w.setCell p v) a n k C:=by
 rcases h with h|⟨b,off,ha,h⟩
 ·exact Or.inl h
 ·exact Or.inr ⟨b,off,ha,fun i hi=>ZA (h i hi) (hp ⟨b,off,none⟩ ha) v⟩
theorem To (bs:List UInt8) (n:Nat) (a:Option Addr) (c:Nat) (w:World) (hn:n=bs.length) (hr:RdB w a bs) (hl:n≤1048576):
  Calls Tryd.prog 10 #[.slice a n c] w fun e w'=>DecP w w' bs e:=by
 have HR:=Hm hr;have HN:=Hm hn;clear hr hn;go_enter Tryd.func10,Tryd.ntmps10;go_wp2_with fail;obtain⟨W,hW⟩:∃W:World,W=w.alloc (.cells #[.int .i64 0,.int .i64 0,.slice none 0 0,.slice none 0 0,.slice none 0 0] 25):=⟨_,rfl⟩;rw[←hW];have BW:Hid (Below w.heap.size w W):=by unfold Hid;rw[hW];go_grown
 have A0:Hid (W.heap[w.heap.size]? =some (.cells #[.int .i64 0,.int .i64 0,.slice none 0 0,.slice none 0 0,.slice none 0 0] 25)):=by unfold Hid;rw[hW];exact zi w _
 clear hW;refine(Ua bs n a c W HN.out (HR.out.below BW.out) hl).mono ?_;rintro e w1 ⟨ok,v,l,rfl,ho,hb1,hlen,hyes,hno⟩;obtain⟨va,vc,rfl⟩:=zF ho;have O1:=Hm (ho.mono BW.out.size);have B1:=Hm (zg BW.out hb1);have A1:=Hm (ze A0.out hb1);have hsz:=B1.out.size;obtain⟨M,hM⟩:∃M,M=l.length:=⟨_,rfl⟩;rw[←hM]at hlen O1 ⊢;have HM:=Hm hM;clear ho hb1 BW A0 hM HR
 cases ok with
 |false=>
  have hz:=Hm (yT (Wk (hno rfl)));clear hyes hno;have g0:=za A1.out 0;have g1:=za A1.out 1;have g2:=za A1.out 2;have g3:=za A1.out 3;have g4:=za A1.out 4;have h0:=zb A1.out 0;have h1:=zb A1.out 1;have h2:=zb A1.out 2;have h3:=zb A1.out 3;have h4:=zb A1.out 4;simp only[qk,ql,qm]at g0 g1 g2 g3 g4;go_wp2;obtain⟨Z,hZ,RZ,QZ,-⟩:=put5 A1.out (.int .i64 0) (.int .i64 0) (.slice none 0 0) (.slice none 0 0) (.slice none 0 0);rw[hZ];have z0:=za RZ 0;have z1:=za RZ 1;have z2:=za RZ 2;have z3:=za RZ 3;have z4:=za RZ 4;simp only[qk,ql,qm]at z0 z1 z2 z3 z4
  refine bodyPost_ret (v:=.agg #[.int .i64 0,.int .i64 0,.slice none 0 0,.slice none 0 0,.slice none 0 0]) (by simp[results,Tryd.results10,go_sem,z0,z1,z2,z3,z4];try rfl) rfl ?_;exact DecP.zero hz.out rfl (B1.out.trans QZ)
 |true=>
  have hnu:=Hm (hyes rfl);clear hyes hno;by_cases h5:M<5
  ·have hz:=Hm (yT (Vf hnu.out (by rw[←HM.out];exact h5)))
   have h5':(M:Int)<5:=by omega
   have g0:=za A1.out 0;have g1:=za A1.out 1;have g2:=za A1.out 2;have g3:=za A1.out 3;have g4:=za A1.out 4;have h0:=zb A1.out 0;have h1:=zb A1.out 1;have h2:=zb A1.out 2;have h3:=zb A1.out 3;have h4:=zb A1.out 4;simp only[qk,ql,qm]at g0 g1 g2 g3 g4;go_wp2;obtain⟨Z,hZ,RZ,QZ,-⟩:=put5 A1.out (.int .i64 0) (.int .i64 0) (.slice none 0 0) (.slice none 0 0) (.slice none 0 0);rw[hZ];have z0:=za RZ 0;have z1:=za RZ 1;have z2:=za RZ 2;have z3:=za RZ 3;have z4:=za RZ 4;simp only[qk,ql,qm]at z0 z1 z2 z3 z4
   refine bodyPost_ret (v:=.agg #[.int .i64 0,.int .i64 0,.slice none 0 0,.slice none 0 0,.slice none 0 0]) (by simp[results,Tryd.results10,go_sem,z0,z1,z2,z3,z4];try rfl) rfl ?_;exact DecP.zero hz.out rfl (B1.out.trans QZ)
  have h5':decide ((M:Int)<5)=false:=by simp;omega
  obtain⟨R,S,x,y,z,t,hl5⟩:=five (l:=l) (by rw[←HM.out];omega);obtain⟨g,cap',hva⟩:=Joins.ownsRow_form O1.out (by omega);injection hva with hva _ hcc;subst hva;subst hcc
  have hcap:Hid (M≤vc):=by
   rcases O1.out.2 with⟨e,-⟩|⟨g',cap,cur,e,-,-,h4,-⟩
   ·cases e
   ·injection e with _ _ e;rw[e];exact h4
  have HC:Hid (∀j u,(ints l)[j]? =some u→w1.cell? ⟨g,j,none⟩=some u):=fun j u hu=>xb O1.out j u hu
  have glt:Hid (w.heap.size≤g∧g<w1.heap.size):=O1.out.lt g rfl;have e0:=HC.out 0 (.int .i64 R) (by rw[hl5];rfl);have e1:=HC.out 1 (.int .i64 S) (by rw[hl5];rfl);have e2:=HC.out 2 (.int .i64 x) (by rw[hl5];rfl);have e3:=HC.out 3 (.int .i64 y) (by rw[hl5];rfl);have e4:=HC.out 4 (.int .i64 z) (by rw[hl5];rfl);have m2:(2:Int)<(M:Int):=by omega
  have m3:(3:Int)<(M:Int):=by omega
  have m4:(4:Int)<(M:Int):=by omega
  have htl:M=t.length+5:=by rw[HM.out,hl5];simp
  have HL5:=Hm hl5;rw[hl5]at hnu;clear hl5;by_cases hxB:inB x 0 16384=true;rotate_left
  ·have hz:=Hm (yT (Zz hnu.out (fun h=>hxB h.1)))
   have hxB':inB x 0 16384=false:=by simpa using hxB
   have g0:=za A1.out 0;have g1:=za A1.out 1;have g2:=za A1.out 2;have g3:=za A1.out 3;have g4:=za A1.out 4;have h0:=zb A1.out 0;have h1:=zb A1.out 1;have h2:=zb A1.out 2;have h3:=zb A1.out 3;have h4:=zb A1.out 4;simp only[qk,ql,qm]at g0 g1 g2 g3 g4;go_wp2_with (go_at_call 14;refine(Up _ _).mono ?_;rintro e w' ⟨rfl,hw⟩;rw[hw];clear hw);obtain⟨Z,hZ,RZ,QZ,-⟩:=put5 A1.out (.int .i64 0) (.int .i64 0) (.slice none 0 0) (.slice none 0 0) (.slice none 0 0);rw[hZ];have z0:=za RZ 0;have z1:=za RZ 1;have z2:=za RZ 2;have z3:=za RZ 3;have z4:=za RZ 4;simp only[qk,ql,qm]at z0 z1 z2 z3 z4
   refine bodyPost_ret (v:=.agg #[.int .i64 0,.int .i64 0,.slice none 0 0,.slice none 0 0,.slice none 0 0]) (by simp[results,Tryd.results10,go_sem,z0,z1,z2,z3,z4];try rfl) rfl ?_;exact DecP.zero hz.out rfl (B1.out.trans QZ)
  by_cases hyB:inB y 0 16384=true;rotate_left
  ·have hz:=Hm (yT (Zz hnu.out (fun h=>hyB h.2.1)))
   have hyB':inB y 0 16384=false:=by simpa using hyB
   have g0:=za A1.out 0;have g1:=za A1.out 1;have g2:=za A1.out 2;have g3:=za A1.out 3;have g4:=za A1.out 4;have h0:=zb A1.out 0;have h1:=zb A1.out 1;have h2:=zb A1.out 2;have h3:=zb A1.out 3;have h4:=zb A1.out 4;simp only[qk,ql,qm]at g0 g1 g2 g3 g4;go_wp2_with (go_at_call 14;refine(Up _ _).mono ?_;rintro e w' ⟨rfl,hw⟩;rw[hw];clear hw);obtain⟨Z,hZ,RZ,QZ,-⟩:=put5 A1.out (.int .i64 0) (.int .i64 0) (.slice none 0 0) (.slice none 0 0) (.slice none 0 0);rw[hZ];have z0:=za RZ 0;have z1:=za RZ 1;have z2:=za RZ 2;have z3:=za RZ 3;have z4:=za RZ 4;simp only[qk,ql,qm]at z0 z1 z2 z3 z4
   refine bodyPost_ret (v:=.agg #[.int .i64 0,.int .i64 0,.slice none 0 0,.slice none 0 0,.slice none 0 0]) (by simp[results,Tryd.results10,go_sem,z0,z1,z2,z3,z4];try rfl) rfl ?_;exact DecP.zero hz.out rfl (B1.out.trans QZ)
  by_cases hzB:inB z 0 16384=true;rotate_left
  ·have hz:=Hm (yT (Zz hnu.out (fun h=>hzB h.2.2.1)))
   have hzB':inB z 0 16384=false:=by simpa using hzB
   have g0:=za A1.out 0;have g1:=za A1.out 1;have g2:=za A1.out 2;have g3:=za A1.out 3;have g4:=za A1.out 4;have h0:=zb A1.out 0;have h1:=zb A1.out 1;have h2:=zb A1.out 2;have h3:=zb A1.out 3;have h4:=zb A1.out 4;simp only[qk,ql,qm]at g0 g1 g2 g3 g4;go_wp2_with (go_at_call 14;refine(Up _ _).mono ?_;rintro e w' ⟨rfl,hw⟩;rw[hw];clear hw);obtain⟨Z,hZ,RZ,QZ,-⟩:=put5 A1.out (.int .i64 0) (.int .i64 0) (.slice none 0 0) (.slice none 0 0) (.slice none 0 0);rw[hZ];have z0:=za RZ 0;have z1:=za RZ 1;have z2:=za RZ 2;have z3:=za RZ 3;have z4:=za RZ 4;simp only[qk,ql,qm]at z0 z1 z2 z3 z4
   refine bodyPost_ret (v:=.agg #[.int .i64 0,.int .i64 0,.slice none 0 0,.slice none 0 0,.slice none 0 0]) (by simp[results,Tryd.results10,go_sem,z0,z1,z2,z3,z4];try rfl) rfl ?_;exact DecP.zero hz.out rfl (B1.out.trans QZ)
  obtain⟨X,rfl⟩:∃X:Nat,x=(X:Int):=⟨x.toNat,by simp[inB]at hxB;omega⟩;obtain⟨Y,rfl⟩:∃Y:Nat,y=(Y:Int):=⟨y.toNat,by simp[inB]at hyB;omega⟩;obtain⟨Z0,rfl⟩:∃Z0:Nat,z=(Z0:Int):=⟨z.toNat,by simp[inB]at hzB;omega⟩;have hX:X≤16384:=by simp[inB]at hxB;omega
  have hY:Y≤16384:=by simp[inB]at hyB;omega
  have hZ0:Z0≤16384:=by simp[inB]at hzB;omega
  by_cases hq:M=5+4*(X+Y+Z0);rotate_left
  ·have hz:=Hm (yT (Zz hnu.out (fun h=>by have:=h.2.2.2;omega)))
   have hq':((M:Int)==5+4*((X:Int)+(Y:Int)+(Z0:Int)))=false:=by simp;omega
   have hq2:¬(M:Int)=5+4*((X:Int)+(Y:Int)+(Z0:Int)):=by omega
   have g0:=za A1.out 0;have g1:=za A1.out 1;have g2:=za A1.out 2;have g3:=za A1.out 3;have g4:=za A1.out 4;have h0:=zb A1.out 0;have h1:=zb A1.out 1;have h2:=zb A1.out 2;have h3:=zb A1.out 3;have h4:=zb A1.out 4;simp only[qk,ql,qm]at g0 g1 g2 g3 g4;go_wp2_with (go_at_call 14;refine(Up _ _).mono ?_;rintro e w' ⟨rfl,hw⟩;rw[hw];clear hw);obtain⟨Z,hZ,RZ,QZ,-⟩:=put5 A1.out (.int .i64 0) (.int .i64 0) (.slice none 0 0) (.slice none 0 0) (.slice none 0 0);rw[hZ];have z0:=za RZ 0;have z1:=za RZ 1;have z2:=za RZ 2;have z3:=za RZ 3;have z4:=za RZ 4;simp only[qk,ql,qm]at z0 z1 z2 z3 z4
   refine bodyPost_ret (v:=.agg #[.int .i64 0,.int .i64 0,.slice none 0 0,.slice none 0 0,.slice none 0 0]) (by simp[results,Tryd.results10,go_sem,z0,z1,z2,z3,z4];try rfl) rfl ?_;exact DecP.zero hz.out rfl (B1.out.trans QZ)
  have hq':((M:Int)==5+4*((X:Int)+(Y:Int)+(Z0:Int)))=true:=by simp;omega
  have htl2:t.length=4*(X+Y+Z0):=by omega
  obtain⟨L1,L2,L3,a1,a2,a3,ht,hsh⟩:=Ve hnu.out hX hY hZ0 htl2;have SH:=Hm hsh;have S1:Hid (zq w1 (some ⟨g,5,none⟩) L1.length 4 (fun i=>(L1.getD i ⟨0,0,0,0⟩).cells)):=ZN (pre:=[R,S,(X:Int),(Y:Int),(Z0:Int)]) (post:=zO L2++zO L3) HC.out (by rw[HL5.out,ht];simp) rfl;have S2:Hid (zq w1 (some ⟨g,5+4*X,none⟩) L2.length 4 (fun i=>(L2.getD i ⟨0,0,0,0⟩).cells)):=ZN (pre:=[R,S,(X:Int),(Y:Int),(Z0:Int)]++zO L1) (post:=zO L3) HC.out (by rw[HL5.out,ht];simp) (by simp[yh,a1];omega)
  have S3:Hid (zq w1 (some ⟨g,5+4*(X+Y),none⟩) L3.length 4 (fun i=>(L3.getD i ⟨0,0,0,0⟩).cells)):=ZN (pre:=[R,S,(X:Int),(Y:Int),(Z0:Int)]++(zO L1++zO L2)) (post:=[]) HC.out (by rw[HL5.out,ht];simp) (by simp[yh,a1,a2];omega);have hvc:M≤vc:=hcap.out
  have hvb:vc≤9223372036854775807:=by
   rcases O1.out.2 with⟨e,-⟩|⟨g',cap,cur,e,-,-,-,h5,-⟩
   ·cases e
   ·injection e with _ _ e;rw[e];unfold maxLen at h5;omega
  have m0:(0:Int)<(M:Int):=by omega
  have m1:(1:Int)<(M:Int):=by omega
  clear hsh ht;have n0:(0:Int)<4*((X:Int)+(Y:Int)+(Z0:Int))+5:=by omega
  have n1:(1:Int)<4*((X:Int)+(Y:Int)+(Z0:Int))+5:=by omega
  go_wp2_with (go_at_call 14;refine(Up _ _).mono ?_;rintro e w' ⟨rfl,hw⟩;rw[hw];clear hw);refine wp_region_held_drew (S:=(fun w'=>w'.cell? ⟨g,0,none⟩=some (.int .i64 R)∧w'.cell? ⟨g,1,none⟩=some (.int .i64 S))) (by kernel_rfl) ?_ (fun hHeld=>?_)
  ·go_keep
  refine tK 0 ?_ rfl (by kernel_rfl) (fun _ _ _ h=>h) (by rfl) ?_ (by assumption) ?_;rotate_left
  ·intro w hSw;(try dsimp only at hSw);go_simp;(try with_reducible rfl)
  rotate_left;simp only[Act.put,qa,qb,qc,qf,qe,qd];refine tK 1 ?_ rfl (by kernel_rfl) (fun _ _ _ h=>h) (by rfl) ?_ (by assumption) ?_;rotate_left
  ·intro w hSw;(try dsimp only at hSw);go_simp;(try with_reducible rfl)
  rotate_left;simp only[Act.put,qa,qb,qc,qf,qe,qd];refine tK 2 ?_ rfl (by kernel_rfl) (fun _ _ _ h=>h) (by rfl) ?_ (by assumption) ?_;rotate_left
  ·intro w hSw;(try dsimp only at hSw);go_simp;(try with_reducible rfl)
  rotate_left;simp only[Act.put,qa,qb,qc,qf,qe,qd];refine tK 3 ?_ rfl (by kernel_rfl) (fun _ _ _ h=>h) (by rfl) ?_ (by assumption) ?_;rotate_left
  ·intro w hSw;(try dsimp only at hSw);go_simp;(try with_reducible rfl)
  rotate_left;simp only[Act.put,qa,qb,qc,qf,qe,qd];refine tK 4 ?_ rfl (by kernel_rfl) (fun _ _ _ h=>h) (by rfl) ?_ (by assumption) ?_;rotate_left
  ·intro w hSw;(try dsimp only at hSw);go_simp;(try with_reducible rfl)
  rotate_left;simp only[Act.put,qa,qb,qc,qf,qe,qd];refine tK 5 ?_ rfl (by kernel_rfl) (fun _ _ _ h=>h) (by rfl) ?_ (by assumption) ?_;rotate_left
  ·intro w hSw;(try dsimp only at hSw);go_simp;(try with_reducible rfl)
  rotate_left;simp only[Act.put,qa,qb,qc,qf,qe,qd];refine tK 6 ?_ rfl (by kernel_rfl) (fun _ _ _ h=>h) (by rfl) ?_ (by assumption) ?_;rotate_left
  ·intro w hSw;(try dsimp only at hSw);go_simp;(try with_reducible rfl)
  rotate_left;simp only[Act.put,qa,qb,qc,qf,qe,qd];refine wpAnyH_ready (rs:=[7]) (by kernel_rfl) (by simp) ?_;refine AllReadyH.cons rfl (fun K hK=>?_) ?_
  ·go_simp
   refine hK.out _ _ ?_ (fun hHeld=>?_)
   ·go_keep
   clear hK K
   (try simp only[Act.put,qa,qb,qc,qf,qe,qd])
   refine wpAnyH_ready (rs:=[8]) (by kernel_rfl) (by simp) ?_;refine AllReadyH.cons rfl (fun K hK=>?_) ?_
   ·go_simp
    refine hK.out _ _ ?_ (fun hHeld=>?_)
    ·go_keep
    clear hK K
    (try simp only[Act.put,qa,qb,qc,qf,qe,qd])
    refine wpAnyH_done (by kernel_rfl) ?_ _;obtain⟨V,hV⟩:∃V:World,V=(w1.alloc (.cells #[.int .i64 R,.int .i64 S,.slice none 0 0,.slice none 0 0,.slice none 0 0] 25)).drew:=⟨_,rfl⟩;rw[←hV];have BV0:Hid (Below w1.heap.size w1 V):=by unfold Hid;rw[hV];exact(zf (Below.refl _ _) _).drew
    have CV:Hid (V.heap[w1.heap.size]? =some (.cells #[.int .i64 R,.int .i64 S,.slice none 0 0,.slice none 0 0,.slice none 0 0] 25)):=by unfold Hid;rw[hV];exact zi w1 _
    clear hV;have BV:=Hm (zg B1.out BV0.out);have AV:=Hm (ze A1.out BV0.out);have V1:=Hm (S1.out.below BV0.out);have V2:=Hm (S2.out.below BV0.out);have V3:=Hm (S3.out.below BV0.out);have HA:=Hm (And.intro a1 (And.intro a2 a3));have z0:=zu A1.out;have hvc':5+4*(X+Y+Z0)≤vc:=by omega
    clear S1 S2 S3 a1 a2 a3 B1 A1 BV0 hHeld hq' hq e0 e1 e2 e3 e4 m0 m1 m2 m3 m4 n0 n1 h5' h5 hxB hyB hzB htl htl2;have hvs:w1.heap.size≤V.heap.size:=qq (zu CV.out);by_cases hc3:vc=5+4*(X+Y)∧Z0=0
    ·obtain⟨hc,rfl⟩:=hc3
     by_cases hc2:Y=0
     ·subst hc2
      by_cases hc1:X=0
      ·subst hc1
       subst hc;go_wp2_with fail;refine(yJ L1 _ _ _ V (by have:=HA.out;omega) (by first|exact Or.inl (by have:=HA.out;omega)|exact V1.out|(rw[show 4*X+5=5+4*X by omega];exact V1.out)|(rw[show 4*(X+Y)+5=5+4*(X+Y) by omega];exact V1.out)) (by have:=HA.out;omega)).mono ?_;rintro e b1 ⟨v,rfl,ho,hb⟩;obtain⟨s1,m1,rfl⟩:=zF ho;have B1:=Hm (zg BV.out hb);have A1:=Hm (ze AV.out hb);have C1:=Hm (ze CV.out hb);have O1:=Hm ho;have V2':=Hm (V2.out.below hb);clear V2;have V2:=V2';clear V2';have V3':=Hm (V3.out.below hb);clear V3;have V3:=V3';clear V3';have hs1:=hb.size;clear ho hb AV BV CV V1;have d0:=za C1.out 2;have d1:=zb C1.out 2;simp only[qk,ql,qm]at d0
       go_upto_region 11 with fail;clear d0 d1;obtain⟨Y1,hY⟩:∃Y:World,Y=b1.setCell ⟨w1.heap.size,2,none⟩ (.slice s1 L1.length m1):=⟨_,rfl⟩;rw[←hY];have hYs:Y1.heap.size=b1.heap.size:=by rw[hY,yt]
       have D1:Hid (Below w.heap.size w Y1):=by unfold Hid;rw[hY];exact zy B1.out _ (by show w.heap.size≤w1.heap.size;omega) _
       have F1:Hid (Y1.heap[w1.heap.size]? =some (.cells #[.int .i64 R,.int .i64 S,.slice s1 L1.length m1,.slice none 0 0,.slice none 0 0] 25)):=by unfold Hid;rw[hY];have:=zk C1.out 2 (.slice s1 L1.length m1);simpa using this
       have G1:Hid (Y1.heap[w.heap.size]? =some (.cells #[.int .i64 0,.int .i64 0,.slice none 0 0,.slice none 0 0,.slice none 0 0] 25)):=by unfold Hid;rw[hY];exact zd A1.out (by show w.heap.size≠w1.heap.size;omega) _
       have O1':Hid (Y1.ownsRow V.heap.size 60 4 (.slice s1 L1.length m1) L1.length (L1.flatMap Is.cells)):=by unfold Hid;rw[hY];exact zI O1.out C1.out (by decide)
       clear O1;have O1:=O1';clear O1';have V2':=Hm (show zq Y1 _ _ _ _ from by rw[hY];exact yb V2.out (p:=⟨w1.heap.size,2,none⟩) (by intro q hq;injection hq with hq;rw[←hq];have:=glt.out;show w1.heap.size≠g;omega) _);clear V2;have V2:=V2';clear V2';have V3':=Hm (show zq Y1 _ _ _ _ from by rw[hY];exact yb V3.out (p:=⟨w1.heap.size,2,none⟩) (by intro q hq;injection hq with hq;rw[←hq];have:=glt.out;show w1.heap.size≠g;omega) _);clear V3;have V3:=V3';clear V3';have P1:Hid (∀g,(Value.slice s1 L1.length m1).ownBlock=some g→g<Y1.heap.size):=fun g hg=>(O1.out.lt g hg).2
       clear hY A1 B1 C1;go_wp2_with fail;refine(yJ L2 _ _ _ Y1 (by have:=HA.out;omega) (by first|exact Or.inl (by have:=HA.out;omega)|exact V2.out|(rw[show 4*X+5=5+4*X by omega];exact V2.out)|(rw[show 4*(X+Y)+5=5+4*(X+Y) by omega];exact V2.out)) (by have:=HA.out;omega)).mono ?_;rintro e b2 ⟨v,rfl,ho,hb⟩;obtain⟨s2,m2,rfl⟩:=zF ho;have B2:=Hm (zg D1.out hb);have A2:=Hm (ze G1.out hb);have C2:=Hm (ze F1.out hb);have O2:=Hm ho;have O1':=Hm (ownsRow_below O1.out hb);clear O1;have O1:=O1';clear O1';have V3':=Hm (V3.out.below hb);clear V3;have V3:=V3';clear V3';have hs2:=hb.size;clear ho hb G1 D1 F1 V2;have d0:=za C2.out 3;have d1:=zb C2.out 3;simp only[qk,ql,qm]at d0
       go_upto_region 12 with fail;clear d0 d1;obtain⟨Y2,hY⟩:∃Y:World,Y=b2.setCell ⟨w1.heap.size,3,none⟩ (.slice s2 L2.length m2):=⟨_,rfl⟩;rw[←hY];have hYs:Y2.heap.size=b2.heap.size:=by rw[hY,yt]
       have D2:Hid (Below w.heap.size w Y2):=by unfold Hid;rw[hY];exact zy B2.out _ (by show w.heap.size≤w1.heap.size;omega) _
       have F2:Hid (Y2.heap[w1.heap.size]? =some (.cells #[.int .i64 R,.int .i64 S,.slice s1 L1.length m1,.slice s2 L2.length m2,.slice none 0 0] 25)):=by unfold Hid;rw[hY];have:=zk C2.out 3 (.slice s2 L2.length m2);simpa using this
       have G2:Hid (Y2.heap[w.heap.size]? =some (.cells #[.int .i64 0,.int .i64 0,.slice none 0 0,.slice none 0 0,.slice none 0 0] 25)):=by unfold Hid;rw[hY];exact zd A2.out (by show w.heap.size≠w1.heap.size;omega) _
       have O1':Hid (Y2.ownsRow V.heap.size 60 4 (.slice s1 L1.length m1) L1.length (L1.flatMap Is.cells)):=by unfold Hid;rw[hY];exact zI O1.out C2.out (by decide)
       clear O1;have O1:=O1';clear O1';have O2':Hid (Y2.ownsRow Y1.heap.size 60 4 (.slice s2 L2.length m2) L2.length (L2.flatMap Is.cells)):=by unfold Hid;rw[hY];exact zI O2.out C2.out (by decide)
       clear O2;have O2:=O2';clear O2';have V3':=Hm (show zq Y2 _ _ _ _ from by rw[hY];exact yb V3.out (p:=⟨w1.heap.size,3,none⟩) (by intro q hq;injection hq with hq;rw[←hq];have:=glt.out;show w1.heap.size≠g;omega) _);clear V3;have V3:=V3';clear V3';have P2:Hid (∀g,(Value.slice s2 L2.length m2).ownBlock=some g→g<Y2.heap.size):=fun g hg=>(O2.out.lt g hg).2
       clear hY A2 B2 C2;go_wp2_with fail;refine(yJ L3 _ _ _ Y2 (by have:=HA.out;omega) (by first|exact Or.inl (by have:=HA.out;omega)|exact V3.out|(rw[show 4*X+5=5+4*X by omega];exact V3.out)|(rw[show 4*(X+Y)+5=5+4*(X+Y) by omega];exact V3.out)) (by have:=HA.out;omega)).mono ?_;rintro e b3 ⟨v,rfl,ho,hb⟩;obtain⟨s3,m3,rfl⟩:=zF ho;have B3:=Hm (zg D2.out hb);have A3:=Hm (ze G2.out hb);have C3:=Hm (ze F2.out hb);have O3:=Hm ho;have O1':=Hm (ownsRow_below O1.out hb);clear O1;have O1:=O1';clear O1';have O2':=Hm (ownsRow_below O2.out hb);clear O2;have O2:=O2';clear O2';have hs3:=hb.size;clear ho hb G2 D2 F2 V3;have d0:=za C3.out 4;have d1:=zb C3.out 4;simp only[qk,ql,qm]at d0
       go_upto_region 13 with fail;clear d0 d1;obtain⟨Y3,hY⟩:∃Y:World,Y=b3.setCell ⟨w1.heap.size,4,none⟩ (.slice s3 L3.length m3):=⟨_,rfl⟩;rw[←hY];have hYs:Y3.heap.size=b3.heap.size:=by rw[hY,yt]
       have D3:Hid (Below w.heap.size w Y3):=by unfold Hid;rw[hY];exact zy B3.out _ (by show w.heap.size≤w1.heap.size;omega) _
       have F3:Hid (Y3.heap[w1.heap.size]? =some (.cells #[.int .i64 R,.int .i64 S,.slice s1 L1.length m1,.slice s2 L2.length m2,.slice s3 L3.length m3] 25)):=by unfold Hid;rw[hY];have:=zk C3.out 4 (.slice s3 L3.length m3);simpa using this
       have G3:Hid (Y3.heap[w.heap.size]? =some (.cells #[.int .i64 0,.int .i64 0,.slice none 0 0,.slice none 0 0,.slice none 0 0] 25)):=by unfold Hid;rw[hY];exact zd A3.out (by show w.heap.size≠w1.heap.size;omega) _
       have O1':Hid (Y3.ownsRow V.heap.size 60 4 (.slice s1 L1.length m1) L1.length (L1.flatMap Is.cells)):=by unfold Hid;rw[hY];exact zI O1.out C3.out (by decide)
       clear O1;have O1:=O1';clear O1';have O2':Hid (Y3.ownsRow Y1.heap.size 60 4 (.slice s2 L2.length m2) L2.length (L2.flatMap Is.cells)):=by unfold Hid;rw[hY];exact zI O2.out C3.out (by decide)
       clear O2;have O2:=O2';clear O2';have O3':Hid (Y3.ownsRow Y2.heap.size 60 4 (.slice s3 L3.length m3) L3.length (L3.flatMap Is.cells)):=by unfold Hid;rw[hY];exact zI O3.out C3.out (by decide)
       clear O3;have O3:=O3';clear O3';have P3:Hid (∀g,(Value.slice s3 L3.length m3).ownBlock=some g→g<Y3.heap.size):=fun g hg=>(O3.out.lt g hg).2
       clear hY A3 B3 C3;have y0:=za F3.out 0;have y1:=za F3.out 1;have y2:=za F3.out 2;have y3:=za F3.out 3;have y4:=za F3.out 4;simp only[qk,ql,qm]at y0 y1 y2 y3 y4;have hCo:Hid (Zl Y3 s1 s2 s3 (Dc.mk R S L1 L2 L3).co):=⟨zV O1.out,zV O2.out,zV O3.out⟩;have l1:L1.length≤16384:=by have:=HA.out;omega
       have l2:L2.length≤16384:=by have:=HA.out;omega
       have l3:L3.length≤16384:=by have:=HA.out;omega
       go_wp2_with fail;clear y0 y1 y2 y3 y4;refine(ValCS.validS s1 s2 s3 m1 m2 m3 (Dc.mk R S L1 L2 L3).co Y3 hCo.out (qo l1 (by omega)) (qo l2 (by omega)) (qo l3 (by omega))).mono ?_;rintro e w2 ⟨rfl,hb2⟩;have BB:=Hm (zg D3.out hb2);have AA:=Hm (ze G3.out hb2);have CC:=Hm (ze F3.out hb2);have Q1:=Hm (ownsRow_below O1.out hb2);have Q2:=Hm (ownsRow_below O2.out hb2);have Q3:=Hm (ownsRow_below O3.out hb2);clear hb2 D3 G3 F3 O1 O2 O3 hCo
       cases hv:yD (Dc.mk R S L1 L2 L3).co with
       |false=>
        have hno:=Hm (x9 SH.out hv);have g0:=za AA.out 0;have h0:=zb AA.out 0;have g1:=za AA.out 1;have h1:=zb AA.out 1;have g2:=za AA.out 2;have h2:=zb AA.out 2;have g3:=za AA.out 3;have h3:=zb AA.out 3;have g4:=za AA.out 4;have h4:=zb AA.out 4;simp only[qk,ql,qm]at g0 g1 g2 g3 g4;go_wp2;obtain⟨ZZ,hZ,RZ,QZ,-⟩:=put5 AA.out (.int .i64 0) (.int .i64 0) (.slice none 0 0) (.slice none 0 0) (.slice none 0 0);rw[hZ];have z0:=za RZ 0;have z1:=za RZ 1;have z2:=za RZ 2;have z3:=za RZ 3;have z4:=za RZ 4;simp only[qk,ql,qm]at z0 z1 z2 z3 z4
        refine bodyPost_ret (v:=.agg #[.int .i64 0,.int .i64 0,.slice none 0 0,.slice none 0 0,.slice none 0 0]) (by simp[results,Tryd.results10,go_sem,z0,z1,z2,z3,z4];try rfl) rfl ?_;exact DecP.zero hno.out rfl (BB.out.trans QZ)
       |true=>
        have hye:=Hm (yV SH.out hv);clear hv;have y0:=za CC.out 0;have g0:=za AA.out 0;have h0:=zb AA.out 0;have y1:=za CC.out 1;have g1:=za AA.out 1;have h1:=zb AA.out 1;have y2:=za CC.out 2;have g2:=za AA.out 2;have h2:=zb AA.out 2;have y3:=za CC.out 3;have g3:=za AA.out 3;have h3:=zb AA.out 3;have y4:=za CC.out 4;have g4:=za AA.out 4;have h4:=zb AA.out 4;simp only[qk,ql,qm]at g0 g1 g2 g3 g4 y0 y1 y2 y3 y4;go_wp2;obtain⟨ZZ,hZ,RZ,QZ,OZ⟩:=put5 AA.out (.int .i64 R) (.int .i64 S) (.slice s1 L1.length m1) (.slice s2 L2.length m2) (.slice s3 L3.length m3);rw[hZ];have z0:=za RZ 0;have z1:=za RZ 1;have z2:=za RZ 2;have z3:=za RZ 3
        have z4:=za RZ 4;simp only[qk,ql,qm]at z0 z1 z2 z3 z4;refine bodyPost_ret (v:=.agg #[.int .i64 R,.int .i64 S,.slice s1 L1.length m1,.slice s2 L2.length m2,.slice s3 L3.length m3]) (by simp[results,Tryd.results10,go_sem,z0,z1,z2,z3,z4];try rfl) rfl ?_;refine DecP.mk s1 s2 s3 m1 m2 m3 ?_ Y1.heap.size Y2.heap.size ?_ ?_ ?_ ?_ ?_ ?_ ?_ ?_ ?_ (BB.out.trans QZ)<;>(try rw[hye.out])
        ·exact⟨by omega,by omega⟩
        ·exact P1.out
        ·exact P2.out
        ·exact(OZ _ _ _ _ _ _ (by decide) Q1.out).mono (by omega)
        ·exact OZ _ _ _ _ _ _ (by decide) Q2.out
        ·exact OZ _ _ _ _ _ _ (by decide) Q3.out
        ·exact l1
        ·exact l2
        ·exact l3
      ·subst hc
       have p1:(5:Int)≤5+4*(X:Int):=by omega
       have p0:0<X:=by omega
       go_wp2_with fail;refine(yJ L1 _ _ _ V (by have:=HA.out;omega) (by first|exact Or.inl (by have:=HA.out;omega)|exact V1.out|(rw[show 4*X+5=5+4*X by omega];exact V1.out)|(rw[show 4*(X+Y)+5=5+4*(X+Y) by omega];exact V1.out)) (by have:=HA.out;omega)).mono ?_;rintro e b1 ⟨v,rfl,ho,hb⟩;obtain⟨s1,m1,rfl⟩:=zF ho;have B1:=Hm (zg BV.out hb);have A1:=Hm (ze AV.out hb);have C1:=Hm (ze CV.out hb);have O1:=Hm ho;have V2':=Hm (V2.out.below hb);clear V2;have V2:=V2';clear V2';have V3':=Hm (V3.out.below hb);clear V3;have V3:=V3';clear V3';have hs1:=hb.size;clear ho hb AV BV CV V1;have d0:=za C1.out 2;have d1:=zb C1.out 2;simp only[qk,ql,qm]at d0;go_upto_region 11 with fail
       clear d0 d1;obtain⟨Y1,hY⟩:∃Y:World,Y=b1.setCell ⟨w1.heap.size,2,none⟩ (.slice s1 L1.length m1):=⟨_,rfl⟩;rw[←hY];have hYs:Y1.heap.size=b1.heap.size:=by rw[hY,yt]
       have D1:Hid (Below w.heap.size w Y1):=by unfold Hid;rw[hY];exact zy B1.out _ (by show w.heap.size≤w1.heap.size;omega) _
       have F1:Hid (Y1.heap[w1.heap.size]? =some (.cells #[.int .i64 R,.int .i64 S,.slice s1 L1.length m1,.slice none 0 0,.slice none 0 0] 25)):=by unfold Hid;rw[hY];have:=zk C1.out 2 (.slice s1 L1.length m1);simpa using this
       have G1:Hid (Y1.heap[w.heap.size]? =some (.cells #[.int .i64 0,.int .i64 0,.slice none 0 0,.slice none 0 0,.slice none 0 0] 25)):=by unfold Hid;rw[hY];exact zd A1.out (by show w.heap.size≠w1.heap.size;omega) _
       have O1':Hid (Y1.ownsRow V.heap.size 60 4 (.slice s1 L1.length m1) L1.length (L1.flatMap Is.cells)):=by unfold Hid;rw[hY];exact zI O1.out C1.out (by decide)
       clear O1;have O1:=O1';clear O1';have V2':=Hm (show zq Y1 _ _ _ _ from by rw[hY];exact yb V2.out (p:=⟨w1.heap.size,2,none⟩) (by intro q hq;injection hq with hq;rw[←hq];have:=glt.out;show w1.heap.size≠g;omega) _);clear V2;have V2:=V2';clear V2';have V3':=Hm (show zq Y1 _ _ _ _ from by rw[hY];exact yb V3.out (p:=⟨w1.heap.size,2,none⟩) (by intro q hq;injection hq with hq;rw[←hq];have:=glt.out;show w1.heap.size≠g;omega) _);clear V3;have V3:=V3';clear V3';have P1:Hid (∀g,(Value.slice s1 L1.length m1).ownBlock=some g→g<Y1.heap.size):=fun g hg=>(O1.out.lt g hg).2
       clear hY A1 B1 C1;go_wp2_with fail;refine(yJ L2 _ _ _ Y1 (by have:=HA.out;omega) (by first|exact Or.inl (by have:=HA.out;omega)|exact V2.out|(rw[show 4*X+5=5+4*X by omega];exact V2.out)|(rw[show 4*(X+Y)+5=5+4*(X+Y) by omega];exact V2.out)) (by have:=HA.out;omega)).mono ?_;rintro e b2 ⟨v,rfl,ho,hb⟩;obtain⟨s2,m2,rfl⟩:=zF ho;have B2:=Hm (zg D1.out hb);have A2:=Hm (ze G1.out hb);have C2:=Hm (ze F1.out hb);have O2:=Hm ho;have O1':=Hm (ownsRow_below O1.out hb);clear O1;have O1:=O1';clear O1';have V3':=Hm (V3.out.below hb);clear V3;have V3:=V3';clear V3';have hs2:=hb.size;clear ho hb G1 D1 F1 V2;have d0:=za C2.out 3;have d1:=zb C2.out 3;simp only[qk,ql,qm]at d0
       go_upto_region 12 with fail;clear d0 d1;obtain⟨Y2,hY⟩:∃Y:World,Y=b2.setCell ⟨w1.heap.size,3,none⟩ (.slice s2 L2.length m2):=⟨_,rfl⟩;rw[←hY];have hYs:Y2.heap.size=b2.heap.size:=by rw[hY,yt]
       have D2:Hid (Below w.heap.size w Y2):=by unfold Hid;rw[hY];exact zy B2.out _ (by show w.heap.size≤w1.heap.size;omega) _
       have F2:Hid (Y2.heap[w1.heap.size]? =some (.cells #[.int .i64 R,.int .i64 S,.slice s1 L1.length m1,.slice s2 L2.length m2,.slice none 0 0] 25)):=by unfold Hid;rw[hY];have:=zk C2.out 3 (.slice s2 L2.length m2);simpa using this
       have G2:Hid (Y2.heap[w.heap.size]? =some (.cells #[.int .i64 0,.int .i64 0,.slice none 0 0,.slice none 0 0,.slice none 0 0] 25)):=by unfold Hid;rw[hY];exact zd A2.out (by show w.heap.size≠w1.heap.size;omega) _
       have O1':Hid (Y2.ownsRow V.heap.size 60 4 (.slice s1 L1.length m1) L1.length (L1.flatMap Is.cells)):=by unfold Hid;rw[hY];exact zI O1.out C2.out (by decide)
       clear O1;have O1:=O1';clear O1';have O2':Hid (Y2.ownsRow Y1.heap.size 60 4 (.slice s2 L2.length m2) L2.length (L2.flatMap Is.cells)):=by unfold Hid;rw[hY];exact zI O2.out C2.out (by decide)
       clear O2;have O2:=O2';clear O2';have V3':=Hm (show zq Y2 _ _ _ _ from by rw[hY];exact yb V3.out (p:=⟨w1.heap.size,3,none⟩) (by intro q hq;injection hq with hq;rw[←hq];have:=glt.out;show w1.heap.size≠g;omega) _);clear V3;have V3:=V3';clear V3';have P2:Hid (∀g,(Value.slice s2 L2.length m2).ownBlock=some g→g<Y2.heap.size):=fun g hg=>(O2.out.lt g hg).2
       clear hY A2 B2 C2;go_wp2_with fail;refine(yJ L3 _ _ _ Y2 (by have:=HA.out;omega) (by first|exact Or.inl (by have:=HA.out;omega)|exact V3.out|(rw[show 4*X+5=5+4*X by omega];exact V3.out)|(rw[show 4*(X+Y)+5=5+4*(X+Y) by omega];exact V3.out)) (by have:=HA.out;omega)).mono ?_;rintro e b3 ⟨v,rfl,ho,hb⟩;obtain⟨s3,m3,rfl⟩:=zF ho;have B3:=Hm (zg D2.out hb);have A3:=Hm (ze G2.out hb);have C3:=Hm (ze F2.out hb);have O3:=Hm ho;have O1':=Hm (ownsRow_below O1.out hb);clear O1;have O1:=O1';clear O1';have O2':=Hm (ownsRow_below O2.out hb);clear O2;have O2:=O2';clear O2';have hs3:=hb.size;clear ho hb G2 D2 F2 V3;have d0:=za C3.out 4;have d1:=zb C3.out 4;simp only[qk,ql,qm]at d0
       go_upto_region 13 with fail;clear d0 d1;obtain⟨Y3,hY⟩:∃Y:World,Y=b3.setCell ⟨w1.heap.size,4,none⟩ (.slice s3 L3.length m3):=⟨_,rfl⟩;rw[←hY];have hYs:Y3.heap.size=b3.heap.size:=by rw[hY,yt]
       have D3:Hid (Below w.heap.size w Y3):=by unfold Hid;rw[hY];exact zy B3.out _ (by show w.heap.size≤w1.heap.size;omega) _
       have F3:Hid (Y3.heap[w1.heap.size]? =some (.cells #[.int .i64 R,.int .i64 S,.slice s1 L1.length m1,.slice s2 L2.length m2,.slice s3 L3.length m3] 25)):=by unfold Hid;rw[hY];have:=zk C3.out 4 (.slice s3 L3.length m3);simpa using this
       have G3:Hid (Y3.heap[w.heap.size]? =some (.cells #[.int .i64 0,.int .i64 0,.slice none 0 0,.slice none 0 0,.slice none 0 0] 25)):=by unfold Hid;rw[hY];exact zd A3.out (by show w.heap.size≠w1.heap.size;omega) _
       have O1':Hid (Y3.ownsRow V.heap.size 60 4 (.slice s1 L1.length m1) L1.length (L1.flatMap Is.cells)):=by unfold Hid;rw[hY];exact zI O1.out C3.out (by decide)
       clear O1;have O1:=O1';clear O1';have O2':Hid (Y3.ownsRow Y1.heap.size 60 4 (.slice s2 L2.length m2) L2.length (L2.flatMap Is.cells)):=by unfold Hid;rw[hY];exact zI O2.out C3.out (by decide)
       clear O2;have O2:=O2';clear O2';have O3':Hid (Y3.ownsRow Y2.heap.size 60 4 (.slice s3 L3.length m3) L3.length (L3.flatMap Is.cells)):=by unfold Hid;rw[hY];exact zI O3.out C3.out (by decide)
       clear O3;have O3:=O3';clear O3';have P3:Hid (∀g,(Value.slice s3 L3.length m3).ownBlock=some g→g<Y3.heap.size):=fun g hg=>(O3.out.lt g hg).2
       clear hY A3 B3 C3;have y0:=za F3.out 0;have y1:=za F3.out 1;have y2:=za F3.out 2;have y3:=za F3.out 3;have y4:=za F3.out 4;simp only[qk,ql,qm]at y0 y1 y2 y3 y4;have hCo:Hid (Zl Y3 s1 s2 s3 (Dc.mk R S L1 L2 L3).co):=⟨zV O1.out,zV O2.out,zV O3.out⟩;have l1:L1.length≤16384:=by have:=HA.out;omega
       have l2:L2.length≤16384:=by have:=HA.out;omega
       have l3:L3.length≤16384:=by have:=HA.out;omega
       go_wp2_with fail;clear y0 y1 y2 y3 y4;refine(ValCS.validS s1 s2 s3 m1 m2 m3 (Dc.mk R S L1 L2 L3).co Y3 hCo.out (qo l1 (by omega)) (qo l2 (by omega)) (qo l3 (by omega))).mono ?_;rintro e w2 ⟨rfl,hb2⟩;have BB:=Hm (zg D3.out hb2);have AA:=Hm (ze G3.out hb2);have CC:=Hm (ze F3.out hb2);have Q1:=Hm (ownsRow_below O1.out hb2);have Q2:=Hm (ownsRow_below O2.out hb2);have Q3:=Hm (ownsRow_below O3.out hb2);clear hb2 D3 G3 F3 O1 O2 O3 hCo
       cases hv:yD (Dc.mk R S L1 L2 L3).co with
       |false=>
        have hno:=Hm (x9 SH.out hv);have g0:=za AA.out 0;have h0:=zb AA.out 0;have g1:=za AA.out 1;have h1:=zb AA.out 1;have g2:=za AA.out 2;have h2:=zb AA.out 2;have g3:=za AA.out 3;have h3:=zb AA.out 3;have g4:=za AA.out 4;have h4:=zb AA.out 4;simp only[qk,ql,qm]at g0 g1 g2 g3 g4;go_wp2;obtain⟨ZZ,hZ,RZ,QZ,-⟩:=put5 AA.out (.int .i64 0) (.int .i64 0) (.slice none 0 0) (.slice none 0 0) (.slice none 0 0);rw[hZ];have z0:=za RZ 0;have z1:=za RZ 1;have z2:=za RZ 2;have z3:=za RZ 3;have z4:=za RZ 4;simp only[qk,ql,qm]at z0 z1 z2 z3 z4
        refine bodyPost_ret (v:=.agg #[.int .i64 0,.int .i64 0,.slice none 0 0,.slice none 0 0,.slice none 0 0]) (by simp[results,Tryd.results10,go_sem,z0,z1,z2,z3,z4];try rfl) rfl ?_;exact DecP.zero hno.out rfl (BB.out.trans QZ)
       |true=>
        have hye:=Hm (yV SH.out hv);clear hv;have y0:=za CC.out 0;have g0:=za AA.out 0;have h0:=zb AA.out 0;have y1:=za CC.out 1;have g1:=za AA.out 1;have h1:=zb AA.out 1;have y2:=za CC.out 2;have g2:=za AA.out 2;have h2:=zb AA.out 2;have y3:=za CC.out 3;have g3:=za AA.out 3;have h3:=zb AA.out 3;have y4:=za CC.out 4;have g4:=za AA.out 4;have h4:=zb AA.out 4;simp only[qk,ql,qm]at g0 g1 g2 g3 g4 y0 y1 y2 y3 y4;go_wp2;obtain⟨ZZ,hZ,RZ,QZ,OZ⟩:=put5 AA.out (.int .i64 R) (.int .i64 S) (.slice s1 L1.length m1) (.slice s2 L2.length m2) (.slice s3 L3.length m3);rw[hZ];have z0:=za RZ 0;have z1:=za RZ 1;have z2:=za RZ 2;have z3:=za RZ 3
        have z4:=za RZ 4;simp only[qk,ql,qm]at z0 z1 z2 z3 z4;refine bodyPost_ret (v:=.agg #[.int .i64 R,.int .i64 S,.slice s1 L1.length m1,.slice s2 L2.length m2,.slice s3 L3.length m3]) (by simp[results,Tryd.results10,go_sem,z0,z1,z2,z3,z4];try rfl) rfl ?_;refine DecP.mk s1 s2 s3 m1 m2 m3 ?_ Y1.heap.size Y2.heap.size ?_ ?_ ?_ ?_ ?_ ?_ ?_ ?_ ?_ (BB.out.trans QZ)<;>(try rw[hye.out])
        ·exact⟨by omega,by omega⟩
        ·exact P1.out
        ·exact P2.out
        ·exact(OZ _ _ _ _ _ _ (by decide) Q1.out).mono (by omega)
        ·exact OZ _ _ _ _ _ _ (by decide) Q2.out
        ·exact OZ _ _ _ _ _ _ (by decide) Q3.out
        ·exact l1
        ·exact l2
        ·exact l3
     ·subst hc
      have p1:(5:Int)≤5+4*(X:Int):=by omega
      have p0:0<Y:=by omega
      have p3:5+4*(X:Int)≤5+4*((X:Int)+(Y:Int)):=by omega
      go_wp2_with fail;refine(yJ L1 _ _ _ V (by have:=HA.out;omega) (by first|exact Or.inl (by have:=HA.out;omega)|exact V1.out|(rw[show 4*X+5=5+4*X by omega];exact V1.out)|(rw[show 4*(X+Y)+5=5+4*(X+Y) by omega];exact V1.out)) (by have:=HA.out;omega)).mono ?_;rintro e b1 ⟨v,rfl,ho,hb⟩;obtain⟨s1,m1,rfl⟩:=zF ho;have B1:=Hm (zg BV.out hb);have A1:=Hm (ze AV.out hb);have C1:=Hm (ze CV.out hb);have O1:=Hm ho;have V2':=Hm (V2.out.below hb);clear V2;have V2:=V2';clear V2';have V3':=Hm (V3.out.below hb);clear V3;have V3:=V3';clear V3';have hs1:=hb.size;clear ho hb AV BV CV V1;have d0:=za C1.out 2;have d1:=zb C1.out 2;simp only[qk,ql,qm]at d0;go_upto_region 11 with fail
      clear d0 d1;obtain⟨Y1,hY⟩:∃Y:World,Y=b1.setCell ⟨w1.heap.size,2,none⟩ (.slice s1 L1.length m1):=⟨_,rfl⟩;rw[←hY];have hYs:Y1.heap.size=b1.heap.size:=by rw[hY,yt]
      have D1:Hid (Below w.heap.size w Y1):=by unfold Hid;rw[hY];exact zy B1.out _ (by show w.heap.size≤w1.heap.size;omega) _
      have F1:Hid (Y1.heap[w1.heap.size]? =some (.cells #[.int .i64 R,.int .i64 S,.slice s1 L1.length m1,.slice none 0 0,.slice none 0 0] 25)):=by unfold Hid;rw[hY];have:=zk C1.out 2 (.slice s1 L1.length m1);simpa using this
      have G1:Hid (Y1.heap[w.heap.size]? =some (.cells #[.int .i64 0,.int .i64 0,.slice none 0 0,.slice none 0 0,.slice none 0 0] 25)):=by unfold Hid;rw[hY];exact zd A1.out (by show w.heap.size≠w1.heap.size;omega) _
      have O1':Hid (Y1.ownsRow V.heap.size 60 4 (.slice s1 L1.length m1) L1.length (L1.flatMap Is.cells)):=by unfold Hid;rw[hY];exact zI O1.out C1.out (by decide)
      clear O1;have O1:=O1';clear O1';have V2':=Hm (show zq Y1 _ _ _ _ from by rw[hY];exact yb V2.out (p:=⟨w1.heap.size,2,none⟩) (by intro q hq;injection hq with hq;rw[←hq];have:=glt.out;show w1.heap.size≠g;omega) _);clear V2;have V2:=V2';clear V2';have V3':=Hm (show zq Y1 _ _ _ _ from by rw[hY];exact yb V3.out (p:=⟨w1.heap.size,2,none⟩) (by intro q hq;injection hq with hq;rw[←hq];have:=glt.out;show w1.heap.size≠g;omega) _);clear V3;have V3:=V3';clear V3';have P1:Hid (∀g,(Value.slice s1 L1.length m1).ownBlock=some g→g<Y1.heap.size):=fun g hg=>(O1.out.lt g hg).2
      clear hY A1 B1 C1;go_wp2_with fail;refine(yJ L2 _ _ _ Y1 (by have:=HA.out;omega) (by first|exact Or.inl (by have:=HA.out;omega)|exact V2.out|(rw[show 4*X+5=5+4*X by omega];exact V2.out)|(rw[show 4*(X+Y)+5=5+4*(X+Y) by omega];exact V2.out)) (by have:=HA.out;omega)).mono ?_;rintro e b2 ⟨v,rfl,ho,hb⟩;obtain⟨s2,m2,rfl⟩:=zF ho;have B2:=Hm (zg D1.out hb);have A2:=Hm (ze G1.out hb);have C2:=Hm (ze F1.out hb);have O2:=Hm ho;have O1':=Hm (ownsRow_below O1.out hb);clear O1;have O1:=O1';clear O1';have V3':=Hm (V3.out.below hb);clear V3;have V3:=V3';clear V3';have hs2:=hb.size;clear ho hb G1 D1 F1 V2;have d0:=za C2.out 3;have d1:=zb C2.out 3;simp only[qk,ql,qm]at d0
      go_upto_region 12 with fail;clear d0 d1;obtain⟨Y2,hY⟩:∃Y:World,Y=b2.setCell ⟨w1.heap.size,3,none⟩ (.slice s2 L2.length m2):=⟨_,rfl⟩;rw[←hY];have hYs:Y2.heap.size=b2.heap.size:=by rw[hY,yt]
      have D2:Hid (Below w.heap.size w Y2):=by unfold Hid;rw[hY];exact zy B2.out _ (by show w.heap.size≤w1.heap.size;omega) _
      have F2:Hid (Y2.heap[w1.heap.size]? =some (.cells #[.int .i64 R,.int .i64 S,.slice s1 L1.length m1,.slice s2 L2.length m2,.slice none 0 0] 25)):=by unfold Hid;rw[hY];have:=zk C2.out 3 (.slice s2 L2.length m2);simpa using this
      have G2:Hid (Y2.heap[w.heap.size]? =some (.cells #[.int .i64 0,.int .i64 0,.slice none 0 0,.slice none 0 0,.slice none 0 0] 25)):=by unfold Hid;rw[hY];exact zd A2.out (by show w.heap.size≠w1.heap.size;omega) _
      have O1':Hid (Y2.ownsRow V.heap.size 60 4 (.slice s1 L1.length m1) L1.length (L1.flatMap Is.cells)):=by unfold Hid;rw[hY];exact zI O1.out C2.out (by decide)
      clear O1;have O1:=O1';clear O1';have O2':Hid (Y2.ownsRow Y1.heap.size 60 4 (.slice s2 L2.length m2) L2.length (L2.flatMap Is.cells)):=by unfold Hid;rw[hY];exact zI O2.out C2.out (by decide)
      clear O2;have O2:=O2';clear O2';have V3':=Hm (show zq Y2 _ _ _ _ from by rw[hY];exact yb V3.out (p:=⟨w1.heap.size,3,none⟩) (by intro q hq;injection hq with hq;rw[←hq];have:=glt.out;show w1.heap.size≠g;omega) _);clear V3;have V3:=V3';clear V3';have P2:Hid (∀g,(Value.slice s2 L2.length m2).ownBlock=some g→g<Y2.heap.size):=fun g hg=>(O2.out.lt g hg).2
      clear hY A2 B2 C2;go_wp2_with fail;refine(yJ L3 _ _ _ Y2 (by have:=HA.out;omega) (by first|exact Or.inl (by have:=HA.out;omega)|exact V3.out|(rw[show 4*X+5=5+4*X by omega];exact V3.out)|(rw[show 4*(X+Y)+5=5+4*(X+Y) by omega];exact V3.out)) (by have:=HA.out;omega)).mono ?_;rintro e b3 ⟨v,rfl,ho,hb⟩;obtain⟨s3,m3,rfl⟩:=zF ho;have B3:=Hm (zg D2.out hb);have A3:=Hm (ze G2.out hb);have C3:=Hm (ze F2.out hb);have O3:=Hm ho;have O1':=Hm (ownsRow_below O1.out hb);clear O1;have O1:=O1';clear O1';have O2':=Hm (ownsRow_below O2.out hb);clear O2;have O2:=O2';clear O2';have hs3:=hb.size;clear ho hb G2 D2 F2 V3;have d0:=za C3.out 4;have d1:=zb C3.out 4;simp only[qk,ql,qm]at d0
      go_upto_region 13 with fail;clear d0 d1;obtain⟨Y3,hY⟩:∃Y:World,Y=b3.setCell ⟨w1.heap.size,4,none⟩ (.slice s3 L3.length m3):=⟨_,rfl⟩;rw[←hY];have hYs:Y3.heap.size=b3.heap.size:=by rw[hY,yt]
      have D3:Hid (Below w.heap.size w Y3):=by unfold Hid;rw[hY];exact zy B3.out _ (by show w.heap.size≤w1.heap.size;omega) _
      have F3:Hid (Y3.heap[w1.heap.size]? =some (.cells #[.int .i64 R,.int .i64 S,.slice s1 L1.length m1,.slice s2 L2.length m2,.slice s3 L3.length m3] 25)):=by unfold Hid;rw[hY];have:=zk C3.out 4 (.slice s3 L3.length m3);simpa using this
      have G3:Hid (Y3.heap[w.heap.size]? =some (.cells #[.int .i64 0,.int .i64 0,.slice none 0 0,.slice none 0 0,.slice none 0 0] 25)):=by unfold Hid;rw[hY];exact zd A3.out (by show w.heap.size≠w1.heap.size;omega) _
      have O1':Hid (Y3.ownsRow V.heap.size 60 4 (.slice s1 L1.length m1) L1.length (L1.flatMap Is.cells)):=by unfold Hid;rw[hY];exact zI O1.out C3.out (by decide)
      clear O1;have O1:=O1';clear O1';have O2':Hid (Y3.ownsRow Y1.heap.size 60 4 (.slice s2 L2.length m2) L2.length (L2.flatMap Is.cells)):=by unfold Hid;rw[hY];exact zI O2.out C3.out (by decide)
      clear O2;have O2:=O2';clear O2';have O3':Hid (Y3.ownsRow Y2.heap.size 60 4 (.slice s3 L3.length m3) L3.length (L3.flatMap Is.cells)):=by unfold Hid;rw[hY];exact zI O3.out C3.out (by decide)
      clear O3;have O3:=O3';clear O3';have P3:Hid (∀g,(Value.slice s3 L3.length m3).ownBlock=some g→g<Y3.heap.size):=fun g hg=>(O3.out.lt g hg).2
      clear hY A3 B3 C3;have y0:=za F3.out 0;have y1:=za F3.out 1;have y2:=za F3.out 2;have y3:=za F3.out 3;have y4:=za F3.out 4;simp only[qk,ql,qm]at y0 y1 y2 y3 y4;have hCo:Hid (Zl Y3 s1 s2 s3 (Dc.mk R S L1 L2 L3).co):=⟨zV O1.out,zV O2.out,zV O3.out⟩;have l1:L1.length≤16384:=by have:=HA.out;omega
      have l2:L2.length≤16384:=by have:=HA.out;omega
      have l3:L3.length≤16384:=by have:=HA.out;omega
      go_wp2_with fail;clear y0 y1 y2 y3 y4;refine(ValCS.validS s1 s2 s3 m1 m2 m3 (Dc.mk R S L1 L2 L3).co Y3 hCo.out (qo l1 (by omega)) (qo l2 (by omega)) (qo l3 (by omega))).mono ?_;rintro e w2 ⟨rfl,hb2⟩;have BB:=Hm (zg D3.out hb2);have AA:=Hm (ze G3.out hb2);have CC:=Hm (ze F3.out hb2);have Q1:=Hm (ownsRow_below O1.out hb2);have Q2:=Hm (ownsRow_below O2.out hb2);have Q3:=Hm (ownsRow_below O3.out hb2);clear hb2 D3 G3 F3 O1 O2 O3 hCo
      cases hv:yD (Dc.mk R S L1 L2 L3).co with
      |false=>
       have hno:=Hm (x9 SH.out hv);have g0:=za AA.out 0;have h0:=zb AA.out 0;have g1:=za AA.out 1;have h1:=zb AA.out 1;have g2:=za AA.out 2;have h2:=zb AA.out 2;have g3:=za AA.out 3;have h3:=zb AA.out 3;have g4:=za AA.out 4;have h4:=zb AA.out 4;simp only[qk,ql,qm]at g0 g1 g2 g3 g4;go_wp2;obtain⟨ZZ,hZ,RZ,QZ,-⟩:=put5 AA.out (.int .i64 0) (.int .i64 0) (.slice none 0 0) (.slice none 0 0) (.slice none 0 0);rw[hZ];have z0:=za RZ 0;have z1:=za RZ 1;have z2:=za RZ 2;have z3:=za RZ 3;have z4:=za RZ 4;simp only[qk,ql,qm]at z0 z1 z2 z3 z4
       refine bodyPost_ret (v:=.agg #[.int .i64 0,.int .i64 0,.slice none 0 0,.slice none 0 0,.slice none 0 0]) (by simp[results,Tryd.results10,go_sem,z0,z1,z2,z3,z4];try rfl) rfl ?_;exact DecP.zero hno.out rfl (BB.out.trans QZ)
      |true=>
       have hye:=Hm (yV SH.out hv);clear hv;have y0:=za CC.out 0;have g0:=za AA.out 0;have h0:=zb AA.out 0;have y1:=za CC.out 1;have g1:=za AA.out 1;have h1:=zb AA.out 1;have y2:=za CC.out 2;have g2:=za AA.out 2;have h2:=zb AA.out 2;have y3:=za CC.out 3;have g3:=za AA.out 3;have h3:=zb AA.out 3;have y4:=za CC.out 4;have g4:=za AA.out 4;have h4:=zb AA.out 4;simp only[qk,ql,qm]at g0 g1 g2 g3 g4 y0 y1 y2 y3 y4;go_wp2;obtain⟨ZZ,hZ,RZ,QZ,OZ⟩:=put5 AA.out (.int .i64 R) (.int .i64 S) (.slice s1 L1.length m1) (.slice s2 L2.length m2) (.slice s3 L3.length m3);rw[hZ];have z0:=za RZ 0;have z1:=za RZ 1;have z2:=za RZ 2;have z3:=za RZ 3
       have z4:=za RZ 4;simp only[qk,ql,qm]at z0 z1 z2 z3 z4;refine bodyPost_ret (v:=.agg #[.int .i64 R,.int .i64 S,.slice s1 L1.length m1,.slice s2 L2.length m2,.slice s3 L3.length m3]) (by simp[results,Tryd.results10,go_sem,z0,z1,z2,z3,z4];try rfl) rfl ?_;refine DecP.mk s1 s2 s3 m1 m2 m3 ?_ Y1.heap.size Y2.heap.size ?_ ?_ ?_ ?_ ?_ ?_ ?_ ?_ ?_ (BB.out.trans QZ)<;>(try rw[hye.out])
       ·exact⟨by omega,by omega⟩
       ·exact P1.out
       ·exact P2.out
       ·exact(OZ _ _ _ _ _ _ (by decide) Q1.out).mono (by omega)
       ·exact OZ _ _ _ _ _ _ (by decide) Q2.out
       ·exact OZ _ _ _ _ _ _ (by decide) Q3.out
       ·exact l1
       ·exact l2
       ·exact l3

    ·have p1:(5:Int)≤5+4*(X:Int):=by omega
     have p2:5+4*(X:Int)≤(vc:Int):=by omega
     have p3:5+4*(X:Int)≤5+4*((X:Int)+(Y:Int)):=by omega
     have p4:5+4*((X:Int)+(Y:Int))≤(vc:Int):=by omega
     have p5:5+4*((X:Int)+(Y:Int))≤4*((X:Int)+(Y:Int)+(Z0:Int))+5:=by omega
     have w1c:¬vc=5:=by omega
     have w2c:¬vc=5+4*X:=by omega
     have w2d:¬vc=4*X+5:=by omega
     have w3c:¬vc=5+4*(X+Y):=by omega
     have w3d:¬vc=4*(X+Y)+5:=by omega
     go_wp2_with fail;refine(yJ L1 _ _ _ V (by have:=HA.out;omega) (by first|exact Or.inl (by have:=HA.out;omega)|exact V1.out|(rw[show 4*X+5=5+4*X by omega];exact V1.out)|(rw[show 4*(X+Y)+5=5+4*(X+Y) by omega];exact V1.out)) (by have:=HA.out;omega)).mono ?_;rintro e b1 ⟨v,rfl,ho,hb⟩;obtain⟨s1,m1,rfl⟩:=zF ho;have B1:=Hm (zg BV.out hb);have A1:=Hm (ze AV.out hb);have C1:=Hm (ze CV.out hb);have O1:=Hm ho;have V2':=Hm (V2.out.below hb);clear V2;have V2:=V2';clear V2';have V3':=Hm (V3.out.below hb);clear V3;have V3:=V3';clear V3';have hs1:=hb.size;clear ho hb AV BV CV V1;have d0:=za C1.out 2;have d1:=zb C1.out 2;simp only[qk,ql,qm]at d0;go_upto_region 11 with fail
     clear d0 d1;obtain⟨Y1,hY⟩:∃Y:World,Y=b1.setCell ⟨w1.heap.size,2,none⟩ (.slice s1 L1.length m1):=⟨_,rfl⟩;rw[←hY];have hYs:Y1.heap.size=b1.heap.size:=by rw[hY,yt]
     have D1:Hid (Below w.heap.size w Y1):=by unfold Hid;rw[hY];exact zy B1.out _ (by show w.heap.size≤w1.heap.size;omega) _
     have F1:Hid (Y1.heap[w1.heap.size]? =some (.cells #[.int .i64 R,.int .i64 S,.slice s1 L1.length m1,.slice none 0 0,.slice none 0 0] 25)):=by unfold Hid;rw[hY];have:=zk C1.out 2 (.slice s1 L1.length m1);simpa using this
     have G1:Hid (Y1.heap[w.heap.size]? =some (.cells #[.int .i64 0,.int .i64 0,.slice none 0 0,.slice none 0 0,.slice none 0 0] 25)):=by unfold Hid;rw[hY];exact zd A1.out (by show w.heap.size≠w1.heap.size;omega) _
     have O1':Hid (Y1.ownsRow V.heap.size 60 4 (.slice s1 L1.length m1) L1.length (L1.flatMap Is.cells)):=by unfold Hid;rw[hY];exact zI O1.out C1.out (by decide)
     clear O1;have O1:=O1';clear O1';have V2':=Hm (show zq Y1 _ _ _ _ from by rw[hY];exact yb V2.out (p:=⟨w1.heap.size,2,none⟩) (by intro q hq;injection hq with hq;rw[←hq];have:=glt.out;show w1.heap.size≠g;omega) _);clear V2;have V2:=V2';clear V2';have V3':=Hm (show zq Y1 _ _ _ _ from by rw[hY];exact yb V3.out (p:=⟨w1.heap.size,2,none⟩) (by intro q hq;injection hq with hq;rw[←hq];have:=glt.out;show w1.heap.size≠g;omega) _);clear V3;have V3:=V3';clear V3';have P1:Hid (∀g,(Value.slice s1 L1.length m1).ownBlock=some g→g<Y1.heap.size):=fun g hg=>(O1.out.lt g hg).2
     clear hY A1 B1 C1;go_wp2_with fail;refine(yJ L2 _ _ _ Y1 (by have:=HA.out;omega) (by first|exact Or.inl (by have:=HA.out;omega)|exact V2.out|(rw[show 4*X+5=5+4*X by omega];exact V2.out)|(rw[show 4*(X+Y)+5=5+4*(X+Y) by omega];exact V2.out)) (by have:=HA.out;omega)).mono ?_;rintro e b2 ⟨v,rfl,ho,hb⟩;obtain⟨s2,m2,rfl⟩:=zF ho;have B2:=Hm (zg D1.out hb);have A2:=Hm (ze G1.out hb);have C2:=Hm (ze F1.out hb);have O2:=Hm ho;have O1':=Hm (ownsRow_below O1.out hb);clear O1;have O1:=O1';clear O1';have V3':=Hm (V3.out.below hb);clear V3;have V3:=V3';clear V3';have hs2:=hb.size;clear ho hb G1 D1 F1 V2;have d0:=za C2.out 3;have d1:=zb C2.out 3;simp only[qk,ql,qm]at d0
     go_upto_region 12 with fail;clear d0 d1;obtain⟨Y2,hY⟩:∃Y:World,Y=b2.setCell ⟨w1.heap.size,3,none⟩ (.slice s2 L2.length m2):=⟨_,rfl⟩;rw[←hY];have hYs:Y2.heap.size=b2.heap.size:=by rw[hY,yt]
     have D2:Hid (Below w.heap.size w Y2):=by unfold Hid;rw[hY];exact zy B2.out _ (by show w.heap.size≤w1.heap.size;omega) _
     have F2:Hid (Y2.heap[w1.heap.size]? =some (.cells #[.int .i64 R,.int .i64 S,.slice s1 L1.length m1,.slice s2 L2.length m2,.slice none 0 0] 25)):=by unfold Hid;rw[hY];have:=zk C2.out 3 (.slice s2 L2.length m2);simpa using this
     have G2:Hid (Y2.heap[w.heap.size]? =some (.cells #[.int .i64 0,.int .i64 0,.slice none 0 0,.slice none 0 0,.slice none 0 0] 25)):=by unfold Hid;rw[hY];exact zd A2.out (by show w.heap.size≠w1.heap.size;omega) _
     have O1':Hid (Y2.ownsRow V.heap.size 60 4 (.slice s1 L1.length m1) L1.length (L1.flatMap Is.cells)):=by unfold Hid;rw[hY];exact zI O1.out C2.out (by decide)
     clear O1;have O1:=O1';clear O1';have O2':Hid (Y2.ownsRow Y1.heap.size 60 4 (.slice s2 L2.length m2) L2.length (L2.flatMap Is.cells)):=by unfold Hid;rw[hY];exact zI O2.out C2.out (by decide)
     clear O2;have O2:=O2';clear O2';have V3':=Hm (show zq Y2 _ _ _ _ from by rw[hY];exact yb V3.out (p:=⟨w1.heap.size,3,none⟩) (by intro q hq;injection hq with hq;rw[←hq];have:=glt.out;show w1.heap.size≠g;omega) _);clear V3;have V3:=V3';clear V3';have P2:Hid (∀g,(Value.slice s2 L2.length m2).ownBlock=some g→g<Y2.heap.size):=fun g hg=>(O2.out.lt g hg).2
     clear hY A2 B2 C2;go_wp2_with fail;refine(yJ L3 _ _ _ Y2 (by have:=HA.out;omega) (by first|exact Or.inl (by have:=HA.out;omega)|exact V3.out|(rw[show 4*X+5=5+4*X by omega];exact V3.out)|(rw[show 4*(X+Y)+5=5+4*(X+Y) by omega];exact V3.out)) (by have:=HA.out;omega)).mono ?_;rintro e b3 ⟨v,rfl,ho,hb⟩;obtain⟨s3,m3,rfl⟩:=zF ho;have B3:=Hm (zg D2.out hb);have A3:=Hm (ze G2.out hb);have C3:=Hm (ze F2.out hb);have O3:=Hm ho;have O1':=Hm (ownsRow_below O1.out hb);clear O1;have O1:=O1';clear O1';have O2':=Hm (ownsRow_below O2.out hb);clear O2;have O2:=O2';clear O2';have hs3:=hb.size;clear ho hb G2 D2 F2 V3;have d0:=za C3.out 4;have d1:=zb C3.out 4;simp only[qk,ql,qm]at d0
     go_upto_region 13 with fail;clear d0 d1;obtain⟨Y3,hY⟩:∃Y:World,Y=b3.setCell ⟨w1.heap.size,4,none⟩ (.slice s3 L3.length m3):=⟨_,rfl⟩;rw[←hY];have hYs:Y3.heap.size=b3.heap.size:=by rw[hY,yt]
     have D3:Hid (Below w.heap.size w Y3):=by unfold Hid;rw[hY];exact zy B3.out _ (by show w.heap.size≤w1.heap.size;omega) _
     have F3:Hid (Y3.heap[w1.heap.size]? =some (.cells #[.int .i64 R,.int .i64 S,.slice s1 L1.length m1,.slice s2 L2.length m2,.slice s3 L3.length m3] 25)):=by unfold Hid;rw[hY];have:=zk C3.out 4 (.slice s3 L3.length m3);simpa using this
     have G3:Hid (Y3.heap[w.heap.size]? =some (.cells #[.int .i64 0,.int .i64 0,.slice none 0 0,.slice none 0 0,.slice none 0 0] 25)):=by unfold Hid;rw[hY];exact zd A3.out (by show w.heap.size≠w1.heap.size;omega) _
     have O1':Hid (Y3.ownsRow V.heap.size 60 4 (.slice s1 L1.length m1) L1.length (L1.flatMap Is.cells)):=by unfold Hid;rw[hY];exact zI O1.out C3.out (by decide)
     clear O1;have O1:=O1';clear O1';have O2':Hid (Y3.ownsRow Y1.heap.size 60 4 (.slice s2 L2.length m2) L2.length (L2.flatMap Is.cells)):=by unfold Hid;rw[hY];exact zI O2.out C3.out (by decide)
     clear O2;have O2:=O2';clear O2';have O3':Hid (Y3.ownsRow Y2.heap.size 60 4 (.slice s3 L3.length m3) L3.length (L3.flatMap Is.cells)):=by unfold Hid;rw[hY];exact zI O3.out C3.out (by decide)
     clear O3;have O3:=O3';clear O3';have P3:Hid (∀g,(Value.slice s3 L3.length m3).ownBlock=some g→g<Y3.heap.size):=fun g hg=>(O3.out.lt g hg).2
     clear hY A3 B3 C3;have y0:=za F3.out 0;have y1:=za F3.out 1;have y2:=za F3.out 2;have y3:=za F3.out 3;have y4:=za F3.out 4;simp only[qk,ql,qm]at y0 y1 y2 y3 y4;have hCo:Hid (Zl Y3 s1 s2 s3 (Dc.mk R S L1 L2 L3).co):=⟨zV O1.out,zV O2.out,zV O3.out⟩;have l1:L1.length≤16384:=by have:=HA.out;omega
     have l2:L2.length≤16384:=by have:=HA.out;omega
     have l3:L3.length≤16384:=by have:=HA.out;omega
     go_wp2_with fail;clear y0 y1 y2 y3 y4;refine(ValCS.validS s1 s2 s3 m1 m2 m3 (Dc.mk R S L1 L2 L3).co Y3 hCo.out (qo l1 (by omega)) (qo l2 (by omega)) (qo l3 (by omega))).mono ?_;rintro e w2 ⟨rfl,hb2⟩;have BB:=Hm (zg D3.out hb2);have AA:=Hm (ze G3.out hb2);have CC:=Hm (ze F3.out hb2);have Q1:=Hm (ownsRow_below O1.out hb2);have Q2:=Hm (ownsRow_below O2.out hb2);have Q3:=Hm (ownsRow_below O3.out hb2);clear hb2 D3 G3 F3 O1 O2 O3 hCo
     cases hv:yD (Dc.mk R S L1 L2 L3).co with
     |false=>
      have hno:=Hm (x9 SH.out hv);have g0:=za AA.out 0;have h0:=zb AA.out 0;have g1:=za AA.out 1;have h1:=zb AA.out 1;have g2:=za AA.out 2;have h2:=zb AA.out 2;have g3:=za AA.out 3;have h3:=zb AA.out 3;have g4:=za AA.out 4;have h4:=zb AA.out 4;simp only[qk,ql,qm]at g0 g1 g2 g3 g4;go_wp2;obtain⟨ZZ,hZ,RZ,QZ,-⟩:=put5 AA.out (.int .i64 0) (.int .i64 0) (.slice none 0 0) (.slice none 0 0) (.slice none 0 0);rw[hZ];have z0:=za RZ 0;have z1:=za RZ 1;have z2:=za RZ 2;have z3:=za RZ 3;have z4:=za RZ 4;simp only[qk,ql,qm]at z0 z1 z2 z3 z4
      refine bodyPost_ret (v:=.agg #[.int .i64 0,.int .i64 0,.slice none 0 0,.slice none 0 0,.slice none 0 0]) (by simp[results,Tryd.results10,go_sem,z0,z1,z2,z3,z4];try rfl) rfl ?_;exact DecP.zero hno.out rfl (BB.out.trans QZ)
     |true=>
      have hye:=Hm (yV SH.out hv);clear hv;have y0:=za CC.out 0;have g0:=za AA.out 0;have h0:=zb AA.out 0;have y1:=za CC.out 1;have g1:=za AA.out 1;have h1:=zb AA.out 1;have y2:=za CC.out 2;have g2:=za AA.out 2;have h2:=zb AA.out 2;have y3:=za CC.out 3;have g3:=za AA.out 3;have h3:=zb AA.out 3;have y4:=za CC.out 4;have g4:=za AA.out 4;have h4:=zb AA.out 4;simp only[qk,ql,qm]at g0 g1 g2 g3 g4 y0 y1 y2 y3 y4;go_wp2;obtain⟨ZZ,hZ,RZ,QZ,OZ⟩:=put5 AA.out (.int .i64 R) (.int .i64 S) (.slice s1 L1.length m1) (.slice s2 L2.length m2) (.slice s3 L3.length m3);rw[hZ];have z0:=za RZ 0;have z1:=za RZ 1;have z2:=za RZ 2;have z3:=za RZ 3
      have z4:=za RZ 4;simp only[qk,ql,qm]at z0 z1 z2 z3 z4;refine bodyPost_ret (v:=.agg #[.int .i64 R,.int .i64 S,.slice s1 L1.length m1,.slice s2 L2.length m2,.slice s3 L3.length m3]) (by simp[results,Tryd.results10,go_sem,z0,z1,z2,z3,z4];try rfl) rfl ?_;refine DecP.mk s1 s2 s3 m1 m2 m3 ?_ Y1.heap.size Y2.heap.size ?_ ?_ ?_ ?_ ?_ ?_ ?_ ?_ ?_ (BB.out.trans QZ)<;>(try rw[hye.out])
      ·exact⟨by omega,by omega⟩
      ·exact P1.out
      ·exact P2.out
      ·exact(OZ _ _ _ _ _ _ (by decide) Q1.out).mono (by omega)
      ·exact OZ _ _ _ _ _ _ (by decide) Q2.out
      ·exact OZ _ _ _ _ _ _ (by decide) Q3.out
      ·exact l1
      ·exact l2
      ·exact l3
   exact AllReadyH.nil
  exact AllReadyH.nil
end Go.Proofs.YtbdldkpifanaiaaDoor.Dec
