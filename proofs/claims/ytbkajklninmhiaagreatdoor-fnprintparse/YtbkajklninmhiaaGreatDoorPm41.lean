import Derived.Test.YtbkajklninmhiaaGreatDoorPm40
import Derived.Test.YtbkajklninmhiaaGreatDoorShelf
import Derived.Lib.OwnKind
import Derived.BigCall
import Derived.BigGuard
import Derived.Deep.CutRange
import Derived.Deep.Cut
set_option maxHeartbeats 12800000
set_option maxRecDepth 100000
set_option linter.unusedVariables false
set_option linter.unusedSimpArgs false
open List renaming setIfInBounds_toArray → qa, set_cons_zero → qb, set_cons_succ → qc, getElem_cons_succ → qd, getElem_cons_zero → qe, getElem_toArray → qf, length_append → qg, length_cons → qh, length_nil → qi, append_assoc → ql, getElem?_toArray → qm, getElem?_cons_zero → qn, getElem?_cons_succ → qo
open Nat renaming le_refl → qp, le_trans → qq
namespace Go.Proofs.YtbkajklninmhiaaGreatDoor.Syn
open Go Go.RowKit Go.Sort Mem
open Go.Proofs.YtbkajklninmhiaaGreatDoor.Print (Own Zt byteCells_one)
attribute [local go_sem ↓] Go.wp_at_zero Go.wp_at_succ
def App (B:Nat) (x:Value) (w:World) (t:List UInt8) (e:Ending) (w':World):Prop:=∃v',e=.returned v'∧Own B w' v' t∧Kb B x v' w w'
theorem Wy {w:World} {ops:Array Oper} {rest:List Oper} {o:Oper} {a:Act} {Q:Exit→Act→World→Prop} (hgd:o.guard=none) (sl x:Operand)
  (ho:o.op=.call {callee:=.builtin .append,args:=#[sl,x],argTypes:=#[22,22]})
  (B:Nat) (v:Value) (bs:List UInt8) (hs:a.eval sl=v) (hown:Own B w v bs) (ad:Addr) (m c:Nat) (hx:a.eval x=.slice (some ad) m c) (b:List UInt8) (hm:m=b.length) (hc:∀j u,(Lib.byteCells b)[j]? =some u→w.cell? (ad.add j)=some u) (hB:B≤w.heap.size) (hl:bs.length+b.length≤1000000000)
  (h:∀v' w',Own B w' v' (bs++b)→Kb B v v' w w'→wpList Tryz.prog ops Q rest (a.put o.dst v') w'):wpList Tryz.prog ops Q (o::rest) a w:=by
 subst hm;obtain⟨i0,hi,hz0,hz1,hz2⟩:=info_parts Zt;refine wpList_append_own_at w hgd sl x 22 ho B 5 i0 (.int .u8 0) 1 1 Tryz.underlying22 hi hz0 hz1 hz2 rfl (by decide) v bs.length (Lib.byteCells bs) hs hown ad b.length c (Lib.byteCells b) hx (by rw[Lib.byteCells_length,Nat.mul_one]) hc (byteCells_one _) (by unfold maxLen;omega) (by omega) hB ?_;intro v' w' h1 h2 _ h3;exact h v' w' (WJ rfl rfl h1) (Kb.grown hown h2 h3 hB)
theorem V8 {u:Nat} (hu:u<18446744073709551616):(Lib.decDigits u).length≤20:=by
 rw[Lib.decDigits_length];by_cases h:u<10
 ·rw[Lib.nDigits_small h];omega
 ·have:=Lib.numDigits_eq u (by omega) hu
  split at this<;>omega
theorem Rm (B u:Nat) (hu:u<100) (x:Value) (bs:List UInt8) (w:World) (hown:Own B w x bs) (hB:B≤w.heap.size) (hl:bs.length≤900000000):
  Calls Tryz.prog 123 #[x,.int .u64 u,.int .i64 10] w (App B x w (bs++Lib.decDigits u)):=by
 have hd:=V8 (u:=u) (by omega);have HO:=Hm hown;clear hown;go_enter Tryz.func123,Tryz.ntmps123;go_wp2_with fail;refine(Any.internal_strconv_small (P:=Tryz.prog) (ρ:=Tryz.laysM176_ren) {Tryz.laysM176 with} u hu _).mono ?_;rintro e w1 ⟨rfl,rfl⟩;go_wp2_with (at_builtin;refine zQ rfl _ _ rfl B _ bs rfl HO.out (Lib.decDigits u) rfl hB (by omega) ?_);intro v2 w2 ho2 hk2;have HO2:=Hm ho2;have HK2:=Hm hk2;clear ho2 hk2;refine Hid.out ?_;refine Lib.hid ?_;go_wp2;go_ret;exact⟨v2,rfl,HO2.out,HK2.out⟩
theorem Ts (B u:Nat) (hu:100≤u) (hu64:u<18446744073709551616) (x:Value) (bs:List UInt8) (w:World) (hown:Own B w x bs) (hB:B≤w.heap.size) (hl:bs.length≤900000000) (htab:Lib.TabIs Tryz.prog w "internal/strconv.uint64pow10" .u64 Lib.pow10Tab):
  Calls Tryz.prog 123 #[x,.int .u64 u,.int .i64 10] w (App B x w (bs++Lib.decDigits u)):=by
 have hd:=V8 hu64;have hn:Lib.nDigits u≤20:=by rw[←Lib.decDigits_length];exact hd
 have HO:=Hm hown;have HT:=Hm htab
 have hsl:∀W,(Instr.sliceAt 190 (.pointer (some ⟨w.heap.size,0,none⟩)) none (some (.int .i64 (Lib.nDigits u:Int))) none).run Tryz.prog W=.ok (.slice (some ⟨w.heap.size,0,none⟩) (Lib.nDigits u) 24) W:=fun W=>by
  have hal:Tryz.prog.arrayLen 190=24:=by rfl
  rw[run_sliceAt_array_h W 190 ⟨w.heap.size,0,none⟩ (by rfl) .i64 (Lib.nDigits u:Int) (by omega) (by rw[hal];omega)];go_simp
 have hH:=Lib.holds_zero0 w 190 (Lib.nDigits u) (by omega);have hf:=Any.internal_strconv_formatBase10 (P:=Tryz.prog) (ρ:=Tryz.laysM176_ren) {Tryz.laysM176 with} w.heap.size 0 24 u (Array.replicate (Lib.nDigits u) 0) (w.alloc (.cells Lib.zeros24 190)) hH (by rw[Array.size_replicate];exact Lib.lt_pow_nDigits u) hu64 (by rw[Array.size_replicate];omega);rw[Array.size_replicate]at hf;have HH:=Hm hH;have HF:=Hm hf;have iu:(100:Int)≤(u:Int):=by omega
 clear hown htab hH hf;go_enter Tryz.func123,Tryz.ntmps123;go_wp2_with fail;refine(Any.internal_strconv_numDigits (P:=Tryz.prog) (ρ:=Tryz.laysM176_ren) {Tryz.laysM176 with} u (by omega) hu64 _ (Lib.tabIs_alloc HT.out _)).mono ?_;rintro e w1 ⟨rfl,rfl⟩;go_wp2_with fail;refine HF.out.mono ?_;rintro e w1 ⟨rfl,k,v',dk,rfl,hF⟩
 have hcell:∀j u',(Lib.byteCells (Lib.decDigits u))[j]? =some u'→((putRow (fun(b:UInt8)=>Value.int .u8 (b.toNat:Int)) (w.alloc (.cells Lib.zeros24 190)) w.heap.size 0 dk).drewN k).cell? ((⟨w.heap.size,0,none⟩:Addr).add j)=some u':=by
  intro j u' hj;have hjl:j<(Lib.decDigits u).length:=by rw[←Lib.byteCells_length];exact(List.getElem?_eq_some_iff.1 hj).1
  have e5:(Lib.byteCells (Lib.decDigits u))[j]? =some (Value.int .u8 ((Lib.decDigits u)[j].toNat:Int)):=by simp[Lib.byteCells,hjl]
  rw[e5]at hj
  cases hj
  rw[Lib.row_is_numeral hF j hjl,Lib.add_plain,World.cell?_drewN];exact cell?_putRow (fun(b:UInt8)=>Value.int .u8 (b.toNat:Int)) _ w.heap.size 0 _ dk HH.out (by rw[hF.size,Array.size_replicate]) j (by rw[hF.size];rw[Lib.decDigits_length]at hjl;exact hjl)
 obtain⟨os,eo⟩:=Lib.fin_at w (.cells Lib.zeros24 190) dk k 0;have hb:Below w.heap.size w ((putRow (fun(b:UInt8)=>Value.int .u8 (b.toNat:Int)) (w.alloc (.cells Lib.zeros24 190)) w.heap.size 0 dk).drewN k):=by rw[eo];exact Lib.below_grow w.heap.size w (qp _) k os
 generalize (putRow (fun(b:UInt8)=>Value.int .u8 (b.toNat:Int)) (w.alloc (.cells Lib.zeros24 190)) w.heap.size 0 dk).drewN k=W2 at hcell hb ⊢;have HO1:=Hm (zw HO.out hb);have HK1:=Hm (Kb.of (x:=x) hb hB);have hB1:=qq hB hb.size;have HC:=Hm hcell;clear eo HH HF HO HT hb hcell hF;go_wp2_with (at_builtin;refine Wy rfl _ _ rfl B _ bs rfl HO1.out ⟨w.heap.size,0,none⟩ (Lib.nDigits u) 24 rfl (Lib.decDigits u) (Lib.decDigits_length u).symm HC.out hB1 (by omega) ?_);intro v2 w2 ho2 hk2;have HO2:=Hm ho2;have HK2:=Hm (HK1.out.trans hk2);clear ho2 hk2;refine Hid.out ?_;refine Lib.hid ?_;go_wp2;go_ret;exact⟨v2,rfl,HO2.out,HK2.out⟩
theorem Yt (B:Nat) (z:Int) (h0:-9223372036854775807≤z) (h1:z≤9223372036854775807) (x:Value) (bs:List UInt8) (w:World) (hown:Own B w x bs) (hB:B≤w.heap.size) (hl:bs.length≤800000000) (htab:Lib.TabBelow Tryz.prog B w "internal/strconv.uint64pow10" .u64 Lib.pow10Tab):
  Calls Tryz.prog 44 #[x,.int .i64 z,.int .i64 10] w (App B x w (bs++Lib.itoa z)):=by
 have hU:Hid (∀(u:Nat) (x:Value) (bs:List UInt8) (w:World),u≤9223372036854775807→Own B w x bs→B≤w.heap.size→bs.length≤900000000→Lib.TabBelow Tryz.prog B w "internal/strconv.uint64pow10" .u64 Lib.pow10Tab→Calls Tryz.prog 123 #[x,.int .u64 u,.int .i64 10] w (App B x w (bs++Lib.decDigits u))):=by
  intro u x bs w hu hown hB hl htab;by_cases h:u<100
  ·exact Rm B u h x bs w hown hB hl
  ·exact Ts B u (by omega) (by omega) x bs w hown hB hl htab.here
 have HO:=Hm hown;have HT:=Hm htab;clear hown htab
 have hI:Hid (Calls Tryz.prog 81 #[x,.int .i64 z,.int .i64 10] w (App B x w (bs++Lib.itoa z))):=by
  unfold Hid;by_cases hneg:z<0
  ·obtain⟨u,rfl⟩:∃u:Nat,z=-(u:Int):=⟨z.natAbs,by omega⟩
   have hwr:IntKind.u64.wrap (-IntKind.u64.wrap (-(u:Int)))=(u:Int):=by rw[IntKind.wrap_u64,IntKind.wrap_u64];omega
   have hit:=Hm (Lib.itoa_neg u (by omega));have hu9:u≤9223372036854775807:=by omega
   clear h0 h1;go_enter Tryz.func81,Tryz.ntmps81;go_wp2_with (at_builtin;refine zX rfl _ _ rfl B _ bs rfl (zw HO.out (zd (Below.refl _ _) _)) _ _ rfl 45 (zb (zo _ _) 0) (by simp;omega) (by omega) ?_);intro v1 w1 ho hk;have HO1:=Hm ho;have HK1:=Hm (((Kb.refl B x w).alloc hB _).trans hk);have hB1:=qq hB HK1.out.1.size;have HT1:=Hm (Lib.TabBelow.on HT.out HK1.out.1);clear ho hk HO HT;refine Hid.out ?_;refine Lib.hid ?_;go_wp2_with fail;refine(hU.out u _ (bs++[45]) _ hu9 HO1.out hB1 (by simp;omega) HT1.out).mono ?_;rintro e w2 ⟨v2,rfl,ho,hk⟩;have HO2:=Hm ho;have HK2:=Hm (HK1.out.trans hk);clear ho hk;go_wp2;go_ret;exact⟨v2,rfl,by have z:=HO2.out;rw[hit.out];simpa[ql]using z,HK2.out⟩
  ·obtain⟨u,rfl⟩:∃u:Nat,z=u:=⟨z.toNat,by omega⟩
   have hit:=Hm (Lib.itoa_nonneg u);have hd:decide ((u:Int)<0)=false:=by simp
   clear hneg;go_enter Tryz.func81,Tryz.ntmps81;go_wp2_with fail;refine(hU.out u _ bs _ (by omega) HO.out hB (by omega) HT.out).mono ?_;rintro e w1 ⟨v1,rfl,ho,hk⟩;have HO1:=Hm ho;have HK1:=Hm hk;clear ho hk;go_wp2;go_ret;exact⟨v1,rfl,by have z:=HO1.out;rw[hit.out];exact z,HK1.out⟩
 clear hU HO HT;go_enter Tryz.func44,Tryz.ntmps44;go_wp2_with fail;refine hI.out.mono ?_;rintro e w1 ⟨v1,rfl,ho,hk⟩;have HO1:=Hm ho;have HK1:=Hm hk;clear ho hk;go_wp2;go_ret;exact⟨v1,rfl,HO1.out,HK1.out⟩
end Go.Proofs.YtbkajklninmhiaaGreatDoor.Syn
namespace Go.Proofs.YtbkajklninmhiaaGreatDoor.Syn
open Go Go.RowKit Mem
open Go.Proofs.YtbkajklninmhiaaGreatDoor.Print (Own Zt byteCells_one)
attribute [local go_sem ↓] Go.wp_at_zero Go.wp_at_succ
structure Ps (B:Nat) (w:World):Prop where
 t:Y0 B w
 p:Lib.TabBelow Tryz.prog B w "internal/strconv.uint64pow10" .u64 Lib.pow10Tab
theorem Ps.on {B:Nat} {w w1:World} (h:Ps B w) (hb:Below B w w1):Ps B w1:=⟨h.t.on hb,Lib.TabBelow.on h.p hb⟩
theorem Yx {z:Int} (h0:0≤z) (h1:z≤15):((yW z).toNat:Int)=97+z:=by
 unfold yW;rw[UInt8.toNat_ofNat'];omega
theorem Zv (z:Int) (w:World) (h0:0≤z) (h1:z≤15):Calls Tryz.prog 43 #[.int .i64 z] w fun e w'=>e=.returned (.int .u8 ((yW z).toNat:Int))∧w'=w:=by
 rw[Yx h0 h1];go_enter Tryz.func43,Tryz.ntmps43;go_wp2;go_ret;exact⟨by first|rfl|(congr 2;done)|(congr 2;omega),rfl⟩
theorem T8 (o:Po) (w:World) (hk:o.k=7∨o.k=8):Calls Tryz.prog 119 #[.agg #[.int .i64 o.k,.int .i64 o.v,.string ⟨o.n.toArray⟩]] w fun e w'=>e=.returned (.string ⟨(Xd o).toArray⟩)∧Below w.heap.size w w':=by
 obtain⟨k,v,n⟩:=o;simp only at hk;rcases hk with rfl|rfl
 all_goals
  go_enter Tryz.func119,Tryz.ntmps119;go_wp2;go_ret;exact⟨rfl,by go_grown⟩
theorem VJ (o:Po) (B:Nat) (bs:List UInt8) (x:Value) (w:World) (hop:opB o=true) (hk6:o.k≤6) (hown:Own B w x bs) (hB:B≤w.heap.size) (hP:Ps B w) (hl:bs.length≤500000000):
  Calls Tryz.prog 117 #[x,.agg #[.int .i64 o.k,.int .i64 o.v,.string ⟨o.n.toArray⟩]] w (App B x w (bs++Wl o)):=by
 obtain⟨h1,h2,h3,h4⟩:=Xy hop
 have hnm:o.k=2→yj o.n=true:=fun e2=>by
  unfold opB at hop;simp only[Bool.and_eq_true]at hop;have:=hop.2;rwa[if_pos e2]at this
 obtain⟨k,v,n⟩:=o;simp only at h1 h2 h3 h4 hk6 hnm ⊢;have hB1:B≤(w.alloc (.cells #[.int .i64 k,.int .i64 v,.string ⟨n.toArray⟩] 88)).heap.size:=by simp;omega
 have hk:k=1∨k=2∨k=3∨k=4∨k=5∨k=6:=by omega
 clear hop;rcases hk with e1|e2|e3|e4|e5|e6
 ·subst e1
  have HO:=Hm (zw hown (zd (Below.refl _ _) (.cells #[.int .i64 1,.int .i64 v,.string ⟨n.toArray⟩] 88)));have HK:=Hm ((Kb.refl B x w).alloc hB (.cells #[.int .i64 1,.int .i64 v,.string ⟨n.toArray⟩] 88));have HP:=Hm (hP.on HK.out.1);clear hown hP;have h4':v≤999999999:=by simpa[yr]using h4
  clear h4 hnm;go_enter Tryz.func117,Tryz.ntmps117;go_wp2_with fail;refine(Yt B v (by omega) (by omega) _ bs _ HO.out hB1 (by omega) HP.out.p).mono ?_;rintro e w1 ⟨v1,rfl,ho,hk⟩;have HO2:=Hm (ho);have HK2:=Hm (HK.out.trans hk);clear ho hk;go_wp2;go_ret;exact⟨v1,rfl,HO2.out,HK2.out⟩
 ·subst e2
  have HO:=Hm (zw hown (zd (Below.refl _ _) (.cells #[.int .i64 2,.int .i64 v,.string ⟨n.toArray⟩] 88)));have HK:=Hm ((Kb.refl B x w).alloc hB (.cells #[.int .i64 2,.int .i64 v,.string ⟨n.toArray⟩] 88));have HP:=Hm (hP.on HK.out.1);clear hown hP;have hnl:=YD (hnm rfl);clear hnm;go_enter Tryz.func117,Tryz.ntmps117;go_wp2_with (at_builtin;refine zQ rfl _ _ rfl B _ bs rfl HO.out n rfl hB1 (by omega) ?_);intro v2 w2 ho2 hk2;have HO2:=Hm ho2;have HK2:=Hm (HK.out.trans hk2);clear ho2 hk2;refine Hid.out ?_;refine Lib.hid ?_;go_wp2;go_ret;exact⟨v2,rfl,HO2.out,HK2.out⟩
 ·subst e3
  have HO:=Hm (zw hown (zd (Below.refl _ _) (.cells #[.int .i64 3,.int .i64 v,.string ⟨n.toArray⟩] 88)));have HK:=Hm ((Kb.refl B x w).alloc hB (.cells #[.int .i64 3,.int .i64 v,.string ⟨n.toArray⟩] 88));have HP:=Hm (hP.on HK.out.1);clear hown hP;have h4':v≤12:=by simpa[yr]using h4
  clear h4 hnm;obtain⟨m,rfl⟩:∃m:Nat,v=(m:Int):=⟨v.toNat,by omega⟩;have hw:IntKind.i64.wrap (30+(m:Int))=((30+m:Nat):Int):=by rw[IntKind.wrap_i64];omega
  have hc:=HP.out.t.now.t (30+m) (by omega);have htl:=tw_len (30+m);go_enter Tryz.func117,Tryz.ntmps117;go_wp2_with (at_builtin;refine zQ rfl _ _ rfl B _ bs rfl HO.out (zG (30+m)) rfl hB1 (by omega) ?_);clear hc;intro v2 w2 ho2 hk2;have HO2:=Hm ho2;have HK2:=Hm (HK.out.trans hk2);clear ho2 hk2;refine Hid.out ?_;refine Lib.hid ?_;go_wp2;go_ret;exact⟨v2,rfl,HO2.out,HK2.out⟩
 ·subst e4
  have HO:=Hm (zw hown (zd (Below.refl _ _) (.cells #[.int .i64 4,.int .i64 v,.string ⟨n.toArray⟩] 88)));have HK:=Hm ((Kb.refl B x w).alloc hB (.cells #[.int .i64 4,.int .i64 v,.string ⟨n.toArray⟩] 88));have HP:=Hm (hP.on HK.out.1);clear hown hP;have h4':v≤15:=by simpa[yr]using h4
  clear h4 hnm;go_enter Tryz.func117,Tryz.ntmps117;go_upto_region 7 with fail;have hc0:=zb (zo w (.cells #[.int .i64 4,.int .i64 v,.string ⟨n.toArray⟩] 88)) 1;simp only[qm,qn,qo]at hc0;have HO:=Hm (zw HO.out (Below.refl _ _).drew);have HK:=Hm HK.out.drew;refine wp_region_held_drew (S:=(fun w'=>w'.cell? ⟨w.heap.size,1,none⟩=some (.int .i64 v))) (by kernel_rfl) ?_ (fun hHeld=>?_)
  ·exact hc0
  refine tK 0 ?_ rfl (by kernel_rfl) (fun _ _ _ h=>h) (by rfl) ?_ (by assumption) ?_;rotate_left
  ·intro w hSw;(try dsimp only at hSw);go_simp;(try with_reducible rfl)
  rotate_left;simp only[Act.put,qa,qb,qc,qf,qe,qd];refine tK 2 ?_ rfl (by kernel_rfl) (fun _ _ _ h=>h) (by rfl) ?_ (by assumption) ?_;rotate_left
  ·intro w hSw;(try dsimp only at hSw);go_simp;(try with_reducible rfl)
  rotate_left;simp only[Act.put,qa,qb,qc,qf,qe,qd];refine tK 3 ?_ rfl (by kernel_rfl) (fun _ _ _ h=>h) (by rfl) ?_ (by assumption) ?_;rotate_left
  ·intro w hSw;(try dsimp only at hSw);go_simp;(try with_reducible rfl)
  rotate_left;simp only[Act.put,qa,qb,qc,qf,qe,qd];refine wpAnyH_ready (rs:=[1]) (by kernel_rfl) (by simp) ?_;refine AllReadyH.cons rfl (fun K hK=>?_) ?_
  ·rw[if_pos (by rfl)]
   refine xA _ _ rfl B _ bs rfl HO.out [104,97,115,32] rfl hB1 (by simp;omega) ?_;intro v2 w2 ho2 hk2;have HO:=Hm ho2;have HK:=Hm (HK.out.trans hk2);have hB1:=qq hB HK.out.1.size;have hc2:=zb (hk2.blk (zo w _) (by decide)) 1;clear ho2;refine hK.out _ _ ?_ (fun hHeld=>?_)
   ·exact hc2
   clear hK K
   (try simp only[Act.put,qa,qb,qc,qf,qe,qd])
   refine wpAnyH_ready (rs:=[4]) (by kernel_rfl) (by simp) ?_;refine AllReadyH.cons rfl (fun K hK=>?_) ?_
   ·go_simp
    refine(Zv v _ (by omega) (by omega)).mono ?_;rintro e w3 ⟨rfl,rfl⟩;refine hK.out _ _ ?_ (fun hHeld=>?_)
    ·exact hHeld
    clear hK K
    (try simp only[Act.put,qa,qb,qc,qf,qe,qd])
    refine wpAnyH_ready (rs:=[5]) (by kernel_rfl) (by simp) ?_;refine AllReadyH.cons rfl (fun K hK=>?_) ?_
    ·go_simp
     refine hK.out _ _ ?_ (fun hHeld=>?_)
     ·exact Y9 hHeld _
     clear hK K
     (try simp only[Act.put,qa,qb,qc,qf,qe,qd])
     refine wpAnyH_ready (rs:=[6]) (by kernel_rfl) (by simp) ?_;refine AllReadyH.cons rfl (fun K hK=>?_) ?_
     ·rw[if_pos (by rfl)]
      refine ZU _ _ rfl B _ _ rfl (zw HO.out (zd (Below.refl _ _) _)) _ _ rfl (yW v) (zb (zo _ _) 0) (by simp;omega) (by simp;omega) ?_;intro v4 w4 ho4 hk4;have HO:=Hm ho4;have HK:=Hm ((HK.out.alloc hB1 _).trans hk4);clear ho4;refine hK.out _ _ ?_ (fun hHeld=>?_)
      ·(have hc4:=zb (hk4.blk (zv (hk2.blk (zo w _) (by decide)) _) (by decide)) 1;exact hc4)
      clear hK K
      (try simp only[Act.put,qa,qb,qc,qf,qe,qd])
      refine tK 7 ?_ rfl (by kernel_rfl) (fun _ _ _ h=>h) (by rfl) ?_ (by assumption) ?_;rotate_left
      ·intro w hSw;(try dsimp only at hSw);go_simp;(try with_reducible rfl)
      rotate_left;simp only[Act.put,qa,qb,qc,qf,qe,qd];refine wpAnyH_done (by kernel_rfl) ?_ _;go_wp2;go_ret;exact⟨v4,rfl,by have z:=HO.out;rw[ql]at z;exact z,HK.out⟩
     exact AllReadyH.nil
    exact AllReadyH.nil
   exact AllReadyH.nil
  exact AllReadyH.nil
 ·subst e5
  have HO:=Hm (zw hown (zd (Below.refl _ _) (.cells #[.int .i64 5,.int .i64 v,.string ⟨n.toArray⟩] 88)));have HK:=Hm ((Kb.refl B x w).alloc hB (.cells #[.int .i64 5,.int .i64 v,.string ⟨n.toArray⟩] 88));have HP:=Hm (hP.on HK.out.1);clear hown hP;have h4':v≤15:=by simpa[yr]using h4
  clear h4 hnm;go_enter Tryz.func117,Tryz.ntmps117;go_upto_region 9 with fail;have hc0:=zb (zo w (.cells #[.int .i64 5,.int .i64 v,.string ⟨n.toArray⟩] 88)) 1;simp only[qm,qn,qo]at hc0;have HO:=Hm (zw HO.out (Below.refl _ _).drew);have HK:=Hm HK.out.drew;refine wp_region_held_drew (S:=(fun w'=>w'.cell? ⟨w.heap.size,1,none⟩=some (.int .i64 v))) (by kernel_rfl) ?_ (fun hHeld=>?_)
  ·exact hc0
  refine tK 0 ?_ rfl (by kernel_rfl) (fun _ _ _ h=>h) (by rfl) ?_ (by assumption) ?_;rotate_left
  ·intro w hSw;(try dsimp only at hSw);go_simp;(try with_reducible rfl)
  rotate_left;simp only[Act.put,qa,qb,qc,qf,qe,qd];refine tK 2 ?_ rfl (by kernel_rfl) (fun _ _ _ h=>h) (by rfl) ?_ (by assumption) ?_;rotate_left
  ·intro w hSw;(try dsimp only at hSw);go_simp;(try with_reducible rfl)
  rotate_left;simp only[Act.put,qa,qb,qc,qf,qe,qd];refine tK 3 ?_ rfl (by kernel_rfl) (fun _ _ _ h=>h) (by rfl) ?_ (by assumption) ?_;rotate_left
  ·intro w hSw;(try dsimp only at hSw);go_simp;(try with_reducible rfl)
  rotate_left;simp only[Act.put,qa,qb,qc,qf,qe,qd];refine wpAnyH_ready (rs:=[1]) (by kernel_rfl) (by simp) ?_;refine AllReadyH.cons rfl (fun K hK=>?_) ?_
  ·rw[if_pos (by rfl)]
   refine xA _ _ rfl B _ bs rfl HO.out [115,107,105,108,108,32] rfl hB1 (by simp;omega) ?_;intro v2 w2 ho2 hk2;have HO:=Hm ho2;have HK:=Hm (HK.out.trans hk2);have hB1:=qq hB HK.out.1.size;have hc2:=zb (hk2.blk (zo w _) (by decide)) 1;clear ho2;refine hK.out _ _ ?_ (fun hHeld=>?_)
   ·exact hc2
   clear hK K
   (try simp only[Act.put,qa,qb,qc,qf,qe,qd])
   refine wpAnyH_ready (rs:=[4]) (by kernel_rfl) (by simp) ?_;refine AllReadyH.cons rfl (fun K hK=>?_) ?_
   ·go_simp
    refine(Zv v _ (by omega) (by omega)).mono ?_;rintro e w3 ⟨rfl,rfl⟩;refine hK.out _ _ ?_ (fun hHeld=>?_)
    ·exact hHeld
    clear hK K
    (try simp only[Act.put,qa,qb,qc,qf,qe,qd])
    refine wpAnyH_ready (rs:=[5]) (by kernel_rfl) (by simp) ?_;refine AllReadyH.cons rfl (fun K hK=>?_) ?_
    ·go_simp
     refine hK.out _ _ ?_ (fun hHeld=>?_)
     ·exact Y9 hHeld _
     clear hK K
     (try simp only[Act.put,qa,qb,qc,qf,qe,qd])
     refine wpAnyH_ready (rs:=[6]) (by kernel_rfl) (by simp) ?_;refine AllReadyH.cons rfl (fun K hK=>?_) ?_
     ·rw[if_pos (by rfl)]
      refine ZU _ _ rfl B _ _ rfl (zw HO.out (zd (Below.refl _ _) _)) _ _ rfl (yW v) (zb (zo _ _) 0) (by simp;omega) (by simp;omega) ?_;intro v4 w4 ho4 hk4;have HO:=Hm ho4;have HK:=Hm ((HK.out.alloc hB1 _).trans hk4);clear ho4;refine hK.out _ _ ?_ (fun hHeld=>?_)
      ·(have hc4:=zb (hk4.blk (zv (hk2.blk (zo w _) (by decide)) _) (by decide)) 1;exact hc4)
      clear hK K
      (try simp only[Act.put,qa,qb,qc,qf,qe,qd])
      refine tK 7 ?_ rfl (by kernel_rfl) (fun _ _ _ h=>h) (by rfl) ?_ (by assumption) ?_;rotate_left
      ·intro w hSw;(try dsimp only at hSw);go_simp;(try with_reducible rfl)
      rotate_left;simp only[Act.put,qa,qb,qc,qf,qe,qd];refine wpAnyH_done (by kernel_rfl) ?_ _;go_wp2;go_ret;exact⟨v4,rfl,by have z:=HO.out;rw[ql]at z;exact z,HK.out⟩
     exact AllReadyH.nil
    exact AllReadyH.nil
   exact AllReadyH.nil
  exact AllReadyH.nil
 ·subst e6
  have HO:=Hm (zw hown (zd (Below.refl _ _) (.cells #[.int .i64 6,.int .i64 v,.string ⟨n.toArray⟩] 88)));have HK:=Hm ((Kb.refl B x w).alloc hB (.cells #[.int .i64 6,.int .i64 v,.string ⟨n.toArray⟩] 88));have HP:=Hm (hP.on HK.out.1);clear hown hP;have h4':v≤1:=by simpa[yr]using h4
  clear h4 hnm;obtain⟨m,rfl⟩:∃m:Nat,v=(m:Int):=⟨v.toNat,by omega⟩;have hw:IntKind.i64.wrap (28+(m:Int))=((28+m:Nat):Int):=by rw[IntKind.wrap_i64];omega
  have hc:=HP.out.t.now.t (28+m) (by omega);have htl:=tw_len (28+m);go_enter Tryz.func117,Tryz.ntmps117;go_wp2_with (at_builtin;refine zQ rfl _ _ rfl B _ bs rfl HO.out (zG (28+m)) rfl hB1 (by omega) ?_);clear hc;intro v2 w2 ho2 hk2;have HO2:=Hm ho2;have HK2:=Hm (HK.out.trans hk2);clear ho2 hk2;refine Hid.out ?_;refine Lib.hid ?_;go_wp2;go_ret;exact⟨v2,rfl,HO2.out,HK2.out⟩
def Yj (t:Tr):Prop:=∀(B:Nat) (w:World) (bs:List UInt8) (x nv:Value),Own B w x bs→B≤w.heap.size→Ps B w→Nd w none nv t→bs.length+t.txt.length≤500000000→Calls Tryz.prog 80 #[x,nv] w (App B x w (bs++t.txt))
theorem xb (t:Tr) (hA:Yj t) (hw:t.wf) (least:Int) (B:Nat) (w:World) (bs:List UInt8) (x nv:Value) (hown:Own B w x bs) (hB:B≤w.heap.size) (hP:Ps B w) (h:Nd w none nv t) (hl:bs.length+(par (decide (t.str<least)) t.txt).length≤500000000):
  Calls Tryz.prog 118 #[x,nv,.int .i64 least] w (App B x w (bs++par (decide (t.str<least)) t.txt)):=by
 have HA:=Hm hA;have HW:=Hm hw;have HO:=Hm hown;have HP:=Hm hP;have HD:=Hm h;obtain⟨S,hS'⟩:∃S,S=t.str:=⟨_,rfl⟩;have HSe:=Hm hS';rw[←hS']at hl ⊢;obtain⟨T,hT⟩:∃T,T=t.txt:=⟨_,rfl⟩;have HTe:=Hm hT;rw[←hT]at hl ⊢;clear hA hw hown hP hS' hT
 cases h
 all_goals
  by_cases hs:S<least
  ·have hd:decide (least≤S)=false:=by simp;omega
   have hv:Hid (par (decide (S<least)) T=[40]++T++[41]):=by unfold Hid par;rw[if_pos (by simpa using hs)]
   rw[hv.out]at hl ⊢;simp only[qg,qh,qi]at hl;clear hv hs;go_enter Tryz.func118,Tryz.ntmps118;go_wp2_with fail;refine(Ru _ _ _ _ HD.out HW.out HP.out.t.now.b).mono ?_;rintro e w1 ⟨rfl,hb1⟩;rw[←HSe.out];have HK1:=Hm (Kb.of (x:=x) hb1 hB);have hB1:=qq hB HK1.out.1.size;have HO1:=Hm (zw HO.out hb1);clear hb1;go_wp2_with (at_builtin;refine zX rfl _ _ rfl B _ bs rfl (zw HO1.out (zd (Below.refl _ _) _)) _ _ rfl 40 (zb (zo _ _) 0) (by simp;omega) (by omega) ?_);intro v2 w2 ho2 hk2;have HO2:=Hm ho2;have HK2:=Hm ((HK1.out.alloc hB1 _).trans hk2);have hB2:=qq hB HK2.out.1.size;clear ho2 hk2;refine Hid.out ?_;refine Lib.hid ?_;go_wp2_with fail
   refine(HA.out B _ (bs++[40]) _ _ HO2.out hB2 (HP.out.on HK2.out.1) (HD.out.oth HK2.out) (by rw[←HTe.out];simp;omega)).mono ?_;rintro e w3 ⟨v3,rfl,ho3,hk3⟩;rw[←HTe.out]at ho3;have HO3:=Hm ho3;have HK3:=Hm (HK2.out.trans hk3);have hB3:=qq hB HK3.out.1.size;clear ho3 hk3;go_wp2_with (at_builtin;refine zX rfl _ _ rfl B _ (bs++[40]++T) rfl (zw HO3.out (zd (Below.refl _ _) _)) _ _ rfl 41 (zb (zo _ _) 0) (by simp;omega) (by simp;omega) ?_);intro v4 w4 ho4 hk4;have HO4:=Hm ho4;have HK4:=Hm ((HK3.out.alloc hB3 _).trans hk4);clear ho4 hk4;refine Hid.out ?_;refine Lib.hid ?_;go_wp2;go_ret;exact⟨v4,rfl,by have z:=HO4.out;simpa[ql]using z,HK4.out⟩
  ·have hd:decide (least≤S)=true:=by simp;omega
   have hv:Hid (par (decide (S<least)) T=T):=by unfold Hid par;rw[if_neg (by simpa using hs)]
   rw[hv.out]at hl ⊢;clear hv hs;go_enter Tryz.func118,Tryz.ntmps118;go_wp2_with fail;refine(Ru _ _ _ _ HD.out HW.out HP.out.t.now.b).mono ?_;rintro e w1 ⟨rfl,hb1⟩;rw[←HSe.out];have HK1:=Hm (Kb.of (x:=x) hb1 hB);have hB1:=qq hB HK1.out.1.size;have HO1:=Hm (zw HO.out hb1);clear hb1;go_wp2_with fail;refine(HA.out B _ bs _ _ HO1.out hB1 (HP.out.on HK1.out.1) (HD.out.oth HK1.out) (by rw[←HTe.out];omega)).mono ?_;rintro e w3 ⟨v3,rfl,ho3,hk3⟩;rw[←HTe.out]at ho3;have HO3:=Hm ho3;have HK3:=Hm (HK1.out.trans hk3);clear ho3 hk3;go_wp2;go_ret;exact⟨v3,rfl,HO3.out,HK3.out⟩
def jn (ts:Nat→Tr):Nat→List UInt8
 |0=>[]
 |j+1=>jn ts j++(if j=0 then []else [44,32])++(ts j).txt
theorem SD (ts:Nat→Tr) {j N:Nat} (h:j≤N):(jn ts j).length≤(jn ts N).length:=by
 induction N with
 |zero=>obtain rfl:j=0:=by omega
        exact qp _
 |succ N ih=>
  by_cases e:j=N+1
  ·rw[e];exact qp _
  ·have:=ih (by omega)
   simp only[jn,qg];omega
theorem VK (N:Nat) (ts:Nat→Tr) (vs:Nat→Value) (k:Int) (v:Nat) (n:ByteArray) (g off c:Nat) (B:Nat) (w:World) (bs:List UInt8) (x:Value) (hA:∀i,i<N→Yj (ts i)) (hD:∀i,i<N→Nd w none (vs i) (ts i)) (hk:Nk w g) (hc:∀i,i<N→w.cell? ⟨g,off+i,none⟩=some (vs i)) (hn:N≤3) (hv:v≤2)
  (hown:Own B w x bs) (hB:B≤w.heap.size) (hP:Ps B w) (hl:bs.length+(zG (25+v)).length+2+(jn ts N).length≤500000000):
  Calls Tryz.prog 122 #[x,.agg #[.int .i64 k,.int .i64 (v:Int),.string n,.slice (some ⟨g,off,none⟩) N c]] w (App B x w (bs++zG (25+v)++[40]++jn ts N++[41])):=by
 have HA:=Hm hA;have HD:=Hm hD;have HC:=Hm hc;have HNK:=Hm hk;have HO:=Hm (zw hown (zd (Below.refl _ _) (.cells #[.int .i64 k,.int .i64 (v:Int),.string n,.slice (some ⟨g,off,none⟩) N c] 174)));have HK:=Hm ((Kb.refl B x w).alloc hB (.cells #[.int .i64 k,.int .i64 (v:Int),.string n,.slice (some ⟨g,off,none⟩) N c] 174));have HP:=Hm hP;have hw:IntKind.i64.wrap (25+(v:Int))=((25+v:Nat):Int):=by rw[IntKind.wrap_i64];omega
 have htl:=tw_len (25+v);have ht:=(hP.on HK.out.1).t.now.t (25+v) (by omega);clear hA hD hc hk hown hP;go_enter Tryz.func122,Tryz.ntmps122;go_wp2_with (at_builtin;first|refine zQ rfl _ _ rfl B _ bs rfl HO.out (zG (25+v)) rfl (by simp;omega) (by omega) ?_);intro v2 w2 ho2 hk2;have HO2:=Hm ho2;have HK2:=Hm (HK.out.trans hk2);have hB2:=qq hB HK2.out.1.size;have hbx:=Hm (hk2.blk (zo w _) (by decide));clear ho2 hk2 ht hw;refine Hid.out ?_;refine Lib.hid ?_;go_wp2_with (at_builtin;refine zX rfl _ _ rfl B _ _ rfl (zw HO2.out (zd (Below.refl _ _) _)) _ _ rfl 40 (zb (zo _ _) 0) (by simp;omega) (by simp;omega) ?_);intro v3 w3 ho3 hk3;have HO3:=Hm ho3;have HK3:=Hm ((HK2.out.alloc hB2 _).trans hk3);have hB3:=qq hB HK3.out.1.size
 have hcx:=zb (hk3.blk (zv hbx.out _) (by decide)) 3;simp only[qm,qn,qo]at hcx;clear ho3 hk3 hbx HO2 HO;obtain⟨pre,hpre⟩:∃pre,pre=bs++zG (25+v)++[40]:=⟨_,rfl⟩;have hpl:pre.length+(jn ts N).length+1≤500000000:=by rw[hpre];simp;omega
 have HO3':Hid (Own B w3 v3 pre):=by unfold Hid;rw[hpre];simpa[ql]using HO3.out
 have HPRE:=Hm hpre;clear hpre htl hl HO3;refine Hid.out ?_;refine Lib.hid ?_;go_wp2;go_loopw [0,20] (fun b i wr=>∃j:Nat,j≤N∧i=.int .i64 (j:Int)∧Hid (Own B wr b (pre++jn ts j))∧Hid (Kb B x b w wr)) (fun _ i _=>N- (intOf i).toNat)
 case atStart=>exact⟨0,Nat.zero_le _,rfl,by simpa[jn]using HO3',HK3⟩
 case round=>
  obtain⟨j,hj,rfl,ho,hkr⟩:=hrel;clear hcx;have hBr:=qq hB hkr.out.1.size;have hjl:=SD ts hj;by_cases hlt:j<N
  ·have hj2:=SD ts (show j+1≤N from hlt)
   have e0:wr.cell? ⟨g,off+j,none⟩=some (vs j):=by
    obtain⟨C,fr,hb⟩:=HNK.out;rw[World.cell?_of_block (a:=⟨_,_,none⟩) ((hkr.out.blk hb (by decide)).trans hb.symm)];exact HC.out j hlt
   have k0:(0:Int)≤(j:Int):=by omega
   have k1:(j:Int)<(N:Int):=by omega
   obtain⟨T,u,hu⟩:=(HD.out j hlt).form;have HDj:=Hm (HD.out j hlt);rw[hu]at HDj e0;clear hu;by_cases hz:j=0
   ·have hd:decide ((0:Int)<(j:Int))=false:=by simp;omega
    have hd2:decide (0<j)=false:=by simp;omega
    have hd3:¬0<j:=by omega
    have hjn:Hid (jn ts (j+1)=jn ts j++(ts j).txt):=by unfold Hid;rw[jn,if_pos hz,List.append_nil]
    rw[hjn.out]at hj2;clear hz;go_wp2_with fail;refine(HA.out j hlt B _ (pre++jn ts j) _ _ ho.out hBr (HP.out.on hkr.out.1) (HDj.out.oth hkr.out) (by simp only[qg]at hj2 ⊢;omega)).mono ?_;rintro e w5 ⟨v5,rfl,ho5,hk5⟩;have HO5:Hid (Own B w5 v5 (pre++jn ts (j+1))):=by unfold Hid;rw[hjn.out,←ql];exact ho5
    have HK5:=Hm (hkr.out.trans hk5);clear ho5 hk5 e0;go_wp2;exact⟨⟨j+1,by omega,by go_num,HO5,HK5⟩,by simp[intOf];omega⟩
   ·have hd:decide ((0:Int)<(j:Int))=true:=by simp;omega
    have hd2:0<j:=by omega
    have hjn:Hid (jn ts (j+1)=jn ts j++[44,32]++(ts j).txt):=by unfold Hid;rw[jn,if_neg hz]
    rw[hjn.out]at hj2;go_wp2_with (at_builtin;refine zQ rfl _ _ rfl B _ (pre++jn ts j) rfl ho.out [44,32] rfl hBr (by simp only[qg,qh,qi]at hj2 ⊢;omega) ?_);intro v4 w4 ho4 hk4;have HO4:=Hm ho4;have HK4:=Hm (hkr.out.trans hk4);have hB4:=qq hB HK4.out.1.size;clear ho4 hk4 e0;refine Hid.out ?_;refine Lib.hid ?_;go_wp2_with fail;refine(HA.out j hlt B _ _ _ _ HO4.out hB4 (HP.out.on HK4.out.1) (HDj.out.oth HK4.out) (by simp only[qg,qh,qi]at hj2 ⊢;omega)).mono ?_;rintro e w5 ⟨v5,rfl,ho5,hk5⟩;have HO5:Hid (Own B w5 v5 (pre++jn ts (j+1))):=by unfold Hid;rw[hjn.out];simp only[ql]at ho5 ⊢;exact ho5
    have HK5:=Hm (HK4.out.trans hk5);clear ho5 hk5;go_wp2;exact⟨⟨j+1,by omega,by go_num,HO5,HK5⟩,by simp[intOf];omega⟩
  ·obtain rfl:j=N:=by omega
   have k1:decide ((j:Int)<(j:Int))=false:=by simp
   go_wp2_with (at_builtin;refine zX rfl _ _ rfl B _ (pre++jn ts j) rfl (zw ho.out (zd (Below.refl _ _) _)) _ _ rfl 41 (zb (zo _ _) 0) (by simp;omega) (by simp only[qg];omega) ?_);intro v6 w6 ho6 hk6;have HO6:=Hm ho6;have HK6:=Hm ((hkr.out.alloc hBr _).trans hk6);clear ho6 hk6;refine Hid.out ?_;refine Lib.hid ?_;go_wp2;go_ret;exact⟨v6,rfl,by have z:=HO6.out;rw[HPRE.out]at z;simpa[ql]using z,HK6.out⟩
end Go.Proofs.YtbkajklninmhiaaGreatDoor.Syn
