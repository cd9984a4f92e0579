import Derived.Test.YtbdldkpifanaiaaDoorCr27
set_option maxHeartbeats 3200000
set_option maxRecDepth 100000
set_option linter.unusedVariables false
set_option linter.unusedSimpArgs false
open List renaming setIfInBounds_toArray → qa, set_cons_zero → qb, set_cons_succ → qc, getElem_cons_succ → qd, getElem_cons_zero → qe, getElem_toArray → qf, length_append → qg, length_cons → qh, append_assoc → qj, getElem?_toArray → qk, getElem?_cons_zero → ql, getElem?_cons_succ → qm
open Nat renaming le_refl → qn
namespace Go.Proofs.YtbdldkpifanaiaaDoor.Cd
open Go Go.RowKit Mem
attribute [local go_sem ↓] Go.wp_at_zero Go.wp_at_succ
theorem Yz (a a':Option Addr) (n cap cap':Nat) (V:Nat→Is) (w:World) (hs:zq w a n 4 (fun i=>(V i).cells)) (hs':zq w a' n 4 (fun i=>(V i).cells)) (hn:n≤1048576):
  Calls Tryd.prog 16 #[.slice a n cap,.slice a' n cap'] w fun e w'=>e=.returned (.bool true)∧Below w.heap.size w w':=by
 go_enter Tryd.func16,Tryd.ntmps16;have HS:Hid (zq w a n 4 (fun i=>(V i).cells)):=hs;have HS':Hid (zq w a' n 4 (fun i=>(V i).cells)):=hs';clear hs hs';go_wp2;go_loopw [5] (fun i wr=>∃k:Nat,k≤n∧i=.int .i64 k∧Hid (Below w.heap.size w wr)) (fun i _=>n- (intOf i).toNat)
 case atStart=>exact⟨0,Nat.zero_le _,rfl,Below.refl _ _⟩
 case round=>
  obtain⟨k,hk,rfl,hb⟩:=hrel;by_cases hlt:k<n
  ·rcases HS.out with hs|⟨b,off,rfl,hs⟩
   ·omega
   rcases HS'.out with hs'|⟨b',off',rfl,hs'⟩
   ·omega
   have hr:=zt (hs k hlt) hb.out;have hr':=zt (hs' k hlt) hb.out;obtain⟨O,hO⟩:∃O,O=V k:=⟨_,rfl⟩;simp only[←hO]at hr hr';clear hO;obtain⟨c0,c1,c2,c3⟩:=Is.at hr;obtain⟨e0,e1,e2,e3⟩:=Is.at hr';have HS9:Hid ((fun w'=>w'.cell? ⟨b,off+k*4,none⟩=some (.int .i64 O.p)∧w'.cell? ⟨b,off+k*4+1,none⟩=some (.int .i64 O.a)∧w'.cell? ⟨b,off+k*4+2,none⟩=some (.int .i64 O.b)∧w'.cell? ⟨b,off+k*4+3,none⟩=some (.int .i64 O.c)∧w'.cell? ⟨b',off'+k*4,none⟩=some (.int .i64 O.p)∧w'.cell? ⟨b',off'+k*4+1,none⟩=some (.int .i64 O.a)∧w'.cell? ⟨b',off'+k*4+2,none⟩=some (.int .i64 O.b)∧w'.cell? ⟨b',off'+k*4+3,none⟩=some (.int .i64 O.c)) wr):=⟨c0,c1,c2,c3,e0,e1,e2,e3⟩
   clear hs hs' hr hr' c0 c1 c2 c3 e0 e1 e2 e3;have k0:(0:Int)≤(k:Int):=by omega
   have k1:(k:Int)<(n:Int):=by omega
   go_upto_region 6 with fail;refine wp_region_held_drew (S:=(fun w'=>w'.cell? ⟨b,off+k*4,none⟩=some (.int .i64 O.p)∧w'.cell? ⟨b,off+k*4+1,none⟩=some (.int .i64 O.a)∧w'.cell? ⟨b,off+k*4+2,none⟩=some (.int .i64 O.b)∧w'.cell? ⟨b,off+k*4+3,none⟩=some (.int .i64 O.c)∧w'.cell? ⟨b',off'+k*4,none⟩=some (.int .i64 O.p)∧w'.cell? ⟨b',off'+k*4+1,none⟩=some (.int .i64 O.a)∧w'.cell? ⟨b',off'+k*4+2,none⟩=some (.int .i64 O.b)∧w'.cell? ⟨b',off'+k*4+3,none⟩=some (.int .i64 O.c))) (by kernel_rfl) ?_ (fun hHeld=>?_)
   ·exact HS9.out
   refine tK 0 ?_ rfl (by kernel_rfl) (fun _ _ _ h=>h) (by rfl) ?_ (by assumption) ?_;rotate_left
   ·intro w hSw;(try dsimp only at hSw);go_simp;(try with_reducible rfl)
   rotate_left;simp only[Act.put,qa,qb,qc,qf,qe,qd];refine tK 1 ?_ rfl (by kernel_rfl) (fun _ _ _ h=>h) (by rfl) ?_ (by assumption) ?_;rotate_left
   ·intro w hSw;(try dsimp only at hSw);go_simp;(try with_reducible rfl)
   rotate_left;simp only[Act.put,qa,qb,qc,qf,qe,qd];refine tK 2 ?_ rfl (by kernel_rfl) (fun _ _ _ h=>h) (by rfl) ?_ (by assumption) ?_;rotate_left
   ·intro w hSw;(try dsimp only at hSw);go_simp;(try with_reducible rfl)
   rotate_left;simp only[Act.put,qa,qb,qc,qf,qe,qd];refine tK 3 ?_ rfl (by kernel_rfl) (fun _ _ _ h=>h) (by rfl) ?_ (by assumption) ?_;rotate_left
   ·intro w hSw;(try dsimp only at hSw);go_simp;(try with_reducible rfl)
   rotate_left;simp only[Act.put,qa,qb,qc,qf,qe,qd];refine tK 4 ?_ rfl (by kernel_rfl) (fun _ _ _ h=>h) (by rfl) ?_ (by assumption) ?_;rotate_left
   ·intro w hSw;(try dsimp only at hSw);go_simp;(try with_reducible rfl)
   rotate_left;simp only[Act.put,qa,qb,qc,qf,qe,qd];refine tK 5 ?_ rfl (by kernel_rfl) (fun _ _ _ h=>h) (by rfl) ?_ (by assumption) ?_;rotate_left
   ·intro w hSw;(try dsimp only at hSw);go_simp;(try with_reducible rfl)
   rotate_left;simp only[Act.put,qa,qb,qc,qf,qe,qd];refine tK 6 ?_ rfl (by kernel_rfl) (fun _ _ _ h=>h) (by rfl) ?_ (by assumption) ?_;rotate_left
   ·intro w hSw;(try dsimp only at hSw);go_simp;(try with_reducible rfl)
   rotate_left;simp only[Act.put,qa,qb,qc,qf,qe,qd];refine tK 7 ?_ rfl (by kernel_rfl) (fun _ _ _ h=>h) (by rfl) ?_ (by assumption) ?_;rotate_left
   ·intro w hSw;(try dsimp only at hSw);go_simp;(try with_reducible rfl)
   rotate_left;simp only[Act.put,qa,qb,qc,qf,qe,qd];refine tK 8 ?_ rfl (by kernel_rfl) (fun _ _ _ h=>h) (by rfl) ?_ (by assumption) ?_;rotate_left
   ·intro w hSw;(try dsimp only at hSw);go_simp;(try with_reducible rfl)
   rotate_left;simp only[Act.put,qa,qb,qc,qf,qe,qd];refine wpAnyH_done (by kernel_rfl) ?_ _;go_wp2_with fail;exact⟨⟨k+1,by omega,by first|rfl|go_num,hb.out.drew⟩,by simp[intOf];omega⟩
  ·go_wp2
   go_ret;exact⟨rfl,hb.out⟩
theorem Tb (a1 a2 a3 b1 b2 b3:Option Addr) (c1 c2 c3 d1 d2 d3:Nat) (C:Co) (w:World) (h:Zl w a1 a2 a3 C) (h':Zl w b1 b2 b3 C) (h1:C.n1≤1048576) (h2:C.n2≤1048576) (h3:C.n3≤1048576):
  Calls Tryd.prog 6 #[.agg #[.int .i64 C.R,.int .i64 C.S,.slice a1 C.n1 c1,.slice a2 C.n2 c2,.slice a3 C.n3 c3],.agg #[.int .i64 C.R,.int .i64 C.S,.slice b1 C.n1 d1,.slice b2 C.n2 d2,.slice b3 C.n3 d3]] w fun e w'=>e=.returned (.bool true)∧Below w.heap.size w w':=by
 have H:=Hm h;have H':=Hm h';clear h h';obtain⟨W1,hW1⟩:∃W,W=(w.alloc (Obj.cells #[.int .i64 C.R,.int .i64 C.S,Value.slice a1 C.n1 c1,Value.slice a2 C.n2 c2,Value.slice a3 C.n3 c3] 25)).alloc (Obj.cells #[.int .i64 C.R,.int .i64 C.S,Value.slice b1 C.n1 d1,Value.slice b2 C.n2 d2,Value.slice b3 C.n3 d3] 25):=⟨_,rfl⟩;have HB0:Hid (Below w.heap.size w W1):=by rw[hW1];exact zf (zf (Below.refl _ _) _) _
 have A0:Hid (W1.heap[w.heap.size]? =some (.cells #[.int .i64 C.R,.int .i64 C.S,Value.slice a1 C.n1 c1,Value.slice a2 C.n2 c2,Value.slice a3 C.n3 c3] 25)):=by rw[hW1];exact zh (zi _ _) _
 have A1:Hid (W1.heap[w.heap.size+1]? =some (.cells #[.int .i64 C.R,.int .i64 C.S,Value.slice b1 C.n1 d1,Value.slice b2 C.n2 d2,Value.slice b3 C.n3 d3] 25)):=by rw[hW1];exact zx _ _ _
 go_enter Tryd.func6,Tryd.ntmps6;go_upto_region 1 with fail;rw[←hW1];clear hW1;have k1:=za A0.out 0;have k2:=za A1.out 0;have k3:=za A0.out 1;have k4:=za A1.out 1;have k5:=za A0.out 2;have k6:=za A1.out 2;simp only[qk,ql,qm]at k1 k2 k3 k4 k5 k6;go_wp2_with fail;clear k1 k2 k3 k4 k5 k6;refine(Yz a1 b1 C.n1 c1 d1 C.B1 _ (H.out.b1.below HB0.out) (H'.out.b1.below HB0.out) h1).mono ?_;rintro e w1 ⟨rfl,hb1⟩;have A0:=Hm (ze A0.out hb1);have A1:=Hm (ze A1.out hb1);have HB1:=Hm (zg HB0.out hb1);clear hb1 HB0;have k1:=za A0.out 3;have k2:=za A1.out 3;simp only[qk,ql,qm]at k1 k2;go_wp2_with fail;clear k1 k2
 refine(Yz a2 b2 C.n2 c2 d2 C.B2 _ (H.out.b2.below HB1.out) (H'.out.b2.below HB1.out) h2).mono ?_;rintro e w2 ⟨rfl,hb2⟩;have B0:=Hm (ze A0.out hb2);have B1:=Hm (ze A1.out hb2);have HB2:=Hm (zg HB1.out hb2);clear hb2 HB1 A0 A1;have k1:=za B0.out 4;have k2:=za B1.out 4;simp only[qk,ql,qm]at k1 k2;go_wp2_with fail;clear k1 k2;refine(Yz a3 b3 C.n3 c3 d3 C.B3 _ (H.out.b3.below HB2.out) (H'.out.b3.below HB2.out) h3).mono ?_;rintro e w3 ⟨rfl,hb3⟩;have HB3:=Hm (zg HB2.out hb3);clear hb3 HB2 B0 B1;go_wp2;go_ret;exact⟨rfl,HB3.out⟩
theorem XX {P:Program} (w:World) (src dst e:TypeId) (a:Option Addr) (n c:Nat) (f:List UInt8) (hn:n=f.length) (hr:Parse.Rd w a f) (hs:P.underlying src=some (.slice e)) (he:P.underlying e=some (.int .u8)) (hd:P.underlying dst=some .string):
  (convert src dst (.slice a n c)).run P w=.ok (.string ⟨f.toArray⟩) w:=by
 by_cases h0:n=0
 ·have:f=[]:=List.eq_nil_of_length_eq_zero (by omega)
  subst this;subst h0;rw[run_convert_bytes_string w src dst e _ 0 c hs he hd]
  cases a<;>simp[Conv.bytesToString,loadCells]
  all_goals rfl
 ·obtain⟨g,o,rfl⟩:=hr.some (by omega)
  rw[hn];exact run_convert_bytes_back w src dst e ⟨g,o,none⟩ c f hs he hd (fun j hj=>by rw[Addr.add_mid];exact hr.at j hj)
theorem VQ {w:World} {a:Option Addr} {t:List UInt8} (h:Dec.RdB w a t):Parse.Rd w a t:=by
 intro j hj;rcases h with h|⟨g,o,h1,h2⟩
 ·rw[h]at hj;exact absurd hj (Nat.not_lt_zero _)
 ·exact⟨g,o,h1,h2 j hj⟩
theorem Ug (a b:Option Addr) (n c d:Nat) (t:List UInt8) (w:World) (hn:n=t.length) (h:Dec.RdB w a t) (h':Dec.RdB w b t):
  Calls Tryd.prog 11 #[.slice a n c,.slice b n d] w fun e w'=>e=.returned (.bool true)∧w'=w:=by
 have r1:(convert 22 9 (.slice a n c)).run Tryd.prog w=.ok (.string ⟨t.toArray⟩) w:=XX w _ _ 5 a n c t hn (VQ h) Tryd.underlying22 Tryd.underlying5 Tryd.underlying9;have r2:(convert 22 9 (.slice b n d)).run Tryd.prog w=.ok (.string ⟨t.toArray⟩) w:=XX w _ _ 5 b n d t hn (VQ h') Tryd.underlying22 Tryd.underlying5 Tryd.underlying9;clear h h' hn;go_enter Tryd.func11,Tryd.ntmps11;go_wp2;go_ret;exact⟨rfl,rfl⟩
end Go.Proofs.YtbdldkpifanaiaaDoor.Cd
namespace Go.Proofs.YtbdldkpifanaiaaDoor.Enc
open Go Go.RowKit Mem ValC
attribute [local go_sem ↓] Go.wp_at_zero Go.wp_at_succ
theorem and127 (z:Nat) (h:z<2 ^ 40):bits BinOp.and IntKind.u64 (z:Int) 127=((z % 128:Nat):Int):=by
 have:=(bits_nat .u64 40 (by decide) (fun z h0 h1=>by rw[IntKind.wrap_u64];omega) z 127 h (by decide)).1;rw[show((127:Nat):Int)=127 from rfl]at this;rw[this];have e:z&&& 127=z % 128:=Nat.and_two_pow_sub_one_eq_mod z 7;rw[e]
theorem or128 (z:Nat) (h:z<128):bits BinOp.or IntKind.u64 (z:Int) 128=((128+z:Nat):Int):=by
 have:=(bits_nat .u64 40 (by decide) (fun z h0 h1=>by rw[IntKind.wrap_u64];omega) z 128 (by omega) (by decide)).2;rw[show((128:Nat):Int)=128 from rfl]at this;rw[this];have e:128|||z=2 ^ 7*1+z:=(Nat.two_pow_add_eq_or_of_lt (i:=7) h 1).symm
 rw[Nat.or_comm,e]
theorem UO (n:Int) (w:World) (h0:-1000000000≤n) (h1:n≤1000000000):Calls Tryd.prog 36 #[.int .i64 n] w fun e w'=>e=.returned (.int .u64 (zig n:Int))∧w'=w:=by
 by_cases hn:n<0
 ·have e1:(zig n:Int)=-2*n-1:=by unfold zig;rw[if_pos hn];omega
  rw[e1];go_enter Tryd.func36,Tryd.ntmps36;go_wp2;go_ret;exact⟨rfl,rfl⟩
 ·have e1:(zig n:Int)=2*n:=by unfold zig;rw[if_neg hn];omega
  have hn':decide (n<0)=false:=by simpa using hn
  rw[e1];go_enter Tryd.func36,Tryd.ntmps36;go_wp2;go_ret;exact⟨rfl,rfl⟩
theorem Va (zs:List Int) (k:Nat) (h:k<zs.length):vrs (zs.take (k+1))=vrs (zs.take k)++vr zs[k]:=by
 rw[List.take_add_one,Zd,List.getElem?_eq_getElem h];simp[vrs]
theorem Tz (m:Nat) (h:m<256):((UInt8.ofNat m).toNat:Int)=(m:Int):=by rw[UInt8.toNat_ofNat'];omega
theorem take_len {zs:List Int} (h:∀z∈zs,-1000000000≤z∧z≤1000000000) (k:Nat) (hk:k≤zs.length):(vrs (zs.take k)).length≤5*k:=by
 have:=vrs_len (l:=zs.take k) (fun z hz=>h z (List.mem_of_mem_take hz));rw[List.length_take]at this;omega
theorem UD (B:Nat) (bs:List UInt8) (zs:List Int) (v:Value) (g:Nat) (w:World) (N:Nat) (hN:N=zs.length) (hown:Own B w v bs) (hB:B≤w.heap.size)
  (hblk:w.heap[g]? =some (.cells (zs.map (Value.int .i64)).toArray 2)) (hz:∀z∈zs,-1000000000≤z∧z≤1000000000) (hl:zs.length≤20) (hbs:bs.length≤10000000):
  Calls Tryd.prog 19 #[v,.slice (some ⟨g,0,none⟩) N N] w fun e w'=>∃v',e=.returned v'∧Own B w' v' (bs++vrs zs)∧Kp B w w':=by
 obtain⟨i0,hi,hz0,hz1,hz2⟩:=info_parts infoB;have HO:=Hm hown;have HL:=Hm hblk;have HZ:=Hm hz;have HN:=Hm hN;rw[←hN]at hl;clear hown hblk hz hN;obtain⟨a,ca,hv⟩:=Own.shape HO.out;rw[hv]at HO ⊢;clear hv;go_enter Tryd.func19,Tryd.ntmps19;go_wp2;go_loopw [0,10] (fun v i wr=>∃k:Nat,k≤N∧i=.int .i64 k∧Hid (Own B wr v (bs++vrs (zs.take k)))∧Hid (Kp B w wr)) (fun _ i _=>N- (intOf i).toNat)
 case atStart=>exact⟨0,by omega,rfl,by unfold Hid;rw[List.take_zero,vrs,List.append_nil];exact HO.out,Kp.refl _ _⟩
 case round=>
  obtain⟨k,hk,rfl,ho,hb⟩:=hrel;have hnl:=take_len HZ.out k (by rw[←HN.out];exact hk);by_cases hlt:k<N
  ·have hkl:k<zs.length:=by rw[←HN.out];exact hlt
   have hc:=za (hb.out.blk HL.out (by decide)) k;have hzb:=HZ.out _ (List.getElem_mem hkl);have hs:Hid (vrs (zs.take (k+1))=vrs (zs.take k)++vr zs[k]):=Va zs k hkl;have hc':wr.cell? ⟨g,k,none⟩=some (.int .i64 zs[k]):=by rw[hc];simp[hkl]
   clear hc;have hvr:=Xk hzb.1 hzb.2;obtain⟨bb,hbb⟩:∃l,l=bs++vrs (zs.take k):=⟨_,rfl⟩;have hbl:bb.length≤10000100:=by rw[hbb,qg];omega
   rw[←hbb]at ho;have HBB:=Hm hbb;clear hbb;obtain⟨x,hx⟩:∃x,x=zs[k]:=⟨_,rfl⟩;rw[←hx]at hc' hzb hs hvr;clear hx;have k0:(0:Int)≤(k:Int):=by omega
   have k1:(k:Int)<(N:Int):=by omega
   obtain⟨a,ca,hv⟩:=Own.shape ho.out;rw[hv]at ho ⊢;clear hv;go_wp2_with (go_at_call 36;refine(UO x _ hzb.1 hzb.2).mono ?_;rintro e w' ⟨rfl,rfl⟩);clear hc';have hzz:zig x<2 ^ 32:=by unfold zig;split<;>omega
   go_loopw [0,7] (fun v z wq=>∃(y:Nat) (pre:List UInt8),z=.int .u64 (y:Int)∧y<2 ^ 32∧Hid (pre++grp y=grp (zig x))∧Hid (Own B wq v (bb++pre))∧Hid (Kp B w wq)) (fun _ z _=>(intOf z).toNat)
   case atStart=>exact⟨zig x,[],rfl,hzz,rfl,by unfold Hid;rw[List.append_nil];exact ho.out,hb⟩
   case round=>
    obtain⟨y,pre,rfl,hy,hp,hq,hkp⟩:=hrel
    have hpl:pre.length≤5:=by
     have:=congrArg List.length hp.out;rw[qg]at this;unfold vr at hvr;omega
    have hsz:=hkp.out.1.size;obtain⟨a2,ca2,hv⟩:=Own.shape hq.out;rw[hv,qg]at hq ⊢;clear hv;by_cases hlo:y<128
    ·have q1:decide ((127:Int)<(y:Int))=false:=by simp;omega
     have HE:Hid (grp (zig x)=pre++[UInt8.ofNat y]):=by unfold Hid;rw[←hp.out,xP hlo]
     have HU:=Hm (Tz y (by omega));go_wp2_with (at_builtin;refine wpList_append_own _ rfl _ _ 22 rfl B 5 i0 (.int .u8 0) 1 1 Tryd.underlying22 hi hz0 hz1 hz2 rfl (by decide) _ _ _ rfl (hq.out.alloc _) ⟨wr.heap.size,0,none⟩ 1 1 [Value.int .u8 (y:Int)] rfl rfl (by intro j u' hj;match j,hj with|0,hj=>simp at hj;subst hj;simp[Addr.add]) (by intro u' hu';simp at hu';subst hu';rfl) (by rw[qg];unfold maxLen;omega) (by rw[qg];omega) (by simp;omega) ?_);intro v3 w3 hown3 hgrow3 _;have hb3:Hid (Kp B w w3):=(hkp.out.alloc (by omega) _).grown (hq.out.alloc _) hgrow3 (by simp;omega)
     have ho3:Hid (Own B w3 v3 (bs++vrs (zs.take (k+1)))):=by
      unfold Hid;rw[hs.out,←qj,←HBB.out,show vr x=grp (zig x)from rfl,HE.out,←qj];exact own_snoc' (by rw[qg]) HU.out hown3
     clear hown3 hgrow3;refine Hid.out ?_;refine Lib.hid ?_;go_wp2;exact⟨⟨k+1,by omega,by go_num,ho3,hb3⟩,by simp[intOf];omega⟩
    ·have q1:(127:Int)<(y:Int):=by omega
     obtain⟨t,ht⟩:∃t,t=y % 128:=⟨_,rfl⟩;have ht1:t<128:=by omega
     have HE:Hid ((pre++[UInt8.ofNat (128+t)])++grp (y / 128)=grp (zig x)):=by unfold Hid;rw[←hp.out,ZV hlo,←ht];simp
     have HU:Hid (((UInt8.ofNat (128+t)).toNat:Int)=bits BinOp.or IntKind.u64 (bits BinOp.and IntKind.u64 (y:Int) 127) 128 % 256):=by unfold Hid;rw[Tz _ (by omega),and127 y (by omega),←ht,or128 t ht1];omega
     clear ht ht1;go_wp2_with (at_builtin;refine wpList_append_own _ rfl _ _ 22 rfl B 5 i0 (.int .u8 0) 1 1 Tryd.underlying22 hi hz0 hz1 hz2 rfl (by decide) _ _ _ rfl (hq.out.alloc _) ⟨wr.heap.size,0,none⟩ 1 1 [Value.int .u8 (bits BinOp.or IntKind.u64 (bits BinOp.and IntKind.u64 (y:Int) 127) 128 % 256)] rfl rfl (by intro j u' hj;match j,hj with|0,hj=>simp at hj;subst hj;simp[Addr.add]) (by intro u' hu';simp at hu';subst hu';rfl) (by rw[qg];unfold maxLen;omega) (by rw[qg];omega) (by simp;omega) ?_);intro v3 w3 hown3 hgrow3 _;have hb3:Hid (Kp B w w3):=(hkp.out.alloc (by omega) _).grown (hq.out.alloc _) hgrow3 (by simp;omega)
     have ho3:Hid (Own B w3 v3 (bb++(pre++[UInt8.ofNat (128+t)]))):=by
      unfold Hid;rw[←qj];exact own_snoc' (by rw[qg]) HU.out hown3
     clear hown3 hgrow3;refine Hid.out ?_;refine Lib.hid ?_;go_wp2;exact⟨⟨y / 128,_,by rw[Int.natCast_ediv];rfl,by omega,HE,ho3,hb3⟩,by simp[intOf];omega⟩
  ·obtain rfl:N=k:=by omega
   go_wp2;go_ret;refine⟨_,rfl,?_,hb.out⟩;have:=ho.out;rwa[List.take_of_length_le (by rw[←HN.out];exact qn _)]at this
theorem xB (B:Nat) (bs:List UInt8) (v:Value) (a:Option Addr) (n cap:Nat) (X:Nat→Is) (w:World) (hown:Own B w v bs) (hB:B≤w.heap.size) (hs:zq w a n 4 (fun i=>(X i).cells)) (hlow:∀b,a=some b→b.block<B) (hg:YP n X) (hbs:bs.length≤1000000):
  Calls Tryd.prog 20 #[v,.slice a n cap] w fun e w'=>∃v',e=.returned v'∧Own B w' v' (bs++vrs (xi X n))∧Kp B w w':=by
 have HO:=Hm hown;have HS:=Hm hs;have HG:=Hm hg;have HW:=Hm hlow;have hn:=hg.len;clear hown hs hg hlow;obtain⟨a0,ca,hv⟩:=Own.shape HO.out;rw[hv]at HO ⊢;clear hv;go_enter Tryd.func20,Tryd.ntmps20;go_wp2;go_loopw [0,9] (fun v i wr=>∃k:Nat,k≤n∧i=.int .i64 k∧Hid (Own B wr v (bs++vrs (xi X k)))∧Hid (Kp B w wr)) (fun _ i _=>n- (intOf i).toNat)
 case atStart=>exact⟨0,by omega,rfl,by unfold Hid;rw[xi,vrs,List.append_nil];exact HO.out,Kp.refl _ _⟩
 case round=>
  obtain⟨k,hk,rfl,ho,hb⟩:=hrel;have hkl:=Yi HG.out hk;by_cases hlt:k<n
  ·rcases HS.out with hs|⟨b,off,rfl,hs⟩
   ·omega
   have hlo:b<B:=HW.out _ rfl
   have hr:wr.rangeAt b (off+k*4) (X k).cells:=fun j u hu=>by
    have:=hs k hlt j u hu;rw[hb.out.1.cell (p:=⟨b,off+k*4+j,none⟩) hlo];exact this
   obtain⟨e0,e1,e2,e3⟩:=Is.at hr;clear hs hr;have hsz:=hb.out.1.size;have k0:(0:Int)≤(k:Int):=by omega
   have k1:(k:Int)<(n:Int):=by omega
   have hsm:=Hm (HG.out.small k hlt);obtain⟨bb,hbb⟩:∃l,l=bs++vrs (xi X k):=⟨_,rfl⟩;have hl1:bb.length≤10000000:=by rw[hbb,qg];omega
   rw[←hbb]at ho;have HBB:=Hm hbb;clear hbb;obtain⟨a1,ca1,hv⟩:=Own.shape ho.out;rw[hv]at ho ⊢;clear hv;go_wp2_with fail;clear e0 e1 e2 e3;have hbk:((wr.alloc (.cells #[.int .i64 (X k).p,.int .i64 (X k).a,.int .i64 (X k).b,.int .i64 (X k).c] 60)).alloc (.cells #[.int .i64 (X k).p,.int .i64 (X k).a,.int .i64 (X k).b,.int .i64 (X k).c] 2)).heap[wr.heap.size+1]? =some (.cells ((yZ (X k)).map (Value.int .i64)).toArray 2):=zx wr _ _;have ho1:Own B ((wr.alloc (.cells #[.int .i64 (X k).p,.int .i64 (X k).a,.int .i64 (X k).b,.int .i64 (X k).c] 60)).alloc (.cells #[.int .i64 (X k).p,.int .i64 (X k).a,.int .i64 (X k).b,.int .i64 (X k).c] 2)) (.slice a1 bb.length ca1) bb:=(ho.out.alloc _).alloc _
   have hB1:B≤((wr.alloc (.cells #[.int .i64 (X k).p,.int .i64 (X k).a,.int .i64 (X k).b,.int .i64 (X k).c] 60)).alloc (.cells #[.int .i64 (X k).p,.int .i64 (X k).a,.int .i64 (X k).b,.int .i64 (X k).c] 2)).heap.size:=by simp;omega
   refine(UD B bb (yZ (X k)) (.slice a1 bb.length ca1) (wr.heap.size+1) _ 4 rfl ho1 hB1 hbk hsm.out (by simp[yZ]) hl1).mono ?_;rintro e w2 ⟨v2,rfl,ho2,hk2⟩
   have ho3:Hid (Own B w2 v2 (bs++vrs (xi X (k+1)))):=by
    unfold Hid;rw[xi,Zd,←qj,←HBB.out];exact ho2
   have hb3:Hid (Kp B w w2):=((hb.out.alloc (by omega) _).alloc (by simp;omega) _).trans hk2;clear ho2 hk2;go_wp2;exact⟨⟨k+1,by omega,by go_num,ho3,hb3⟩,by simp[intOf];omega⟩
  ·obtain rfl:n=k:=by omega
   go_wp2;go_ret;exact⟨_,rfl,ho.out,hb.out⟩
theorem WR (a1 a2 a3:Option Addr) (c1 c2 c3:Nat) (C:Co) (w:World) (h:Zl w a1 a2 a3 C) (h1:C.n1≤1048576) (h2:C.n2≤1048576) (h3:C.n3≤1048576) (l1:∀b,a1=some b→b.block<w.heap.size) (l2:∀b,a2=some b→b.block<w.heap.size) (l3:∀b,a3=some b→b.block<w.heap.size) (hT:YU w):
  Calls Tryd.prog 8 #[.agg #[.int .i64 C.R,.int .i64 C.S,.slice a1 C.n1 c1,.slice a2 C.n2 c2,.slice a3 C.n3 c3]] w fun e w'=>∃v,e=.returned v∧Own (w.heap.size+1) w' v (answer C)∧Below w.heap.size w w':=by
 have H:=Hm h;have HT:=Hm hT;have HL:=Hm (And.intro l1 (And.intro l2 l3));clear h hT l1 l2 l3;have hK:Below w.heap.size w ((w.alloc (.cells #[.int .i64 C.R,.int .i64 C.S,.slice a1 C.n1 c1,.slice a2 C.n2 c2,.slice a3 C.n3 c3] 25)).alloc (.cells #[] 5)):=by go_grown
 have HK:=Hm hK;go_enter Tryd.func8,Tryd.ntmps8;go_wp2_with fail;refine(Vz a1 a2 a3 c1 c2 c3 C _ (H.out.below HK.out) h1 h2 h3 (HT.out.below HK.out)).mono ?_;rintro e w1 ⟨rfl,hb1⟩;have HB1:=Hm (zg HK.out hb1);have A1:=Hm (ze (zh (zi w (.cells #[.int .i64 C.R,.int .i64 C.S,.slice a1 C.n1 c1,.slice a2 C.n2 c2,.slice a3 C.n3 c3] 25)) (.cells #[] 5)) hb1);have O1:=Hm ((Wp w (.cells #[.int .i64 C.R,.int .i64 C.S,.slice a1 C.n1 c1,.slice a2 C.n2 c2,.slice a3 C.n3 c3] 25)).below hb1);clear hb1 hK
 cases hok:yD C with
 |false=>
  have ha:Hid (answer C=[]):=by unfold Hid answer;rw[hok];rfl
  go_wp2;go_ret;exact⟨_,rfl,by rw[ha.out];exact O1.out,HB1.out⟩
 |true=>
  have ha:Hid (answer C=vrs (xm C)++(vrs (xi C.B1 C.n1)++(vrs (xi C.B2 C.n2)++vrs (xi C.B3 C.n3)))):=by unfold Hid answer;rw[if_pos hok,encB,xI,Zd,Zd,Zd]
  have HG:=Hm (good_co hok);have x0:=za A1.out 0;have x1:=za A1.out 1;have x2:=za A1.out 2;have x3:=za A1.out 3;have x4:=za A1.out 4;simp only[qk,ql,qm]at x0 x1 x2 x3 x4;have zz:=zu A1.out;go_wp2_with fail;clear x0 x1 x2 x3 x4;have hbk:(w1.alloc (.cells #[.int .i64 C.R,.int .i64 C.S,.int .i64 (C.n1:Int),.int .i64 (C.n2:Int),.int .i64 (C.n3:Int)] 2)).heap[w1.heap.size]? =some (.cells ((xm C).map (Value.int .i64)).toArray 2):=zi w1 _;have ho1:Own (w.heap.size+1) (w1.alloc (.cells #[.int .i64 C.R,.int .i64 C.S,.int .i64 (C.n1:Int),.int .i64 (C.n2:Int),.int .i64 (C.n3:Int)] 2)) (.slice (some ⟨w.heap.size+1,0,none⟩) 0 0) []:=O1.out.alloc _
  refine(UD (w.heap.size+1) [] (xm C) (.slice (some ⟨w.heap.size+1,0,none⟩) 0 0) w1.heap.size _ 5 rfl ho1 (by simp;omega) hbk (Zt HG.out) (by simp[xm]) (by simp)).mono ?_;rintro e w2 ⟨v2,rfl,ho2,hk2⟩;rw[List.nil_append]at ho2;have HB2:=Hm ((HB1.out.alloc HB1.out.size _).trans (hk2.1.mono (Nat.le_succ _)));have A2:Hid (w2.heap[w.heap.size]? =some (.cells #[.int .i64 C.R,.int .i64 C.S,.slice a1 C.n1 c1,.slice a2 C.n2 c2,.slice a3 C.n3 c3] 25)):=(hk2.1.block _ (Nat.lt_succ_self _)).trans (zh A1.out _);obtain⟨t0,ht0⟩:∃l,l=vrs (xm C):=⟨_,rfl⟩;have hl0:t0.length≤25:=by rw[ht0];exact Ut HG.out
  rw[←ht0]at ho2 ha;have O2:=Hm ho2;clear ho2 hk2 ht0 hbk ho1 HB1 A1 O1;have x2:=za A2.out 2;simp only[qk,ql,qm]at x2;obtain⟨d1,e1,hv⟩:=Own.shape O2.out;rw[hv]at O2 ⊢;clear hv;go_wp2_with fail;clear x2;refine(xB (w.heap.size+1) t0 (.slice d1 t0.length e1) a1 C.n1 c1 C.B1 w2 O2.out (by have:=A2.out;have:=zu this;omega) (H.out.b1.below HB2.out) (fun b hb=>Nat.lt_succ_of_lt (HL.out.1 b hb)) HG.out.b1 (by omega)).mono ?_;rintro e w3 ⟨v3,rfl,ho3,hk3⟩;have HB3:=Hm (HB2.out.trans (hk3.1.mono (Nat.le_succ _)));have A3:Hid (w3.heap[w.heap.size]? =some (.cells #[.int .i64 C.R,.int .i64 C.S,.slice a1 C.n1 c1,.slice a2 C.n2 c2,.slice a3 C.n3 c3] 25)):=(hk3.1.block _ (Nat.lt_succ_self _)).trans A2.out
  obtain⟨t1,ht1⟩:∃l,l=t0++vrs (xi C.B1 C.n1):=⟨_,rfl⟩;have hl1:t1.length≤25+1*327680:=by rw[ht1,qg];have:=Yi HG.out.b1 (qn _);have:=HG.out.b1.len;omega
  rw[←ht1]at ho3;have O3:=Hm ho3;have HT1:=Hm ht1;clear ho3 hk3 ht1 HB2 A2 O2;have x3:=za A3.out 3;simp only[qk,ql,qm]at x3;obtain⟨d2,e2,hv⟩:=Own.shape O3.out;rw[hv]at O3 ⊢;clear hv;go_wp2_with fail;clear x3;refine(xB (w.heap.size+1) t1 (.slice d2 t1.length e2) a2 C.n2 c2 C.B2 w3 O3.out (by have:=A3.out;have:=zu this;omega) (H.out.b2.below HB3.out) (fun b hb=>Nat.lt_succ_of_lt (HL.out.2.1 b hb)) HG.out.b2 (by omega)).mono ?_;rintro e w4 ⟨v4,rfl,ho4,hk4⟩;have HB4:=Hm (HB3.out.trans (hk4.1.mono (Nat.le_succ _)));have A4:Hid (w4.heap[w.heap.size]? =some (.cells #[.int .i64 C.R,.int .i64 C.S,.slice a1 C.n1 c1,.slice a2 C.n2 c2,.slice a3 C.n3 c3] 25)):=(hk4.1.block _ (Nat.lt_succ_self _)).trans A3.out
  obtain⟨t2,ht2⟩:∃l,l=t1++vrs (xi C.B2 C.n2):=⟨_,rfl⟩;have hl2:t2.length≤25+2*327680:=by rw[ht2,qg];have:=Yi HG.out.b2 (qn _);have:=HG.out.b2.len;omega
  rw[←ht2]at ho4;have O4:=Hm ho4;have HT2:=Hm ht2;clear ho4 hk4 ht2 HB3 A3 O3;have x4:=za A4.out 4;simp only[qk,ql,qm]at x4;obtain⟨d3,e3,hv⟩:=Own.shape O4.out;rw[hv]at O4 ⊢;clear hv;go_wp2_with fail;clear x4;refine(xB (w.heap.size+1) t2 (.slice d3 t2.length e3) a3 C.n3 c3 C.B3 w4 O4.out (by have:=A4.out;have:=zu this;omega) (H.out.b3.below HB4.out) (fun b hb=>Nat.lt_succ_of_lt (HL.out.2.2 b hb)) HG.out.b3 (by omega)).mono ?_;rintro e w5 ⟨v5,rfl,ho5,hk5⟩;have HB5:=Hm (HB4.out.trans (hk5.1.mono (Nat.le_succ _)));have A5:Hid (w5.heap[w.heap.size]? =some (.cells #[.int .i64 C.R,.int .i64 C.S,.slice a1 C.n1 c1,.slice a2 C.n2 c2,.slice a3 C.n3 c3] 25)):=(hk5.1.block _ (Nat.lt_succ_self _)).trans A4.out
  obtain⟨t3,ht3⟩:∃l,l=t2++vrs (xi C.B3 C.n3):=⟨_,rfl⟩;have hl3:t3.length≤25+3*327680:=by rw[ht3,qg];have:=Yi HG.out.b3 (qn _);have:=HG.out.b3.len;omega
  rw[←ht3]at ho5;have O5:=Hm ho5;have HT3:=Hm ht3;clear ho5 hk5 ht3 HB4 A4 O4;go_wp2;go_ret;refine⟨_,rfl,?_,HB5.out⟩;rw[ha.out,←qj,←HT1.out,←qj,←HT2.out,←HT3.out];exact O5.out
end Go.Proofs.YtbdldkpifanaiaaDoor.Enc
namespace Go.Proofs.YtbdldkpifanaiaaDoor.Dec
open Go Go.RowKit Mem ValC Enc
attribute [local go_sem ↓] Go.wp_at_zero Go.wp_at_succ
theorem Up (x:Int) (w:World):Calls Tryd.prog 14 #[.int .i64 x,.int .i64 0,.int .i64 16384] w fun e w'=>e=.returned (.bool (inB x 0 16384))∧w'=w:=by
 by_cases h0:0≤x
 ·by_cases h1:x≤16384
  ·have:inB x 0 16384=true:=by simp[inB];omega
   rw[this];go_enter Tryd.func14,Tryd.ntmps14;go_wp2;go_ret;exact⟨rfl,rfl⟩
  ·have:inB x 0 16384=false:=by simp[inB];omega
   rw[this];have h1':decide (x≤16384)=false:=by simp;omega
   go_enter Tryd.func14,Tryd.ntmps14;go_wp2;go_ret;exact⟨rfl,rfl⟩
 ·have:inB x 0 16384=false:=by simp[inB];omega
  rw[this];have h0':decide (0≤x)=false:=by simp;omega
  go_enter Tryd.func14,Tryd.ntmps14;go_wp2;go_ret;exact⟨rfl,rfl⟩
theorem Xm:∀(m:Nat) (t:List Int),t.length=4*m→∃L:List Is,L.length=m∧zO L=t
 |0,t,h=>⟨[],rfl,by rw[List.eq_nil_of_length_eq_zero (by omega:t.length=0)];rfl⟩
 |m+1,a::b::c::d::r,h=>by
  obtain⟨L,h1,h2⟩:=Xm m r (by simp at h;omega);exact⟨⟨a,b,c,d⟩::L,by simp[h1],by rw[←h2];rfl⟩
 |m+1,[],h=>by simp at h
 |m+1,[_],h=>by simp at h;omega
 |m+1,[_,_],h=>by simp at h;omega
 |m+1,[_,_,_],h=>by simp at h;omega
theorem Vk (L:List Is):ints (zO L)=L.flatMap Is.cells:=by
 induction L with
 |nil=>rfl
 |cons x r ih=>
  rw[zO,List.flatMap_cons,List.flatMap_cons,xf,←ih];rfl
theorem ZN {w:World} {g:Nat} {l pre post:List Int} {L:List Is} (hc:∀j u,(ints l)[j]? =some u→w.cell? ⟨g,j,none⟩=some u) (hl:l=pre++(zO L++post)) {o:Nat} (ho:o=pre.length):zq w (some ⟨g,o,none⟩) L.length 4 (fun i=>(L.getD i ⟨0,0,0,0⟩).cells):=by
 refine Or.inr ⟨g,o,rfl,fun i hi j u hu=>?_⟩
 have hj:j<4:=by
  obtain⟨hl,-⟩:=List.getElem?_eq_some_iff.1 hu;rw[Is.len]at hl;exact hl
 rw[Nat.add_assoc];refine hc _ _ ?_;rw[hl,xf,xf,Vk];have hp:(ints pre).length=o:=by rw[ho];simp[ints]
 rw[List.getElem?_append_right (by omega),hp,show o+(i*4+j) -o=i*4+j by omega];have hf:=flat_get L i j hi hj;rw[List.getElem?_append_left]
 ·rw[hf];exact hu
 ·rw[hu]at hf
  exact(List.getElem?_eq_some_iff.1 hf).1
theorem Ve {bs:List UInt8} {R S:Int} {X Y Z:Nat} {t:List Int} (h:nums bs=some (R::S::(X:Int)::(Y:Int)::(Z:Int)::t)) (hX:X≤16384) (hY:Y≤16384) (hZ:Z≤16384) (ht:t.length=4*(X+Y+Z)):
  ∃L1 L2 L3:List Is,L1.length=X∧L2.length=Y∧L3.length=Z∧t=zO L1++(zO L2++zO L3)∧Shape bs ⟨R,S,L1,L2,L3⟩:=by
 obtain⟨L1,a1,b1⟩:=Xm X (t.take (4*X)) (by rw[List.length_take];omega);obtain⟨L2,a2,b2⟩:=Xm Y ((t.drop (4*X)).take (4*Y)) (by rw[List.length_take,List.length_drop];omega);obtain⟨L3,a3,b3⟩:=Xm Z ((t.drop (4*X)).drop (4*Y)) (by rw[List.length_drop,List.length_drop];omega);have e:t=zO L1++(zO L2++zO L3):=by rw[b1,b2,b3,List.take_append_drop,List.take_append_drop]
 refine⟨L1,L2,L3,a1,a2,a3,e,?_,by show L1.length≤_;omega,by show L2.length≤_;omega,by show L3.length≤_;omega⟩;rw[h,e,Dc.all];simp[a1,a2,a3]
theorem Zz {bs:List UInt8} {R S x y z:Int} {t:List Int} (h:nums bs=some (R::S::x::y::z::t)) (hn:¬(inB x 0 16384=true∧inB y 0 16384=true∧inB z 0 16384=true∧(t.length:Int)=4*(x+y+z))):yY bs:=by
 intro d hd;apply hn;obtain⟨t',ht,htl⟩:=xh d;have:=hd.1;rw[h,ht]at this;simp only[Option.some.injEq,List.cons.injEq]at this;obtain⟨-,-,h3,h4,h5,h6⟩:=this;have q1:=hd.2.1;have q2:=hd.2.2.1;have q3:=hd.2.2.2;subst h6;simp only[inB,Bool.and_eq_true,decide_eq_true_eq];omega
theorem Wk {bs:List UInt8} (h:nums bs=none):yY bs:=fun d hd=>by rw[hd.1]at h;cases h
theorem Vf {bs:List UInt8} {l:List Int} (h:nums bs=some l) (hl:l.length<5):yY bs:=fun d hd=>by
 obtain⟨t',ht,htl⟩:=xh d;have:=hd.1;rw[h,ht]at this;injection this with this;rw[this]at hl;simp only[qh]at hl;omega
end Go.Proofs.YtbdldkpifanaiaaDoor.Dec
