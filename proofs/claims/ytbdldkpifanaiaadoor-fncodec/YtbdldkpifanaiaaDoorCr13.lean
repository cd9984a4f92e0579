import Derived.Test.YtbdldkpifanaiaaDoorCr12
set_option maxHeartbeats 4000000
set_option maxRecDepth 100000
set_option linter.unusedVariables false
set_option linter.unusedSimpArgs false
open List renaming length_append → qg, length_cons → qh, getElem?_toArray → qk, getElem?_cons_zero → ql, getElem?_cons_succ → qm
open Nat renaming le_refl → qn, lt_of_le_of_lt → qr
namespace Go.Proofs.YtbdldkpifanaiaaDoor.ValCS
open Go Go.RowKit Go.Sort Mem ValC
attribute [local go_sem ↓] Go.wp_at_zero Go.wp_at_succ
theorem yJ (C:Co) (a1 a2 a3:Option Addr) (c1 c2 c3:Nat) (a:Option Addr) (n cap:Nat) (B:Nat→Is) (w:World) (hs:zq w a n 4 (fun i=>(B i).cells)) (hn:n≤1048576) (hR0:13≤C.R) (hR1:C.R≤1000) (hS0:0≤C.S) (hS1:C.S≤100):
  Calls Tryd.prog 15 #[.agg #[.int .i64 C.R,.int .i64 C.S,.slice a1 C.n1 c1,.slice a2 C.n2 c2,.slice a3 C.n3 c3],.slice a n cap] w fun e w'=>e=.returned (.bool (yE C.R C.S n B))∧Below w.heap.size w w':=by
 have H:=Hm hs;clear hs;by_cases g1:(16384:Int)<(n:Int)
 ·have hv:yE C.R C.S n B=false:=by simp[yE];omega
  rw[hv];clear hv;go_enter Tryd.func15,Tryd.ntmps15;go_wp2;go_ret;exact⟨rfl,by go_grown⟩
 have d1:decide ((16384:Int)<(n:Int))=false:=by simpa using g1
 go_enter Tryd.func15,Tryd.ntmps15;go_wp2;go_loopw [5] (fun i wr=>∃k:Nat,k≤n∧i=.int .i64 k∧Hid (Below w.heap.size w wr)∧Hid (wr.heap[w.heap.size]? =some (.cells #[.int .i64 C.R,.int .i64 C.S,.slice a1 C.n1 c1,.slice a2 C.n2 c2,.slice a3 C.n3 c3] 25))∧Hid (Zc k (fun i=>okI C.R C.S i n (B i))=true)) (fun i _=>n- (intOf i).toNat)
 case atStart=>exact⟨0,Nat.zero_le _,rfl,by unfold Hid;go_grown,zi _ _,rfl⟩
 case round=>
  obtain⟨k,hk,rfl,hb,hx,ha⟩:=hrel;by_cases hlt:k<n
  ·rcases H.out with hs|⟨b,off,rfl,hs⟩
   ·omega
   obtain⟨e0,e1,e2,e3⟩:=Is.at (zt (hs k hlt) hb.out);clear hs;have k0:(0:Int)≤(k:Int):=by omega
   have k1:(k:Int)<(n:Int):=by omega
   have x0:=za hx.out 0;have x1:=za hx.out 1;have x2:=za hx.out 2;have x3:=za hx.out 3;have x4:=za hx.out 4;simp only[qk,ql,qm]at x0 x1 x2 x3 x4;go_wp2_with fail
   go_region_held3 (fun w'=>w'.cell? ⟨w.heap.size,0,none⟩=some (.int .i64 C.R)∧w'.cell? ⟨w.heap.size,1,none⟩=some (.int .i64 C.S)∧w'.cell? ⟨w.heap.size,2,none⟩=some (.slice a1 C.n1 c1)∧w'.cell? ⟨w.heap.size,3,none⟩=some (.slice a2 C.n2 c2)∧w'.cell? ⟨w.heap.size,4,none⟩=some (.slice a3 C.n3 c3)∧w'.cell? ⟨b,off+k*4,none⟩=some (.int .i64 (B k).p)∧w'.cell? ⟨b,off+k*4+1,none⟩=some (.int .i64 (B k).a)∧w'.cell? ⟨b,off+k*4+2,none⟩=some (.int .i64 (B k).b)∧w'.cell? ⟨b,off+k*4+3,none⟩=some (.int .i64 (B k).c)) (first|go_keep|((repeat' constructor)<;>exact zw hb1 (by first|assumption|(simp[*];done)))) ((go_at_call 30;refine(goodS C a1 a2 a3 c1 c2 c3 k n (B k) _ hR0 hR1 hS0 hS1 k0 (by omega)).mono ?_;rintro e w1 ⟨rfl,hb1⟩))
   have hb2:Hid (Below w.heap.size w w1):=zg hb.out.drew hb1;have hx1:=Hm (ze (w:=wr.drew) hx.out hb1);clear hb1 hb hx x0 x1 x2 x3 x4 e0 e1 e2 e3
   cases hg:okI C.R C.S k n (B k)with
   |false=>
    have hv:Hid (yE C.R C.S n B=false):=Z5 hlt hg;go_wp2;go_ret;exact⟨zR hv.out.symm,hb2.out⟩
   |true=>
    have ha':Hid (Zc (k+1) (fun i=>okI C.R C.S i n (B i))=true):=Z6 ha.out hg;go_wp2;exact⟨⟨k+1,by omega,by go_num,hb2,hx1,ha'⟩,by simp[intOf];omega⟩
  ·have hkn:k=n:=by omega
   subst hkn;go_wp2;go_ret;exact⟨zR (by simp[yE,ha.out];omega),hb.out⟩
theorem validS (a1 a2 a3:Option Addr) (c1 c2 c3:Nat) (C:Co) (w:World) (h:Zl w a1 a2 a3 C) (h1:C.n1≤1048576) (h2:C.n2≤1048576) (h3:C.n3≤1048576):
  Calls Tryd.prog 5 #[.agg #[.int .i64 C.R,.int .i64 C.S,.slice a1 C.n1 c1,.slice a2 C.n2 c2,.slice a3 C.n3 c3]] w fun e w'=>e=.returned (.bool (yD C))∧Below w.heap.size w w':=by
 have H:=Hm h;clear h
 cases g1:inB C.R 13 1000 with
 |false=>
  go_enter Tryd.func5,Tryd.ntmps5;go_wp2_with (go_at_call 14;refine(inS _ _ _ _).mono ?_;rintro e w' ⟨rfl,rfl⟩);go_ret;exact⟨zR (by simp[yD,g1]),by go_grown⟩
 |true=>
  cases g2:inB C.S 0 100 with
  |false=>
   go_enter Tryd.func5,Tryd.ntmps5;go_wp2_with (go_at_call 14;refine(inS _ _ _ _).mono ?_;rintro e w' ⟨rfl,rfl⟩);go_ret;exact⟨zR (by simp[yD,g2]),by go_grown⟩
  |true=>
   have r0:13≤C.R∧C.R≤1000:=by simpa[inB]using g1
   have r1:0≤C.S∧C.S≤100:=by simpa[inB]using g2
   go_enter Tryd.func5,Tryd.ntmps5;go_wp2_with (go_at_call 14;refine(inS _ _ _ _).mono ?_;rintro e w' ⟨rfl,rfl⟩);have hK:Below w.heap.size w (w.alloc (.cells #[.int .i64 C.R,.int .i64 C.S,.slice a1 C.n1 c1,.slice a2 C.n2 c2,.slice a3 C.n3 c3] 25)):=by go_grown
   refine(yJ C a1 a2 a3 c1 c2 c3 _ _ _ C.B1 _ (H.out.b1.below hK) h1 r0.1 r0.2 r1.1 r1.2).mono ?_;rintro e w1 ⟨rfl,hb1⟩;have HB1:=Hm (zg hK hb1);have A1:=Hm (ze (zi w _) hb1);clear hb1 hK
   cases o1:yE C.R C.S C.n1 C.B1 with
   |false=>
    go_wp2;go_ret;exact⟨zR (by simp[yD,o1]),HB1.out⟩
   |true=>
    have x0:=za A1.out 0;have x1:=za A1.out 1;have x2:=za A1.out 2;have x3:=za A1.out 3;have x4:=za A1.out 4;simp only[qk,ql,qm]at x0 x1 x2 x3 x4;go_wp2_with fail;clear x0 x1 x2 x3 x4;refine(yJ C a1 a2 a3 c1 c2 c3 _ _ _ C.B2 _ (H.out.b2.below HB1.out) h2 r0.1 r0.2 r1.1 r1.2).mono ?_;rintro e w2 ⟨rfl,hb2⟩;have HB2:=Hm (zg HB1.out hb2);have A2:=Hm (ze A1.out hb2);clear hb2 HB1 A1
    cases o2:yE C.R C.S C.n2 C.B2 with
    |false=>
     go_wp2;go_ret;exact⟨zR (by simp[yD,o2]),HB2.out⟩
    |true=>
     have x0:=za A2.out 0;have x1:=za A2.out 1;have x2:=za A2.out 2;have x3:=za A2.out 3;have x4:=za A2.out 4;simp only[qk,ql,qm]at x0 x1 x2 x3 x4;go_wp2_with fail;clear x0 x1 x2 x3 x4;refine(yJ C a1 a2 a3 c1 c2 c3 _ _ _ C.B3 _ (H.out.b3.below HB2.out) h3 r0.1 r0.2 r1.1 r1.2).mono ?_;rintro e w3 ⟨rfl,hb3⟩;have HB3:=Hm (zg HB2.out hb3);clear hb3 HB2 A2;go_wp2;go_ret;exact⟨zR (by simp[yD,g1,g2,o1,o2]),HB3.out⟩
end Go.Proofs.YtbdldkpifanaiaaDoor.ValCS
namespace Go.Proofs.YtbdldkpifanaiaaDoor.Enc
open Go Go.RowKit Mem ValC
attribute [local go_sem ↓] Go.wp_at_zero Go.wp_at_succ
theorem VB (m:Nat) (h:m<256):((UInt8.ofNat m).toNat:Int)=(m:Int):=by rw[UInt8.toNat_ofNat'];omega
theorem WP:∀(k:Nat) (z:Nat) (w:World),z≤k→z<2 ^ 32→Calls Tryd.prog 53 #[.int .i64 (z:Int)] w fun e w'=>∃v,e=.returned v∧Own w.heap.size w' v (grp z)∧Below w.heap.size w w':=by
 intro k
 induction k with
 |zero=>
  intro z w hk hn;obtain rfl:z=0:=by omega
  go_enter Tryd.func53,Tryd.ntmps53;go_wp2;go_ret;exact⟨_,rfl,by rw[xP (by omega)];exact Yd w _ _ rfl (by simp),by go_grown⟩
 |succ m ih=>
  intro z w hk hn;by_cases hlt:z<128
  ·rw[xP hlt]
   have HU:=Hm (VB z (by omega));have q1:(z:Int)<128:=by omega
   go_enter Tryd.func53,Tryd.ntmps53;go_wp2;go_ret;refine⟨_,rfl,Yd w _ _ ?_ (by simp),by go_grown⟩;have:=HU.out;simp[Lib.byteCells];omega
  ·have HD:=Hm (WO 4 (z / 128) (by omega))
   have HU:=Hm (VB (128+z % 128) (by omega));obtain⟨i0,hi,hz0,hz1,hz2⟩:=info_parts infoB;have q1:decide ((z:Int)<128)=false:=by simp;omega
   have hdv:(z:Int) / 128=((z / 128:Nat):Int):=by omega
   have IH:Hid (∀w:World,Calls Tryd.prog 53 #[.int .i64 ((z:Int) / 128)] w fun e w'=>∃v,e=.returned v∧Own w.heap.size w' v (grp (z / 128))∧Below w.heap.size w w'):=fun w=>by rw[hdv];exact ih (z / 128) w (by omega) (by omega)
   have hg0:=WN (z / 128)
   have hn0:Own w.heap.size (w.alloc (.cells #[.int .u8 (128+(z:Int) % 128)] 5)) (.slice (some ⟨w.heap.size,0,none⟩) 1 1) [UInt8.ofNat (128+z % 128)]:=by
    refine Yd w [UInt8.ofNat (128+z % 128)] _ ?_ (by simp);have:=HU.out;simp only[Lib.byteCells,List.map_cons,List.map_nil,this]
    congr 3
   have HN0:=Hm hn0;rw[ZV hlt];obtain⟨gg,hgg⟩:∃l,l=grp (z / 128):=⟨_,rfl⟩;rw[←hgg]at IH hg0 HD ⊢;obtain⟨b0,hb0⟩:∃b,b=UInt8.ofNat (128+z % 128):=⟨_,rfl⟩;rw[←hb0]at HN0 ⊢;clear ih hdv hn0 hgg hb0 HU;go_enter Tryd.func53,Tryd.ntmps53;go_wp2_with fail;refine(IH.out _).mono ?_;rintro e w1 ⟨v1,rfl,ho1,hb1⟩;obtain⟨g,cap,rfl,hg,hcl⟩:=Own.form ho1 hg0;have HC:=Hm hcl;have HO:=Hm (HN0.out.below hb1);have HB:=Hm (zg (w:=w) (by go_grown) hb1);clear ho1 hb1 hcl HN0 IH;have hsz:=HB.out.size
   go_wp2_with (at_builtin;refine wpList_append_own _ rfl _ _ 22 rfl w.heap.size 5 i0 (.int .u8 0) 1 1 Tryd.underlying22 hi hz0 hz1 hz2 rfl (by decide) _ _ _ rfl HO.out ⟨g,0,none⟩ gg.length cap (Lib.byteCells gg) rfl (by rw[Lib.byteCells_length];omega) HC.out (byteCells_one gg) (by have:=HD.out;simp only[List.length_singleton];unfold maxLen;omega) (by have:=HD.out;simp only[List.length_singleton];omega) hsz ?_);intro v2 w2 hown2 hgrow _;have hb2:Below w.heap.size w w2:=HB.out.grown hgrow hsz (fun k hk=>(HO.out.lt k hk).1);have ho2:Own w.heap.size w2 v2 (b0::gg):=own_app' (bs:=[b0]) (cs:=gg) rfl rfl hown2;clear hown2 hgrow;go_wp2;go_ret;exact⟨v2,rfl,ho2,hb2⟩
theorem varS (n:Int) (w:World) (h0:-1000000000≤n) (h1:n≤1000000000):Calls Tryd.prog 38 #[.int .i64 n] w fun e w'=>∃v,e=.returned v∧Own w.heap.size w' v (vr n)∧Below w.heap.size w w':=by
 by_cases hn:n<0
 ·have e1:(zig n:Int)=-2*n-1:=by unfold zig;rw[if_pos hn];omega
  have hG:Hid (∀w:World,Calls Tryd.prog 53 #[.int .i64 (-2*n-1)] w fun e w'=>∃v,e=.returned v∧Own w.heap.size w' v (vr n)∧Below w.heap.size w w'):=fun w=>by
   rw[show -2*n-1=(zig n:Int) by omega];exact WP (zig n) (zig n) w (qn _) (by omega)
  clear e1;go_enter Tryd.func38,Tryd.ntmps38;go_wp2_with fail;refine(hG.out _).mono ?_;rintro e w1 ⟨v1,rfl,ho1,hb1⟩;go_wp2;go_ret;exact⟨v1,rfl,ho1,hb1⟩
 ·have e1:(zig n:Int)=2*n:=by unfold zig;rw[if_neg hn];omega
  have hn':decide (n<0)=false:=by simpa using hn
  have hG:Hid (∀w:World,Calls Tryd.prog 53 #[.int .i64 (2*n)] w fun e w'=>∃v,e=.returned v∧Own w.heap.size w' v (vr n)∧Below w.heap.size w w'):=fun w=>by
   rw[show 2*n=(zig n:Int) by omega];exact WP (zig n) (zig n) w (qn _) (by omega)
  clear e1;go_enter Tryd.func38,Tryd.ntmps38;go_wp2_with fail;refine(hG.out _).mono ?_;rintro e w1 ⟨v1,rfl,ho1,hb1⟩;go_wp2;go_ret;exact⟨v1,rfl,ho1,hb1⟩
theorem Yo {B s n:Nat} {e:TypeId} {w:World} {v:Value} {xs:List Value} (h:w.ownsRow B e s v n xs):∃a c,v=.slice a n c:=by
 rcases h.2 with⟨rfl,h0⟩|⟨g,cap,cur,rfl,h⟩
 ·exact⟨none,0,by rw[h0]⟩
 ·exact⟨_,_,rfl⟩
end Go.Proofs.YtbdldkpifanaiaaDoor.Enc
namespace Go.Proofs.YtbdldkpifanaiaaDoor.Dec
open Go Go.RowKit Mem ValC Enc
def hib:List UInt8→Nat
 |[]=>0
 |c::r=>if 128≤c.toNat then hib r+1 else 0
def yg:List UInt8→Nat
 |[]=>0
 |c::r=>c.toNat % 128+128*yg r
def unz (z:Nat):Int:=if z % 2=1 then -((z / 2:Nat):Int) -1 else ((z / 2:Nat):Int)
def one (b:List UInt8):Option (Int×List UInt8):=
 if hib b<b.length∧hib b<5∧¬(0<hib b∧(b.getD (hib b) 0).toNat=0)then some (unz (yg (b.take (hib b+1))),b.drop (hib b+1))else none
theorem Y5 {b r:List UInt8} {n:Int} (h:one b=some (n,r)):r.length<b.length:=by
 unfold one at h
 split at h
 ·rename_i hc
  injection h with h;injection h with _ h;rw[←h,List.length_drop];omega
 ·cases h
def nums (b:List UInt8):Option (List Int):=
 if b=[]then some []else
 match h:one b with
 |none=>none
 |some (n,r)=>(nums r).map (n::·)
termination_by b.length
decreasing_by exact Y5 h
theorem xH:nums []=some []:=by rw[nums,if_pos rfl]
theorem Zh {b:List UInt8} (hb:b≠[]) (h:one b=none):nums b=none:=by
 rw[nums,if_neg hb]
 split
 ·rfl
 ·rename_i h';rw[h]at h';cases h'
theorem Zg {b r:List UInt8} {n:Int} (h:one b=some (n,r)):nums b=(nums r).map (n::·):=by
 have hb:b≠[]:=by intro e;subst e;simp[one,hib]at h
 rw[nums,if_neg hb]
 split
 ·rename_i h';rw[h]at h';cases h'
 ·rename_i n' r' h';rw[h]at h';injection h' with h';injection h' with h1 h2;subst h1;subst h2;rfl
theorem hib_le (b:List UInt8):hib b≤b.length:=by
 induction b with
 |nil=>simp[hib]
 |cons c r ih=>unfold hib;split<;>simp<;>omega
theorem hib_lt {b:List UInt8} {j:Nat} (h:j<hib b):128≤(b.getD j 0).toNat:=by
 induction b generalizing j with
 |nil=>simp[hib]at h
 |cons c r ih=>
  unfold hib at h
  split at h
  ·cases j with
   |zero=>simpa using ‹128≤c.toNat›
   |succ m=>simpa using ih (j:=m) (by omega)
  ·omega
theorem Us {b:List UInt8} (h:hib b<b.length):(b.getD (hib b) 0).toNat<128:=by
 induction b with
 |nil=>simp at h
 |cons c r ih=>
  unfold hib at h ⊢
  split
  ·rename_i hc
   rw[if_pos hc]at h;simpa using ih (by simpa using h)
  ·rename_i hc
   simp;omega
theorem Ur {b:List UInt8} {j:Nat} (hj:j<b.length) (h1:∀i,i<j→128≤(b.getD i 0).toNat) (h2:(b.getD j 0).toNat<128):hib b=j:=by
 rcases Nat.lt_trichotomy (hib b) j with h|h|h
 ·have:=Us (b:=b) (by omega);have:=h1 _ h;omega
 ·exact h
 ·have:=hib_lt h;omega
theorem Uq {b:List UInt8} {j:Nat} (hj:j≤b.length) (h1:∀i,i<j→128≤(b.getD i 0).toNat):j≤hib b:=by
 rcases Nat.lt_or_ge (hib b) j with h|h
 ·have:=Us (b:=b) (by omega);have:=h1 _ h;omega
 ·exact h
theorem VA (l:List UInt8) (c:UInt8):yg (l++[c])=yg l+128 ^ l.length*(c.toNat % 128):=by
 induction l with
 |nil=>simp[yg]
 |cons x r ih=>
  rw[List.cons_append,yg,ih,yg,qh,Nat.pow_succ,Nat.mul_add,←Nat.add_assoc]
  congr 1
  rw[←Nat.mul_assoc,Nat.mul_comm 128]
theorem Xl (l:List UInt8):yg l<128 ^ l.length:=by
 induction l with
 |nil=>simp[yg]
 |cons x r ih=>rw[yg,qh,Nat.pow_succ];omega
def zO (L:List Is):List Int:=L.flatMap yZ
structure Dc where
 (R S:Int) (L1 L2 L3:List Is)
def Dc.all (d:Dc):List Int:=[d.R,d.S,(d.L1.length:Int),(d.L2.length:Int),(d.L3.length:Int)]++(zO d.L1++(zO d.L2++zO d.L3))
def Shape (bs:List UInt8) (d:Dc):Prop:=nums bs=some d.all∧d.L1.length≤16384∧d.L2.length≤16384∧d.L3.length≤16384
theorem yh (L:List Is):(zO L).length=4*L.length:=by
 induction L with
 |nil=>rfl
 |cons x r ih=>rw[zO,List.flatMap_cons,qg];unfold zO at ih;rw[ih];simp[yZ];omega
theorem YH {L M:List Is} (h:zO L=zO M):L=M:=by
 induction L generalizing M with
 |nil=>
  cases M with
  |nil=>rfl
  |cons y s=>simp[zO,yZ]at h
 |cons x r ih=>
  cases M with
  |nil=>simp[zO,yZ]at h
  |cons y s=>
   simp only[zO,List.flatMap_cons,yZ,List.cons_append,List.nil_append,List.cons.injEq]at h;obtain⟨h1,h2,h3,h4,h5⟩:=h;have:=ih (M:=s) h5;subst this
   cases x;cases y
   simp_all
theorem dc_inj {d e:Dc} (h:d.all=e.all):d=e:=by
 obtain⟨R,S,L1,L2,L3⟩:=d;obtain⟨R',S',M1,M2,M3⟩:=e;simp only[Dc.all,List.cons_append,List.nil_append,List.cons.injEq]at h;obtain⟨h1,h2,h3,h4,h5,h6⟩:=h;have l1:L1.length=M1.length:=by omega
 have l2:L2.length=M2.length:=by omega
 have k1:=List.append_inj h6 (by rw[yh,yh,l1]);have k2:=List.append_inj k1.2 (by rw[yh,yh,l2]);rw[h1,h2,YH k1.1,YH k2.1,YH k2.2]
theorem YY {bs:List UInt8} {d e:Dc} (h:Shape bs d) (h':Shape bs e):d=e:=dc_inj (Option.some.inj (h.1.symm.trans h'.1))
def Live (bs:List UInt8) (pre:List Int) (rest:List UInt8):Prop:=nums bs=(nums rest).map (pre++·)
def yY (bs:List UInt8):Prop:=∀d,¬Shape bs d
theorem YC (bs:List UInt8):Live bs [] bs:=by unfold Live;simp
theorem yR {bs rest r:List UInt8} {pre:List Int} {n:Int} (h:Live bs pre rest) (h1:one rest=some (n,r)):Live bs (pre++[n]) r:=by
 unfold Live at*;rw[h,Zg h1];simp[Option.map_map,Function.comp_def]
theorem xh (d:Dc):∃t,d.all=d.R::d.S::(d.L1.length:Int)::(d.L2.length:Int)::(d.L3.length:Int)::t∧t.length=4*(d.L1.length+d.L2.length+d.L3.length):=by
 refine⟨zO d.L1++(zO d.L2++zO d.L3),rfl,?_⟩;rw[qg,qg,yh,yh,yh];omega
theorem xy {bs rest:List UInt8} {pre:List Int} {d:Dc} (h:Live bs pre rest) (hd:Shape bs d):∃l,nums rest=some l∧d.all=pre++l:=by
 unfold Live at h;rw[hd.1]at h
 cases hr:nums rest with
 |none=>rw[hr]at h;cases h
 |some l=>rw[hr]at h;exact⟨l,rfl,Option.some.inj h⟩
theorem dead {bs rest:List UInt8} {pre:List Int} (h:Live bs pre rest) (h1:one rest=none) (hp:pre.length<5∨∃R S x y z t,pre=R::S::x::y::z::t∧(t.length:Int)<4*(x+y+z)):yY bs:=by
 intro d hd;obtain⟨l,hl,he⟩:=xy h hd;by_cases hr:rest=[]
 ·subst hr
  rw[xH]at hl;have hl':l=[]:=(Option.some.inj hl).symm;subst hl';rw[List.append_nil]at he;obtain⟨t,ht,htl⟩:=xh d;rw[ht]at he;rcases hp with hp|⟨R,S,x,y,z,t',hp,htl'⟩
  ·rw[←he]at hp;simp at hp;omega
  ·rw[hp]at he
   simp only[List.cons.injEq]at he;obtain⟨-,-,h3,h4,h5,h6⟩:=he;subst h6;omega
 ·rw[Zh hr h1]at hl;cases hl
theorem Uy {bs rest:List UInt8} {pre t:List Int} {R S x:Int} (h:Live bs pre rest) (hp:pre=R::S::x::t) (hx:x<0∨16384<x):yY bs:=by
 intro d hd;obtain⟨l,hl,he⟩:=xy h hd;obtain⟨t',ht,htl⟩:=xh d;rw[ht,hp]at he;simp only[List.cons_append,List.cons.injEq]at he;have:=hd.2.1;omega
theorem Vs {bs rest:List UInt8} {pre t:List Int} {R S x y:Int} (h:Live bs pre rest) (hp:pre=R::S::x::y::t) (hx:y<0∨16384<y):yY bs:=by
 intro d hd;obtain⟨l,hl,he⟩:=xy h hd;obtain⟨t',ht,htl⟩:=xh d;rw[ht,hp]at he;simp only[List.cons_append,List.cons.injEq]at he;have:=hd.2.2.1;omega
theorem Vr {bs rest:List UInt8} {pre t:List Int} {R S x y z:Int} (h:Live bs pre rest) (hp:pre=R::S::x::y::z::t) (hx:z<0∨16384<z):yY bs:=by
 intro d hd;obtain⟨l,hl,he⟩:=xy h hd;obtain⟨t',ht,htl⟩:=xh d;rw[ht,hp]at he;simp only[List.cons_append,List.cons.injEq]at he;have:=hd.2.2.2;omega
theorem Vj {b:List UInt8} (hb:b≠[]) {l:List Int} (h:nums b=some l):l≠[]:=by
 cases h1:one b with
 |none=>rw[Zh hb h1]at h;cases h
 |some p=>
  obtain⟨n,r⟩:=p;rw[Zg h1]at h
  cases hr:nums r with
  |none=>rw[hr]at h;cases h
  |some m=>rw[hr]at h;have:=Option.some.inj h;rw[←this];simp
theorem Vq {bs rest:List UInt8} {e:Dc} (h:Live bs e.all rest) (hr:rest≠[]):yY bs:=by
 intro d hd;obtain⟨l,hl,he⟩:=xy h hd;have hl0:=Vj hr hl;obtain⟨t,ht,htl⟩:=xh d;obtain⟨t',ht',htl'⟩:=xh e;rw[ht,ht']at he;simp only[List.cons_append,List.cons.injEq]at he;obtain⟨-,-,h3,h4,h5,h6⟩:=he;have:=congrArg List.length h6;rw[qg]at this;have:0<l.length:=List.length_pos_iff.2 hl0;omega
theorem alive {bs:List UInt8} {e:Dc} (h:Live bs e.all []) (h1:e.L1.length≤16384) (h2:e.L2.length≤16384) (h3:e.L3.length≤16384):Shape bs e:=by
 refine⟨?_,h1,h2,h3⟩;unfold Live at h;rw[h,xH];simp
def RdB (w:World) (a:Option Addr) (bs:List UInt8):Prop:=bs=[]∨∃g o,a=some ⟨g,o,none⟩∧∀j (h:j<bs.length),w.cell? ⟨g,o+j,none⟩=some (.int .u8 (bs[j].toNat:Int))
theorem RdB.below {w w':World} {a:Option Addr} {bs:List UInt8} (h:RdB w a bs) (hb:Below w.heap.size w w'):RdB w' a bs:=by
 rcases h with h|⟨g,o,ha,h⟩
 ·exact Or.inl h
 ·exact Or.inr ⟨g,o,ha,fun j hj=>zw hb (h j hj)⟩
structure De (w:World) (r:Nat) (lo:Nat) (rest:List UInt8) (f:Bool) (a:Option Addr) (c:Nat):Prop where
 x:w.heap[r]? =some (.cells #[.slice a rest.length c,.bool f] 39)
 cap:rest.length≤c
 rd:RdB w a rest
 low:∀p,a=some p→p.block<lo
 len:rest.length≤1048576
end Go.Proofs.YtbdldkpifanaiaaDoor.Dec
namespace Go.Proofs.YtbdldkpifanaiaaDoor.Dec
open Go Go.RowKit Mem ValC Enc
attribute [local go_sem ↓] Go.wp_at_zero Go.wp_at_succ
theorem XG (z:Nat) (w:World) (h:z<2 ^ 40):Calls Tryd.prog 51 #[.int .u64 (z:Int)] w fun e w'=>e=.returned (.int .i64 (unz z))∧w'=w:=by
 by_cases hz:z % 2=1
 ·have e1:unz z=-((z:Int) / 2) -1:=by unfold unz;rw[if_pos hz];omega
  have q:(((z:Int) % 2)==1)=true:=by simp;omega
  rw[e1];go_enter Tryd.func51,Tryd.ntmps51;go_wp2;go_ret;exact⟨rfl,rfl⟩
 ·have e1:unz z=(z:Int) / 2:=by unfold unz;rw[if_neg hz];omega
  have q:(((z:Int) % 2)==1)=false:=by simp;omega
  rw[e1];go_enter Tryd.func51,Tryd.ntmps51;go_wp2;go_ret;exact⟨rfl,rfl⟩
theorem shl_or (v b k:Nat) (hv:v<128 ^ k) (hb:b<256) (hk:k<5):bits BinOp.or IntKind.u64 (v:Int) (IntKind.u64.wrap (IntKind.u64.wrap (bits BinOp.and IntKind.u8 (b:Int) 127)*2 ^ (7*k)))=((v+128 ^ k*(b % 128):Nat):Int):=by
 have h1:bits BinOp.and IntKind.u8 (b:Int) 127=((b % 128:Nat):Int):=by
  have:=(bits_nat .u8 8 (by decide) (fun z h0 h1=>by rw[IntKind.wrap_u8];omega) b 127 hb (by decide)).1;rw[show((127:Nat):Int)=127 from rfl]at this;rw[this,show b&&& 127=b % 128 from Nat.and_two_pow_sub_one_eq_mod b 7]
 have hp:(2:Nat) ^ (7*k)=128 ^ k:=by rw[Nat.pow_mul]
 have hp4:(128:Nat) ^ k≤128 ^ 4:=Nat.pow_le_pow_right (by omega) (by omega)
 have hx:128 ^ k*(b % 128)<128 ^ 5:=by
  have:b % 128<128:=Nat.mod_lt _ (by omega);exact qr (Nat.mul_le_mul_right _ hp4) (by omega)
 have h2:IntKind.u64.wrap (IntKind.u64.wrap ((b % 128:Nat):Int)*2 ^ (7*k))=((128 ^ k*(b % 128):Nat):Int):=by
  have e:IntKind.u64.wrap ((b % 128:Nat):Int)=((b % 128:Nat):Int):=by rw[IntKind.wrap_u64];omega
  have e2:((b % 128:Nat):Int)*2 ^ (7*k)=((128 ^ k*(b % 128):Nat):Int):=by
   rw[Int.natCast_mul,Int.mul_comm,←hp];simp
  rw[e,e2,IntKind.wrap_u64];omega
 rw[h1,h2];have h3:=(bits_nat .u64 40 (by decide) (fun z h0 h1=>by rw[IntKind.wrap_u64];omega) v (128 ^ k*(b % 128)) (by omega) (by omega)).2;rw[h3];have h4:2 ^ (7*k)*(b % 128)+v=2 ^ (7*k)*(b % 128)|||v:=Nat.two_pow_add_eq_or_of_lt (by rw[hp];exact hv) _
 rw[hp]at h4;rw[Nat.or_comm,←h4,Nat.add_comm]
theorem Zu (w:World) (kk r i:Nat) (v:Value):w.grownBy ((w.drewN kk).setCell ⟨r,i,none⟩ v) (some r):=
 ⟨rfl,rfl,rfl,by simp[World.setCell],fun k _ hne=>Below.heap_setCell (w.drewN kk) _ _ _ (fun e=>hne (by rw[e]))⟩
theorem Yf {w Z:World} {r i:Nat} {v:Value} (h:w.grownBy Z (some r)):w.grownBy (Z.setCell ⟨r,i,none⟩ v) (some r):=
 ⟨h.os,h.tape,h.output,by simp[World.setCell];exact h.size,fun k hk hne=>by rw[Below.heap_setCell _ _ _ _ (fun e=>hne (by rw[e]))];exact h.block k hk hne⟩
theorem Yv {b:List UInt8} {k:Nat} (h:hib b=k) (hk:k<b.length) (h5:k<5) (hz:¬(0<k∧(b.getD k 0).toNat=0)):one b=some (unz (yg (b.take (k+1))),b.drop (k+1)):=by
 unfold one;rw[h,if_pos ⟨hk,h5,hz⟩]
theorem Yu {b:List UInt8} {k:Nat} (h:hib b=k) (h0:0<k) (hz:(b.getD k 0).toNat=0):one b=none:=by
 unfold one;rw[h,if_neg (fun e=>e.2.2 ⟨h0,hz⟩)]
theorem Ta {b:List UInt8} {m:Nat} (h:m≤hib b) (hm:m=min b.length 5):one b=none:=by
 unfold one;rw[if_neg];rintro⟨h1,h2,-⟩;have:=hib_le b;omega
theorem De.next {w:World} {r lo:Nat} {rest:List UInt8} {f f':Bool} {a a':Option Addr} {c c' k:Nat} (h:De w r lo rest f a c) (hr:lo≤r) (hk:k≤rest.length) (hc:c'=c-k) (ha:∀g o,a=some ⟨g,o,none⟩→a'=if c=k then some ⟨g,o,none⟩else some ⟨g,o+k,none⟩) (hp:∀p,a'=some p→∃q,a=some q∧q.block=p.block) {w':World} (hx:w'.heap[r]? =some (.cells #[.slice a' (rest.length-k) c',.bool f'] 39)) (hg:w.grownBy w' (some r)):
  De w' r lo (rest.drop k) f' a' c':=by
 have hl:(rest.drop k).length=rest.length-k:=List.length_drop;have hcap:=h.cap;refine⟨by rw[hl];exact hx,by rw[hl];omega,?_,fun p hp'=>?_,by rw[hl];have:=h.len;omega⟩
 ·by_cases he:rest.drop k=[]
  ·exact Or.inl he
  ·right
   have hkl:k<rest.length:=by
    rcases Nat.lt_or_ge k rest.length with h'|h'
    ·exact h'
    ·exact absurd (List.drop_eq_nil_of_le h') he
   rcases h.rd with hn|⟨g,o,ea,hcl⟩
   ·rw[hn]at hkl;simp at hkl
   ·refine⟨g,o+k,?_,fun j hj=>?_⟩
    ·rw[ha g o ea,if_neg (by omega)]
    ·rw[hl]at hj
     have:=hcl (k+j) (by omega);have hlo:g<lo:=h.low _ ea;have hgl:g<w.heap.size:=lt_of_cell this;rw[World.cell?_of_block (a:=⟨g,o+k+j,none⟩) (hg.block g hgl (by intro e;injection e with e;omega))];rw[Nat.add_assoc,this];simp
 ·obtain⟨q,hq,hqb⟩:=hp p hp'
  rw[←hqb];exact h.low q hq
inductive NumP (w w':World) (r lo:Nat) (rest:List UInt8) (f:Bool) (e:Ending):Prop
 |mk (z:Int) (rest':List UInt8) (f':Bool) (a':Option Addr) (c':Nat) (he:e=.returned (.int .i64 z)) (hd:De w' r lo rest' f' a' c') (hg:w.grownBy w' (some r)) (h1:f=true→f'=true) (h2:f=false→(one rest=some (z,rest')∧f'=false)∨(one rest=none∧f'=true)):NumP w w' r lo rest f e
theorem xM (r lo:Nat) (rest:List UInt8) (f:Bool) (a:Option Addr) (c:Nat) (w:World) (hd:De w r lo rest f a c) (hr:lo≤r):
  Calls Tryd.prog 31 #[.pointer (some ⟨r,0,none⟩)] w fun e w'=>NumP w w' r lo rest f e:=by
 have D:=Hm hd;have hcap:=hd.cap;have hlen:=hd.len;clear hd;have x0:=za D.out.x 0;have x1:=za D.out.x 1;simp only[qk,ql,qm]at x0 x1;obtain⟨n,hn⟩:∃n,n=rest.length:=⟨_,rfl⟩;rw[←hn]at x0 hcap hlen;have HN:=Hm hn;clear hn;obtain⟨m,hm⟩:∃m,m=min n 5:=⟨_,rfl⟩;go_enter Tryd.func31,Tryd.ntmps31;go_upto_region 2 with fail;go_cut [16,17,18] (fun v l i wx=>v=.slice a m c∧l=.int .i64 (m:Int)∧i=.int .i64 0∧∃k,wx=w.drewN k)
 case first=>
  by_cases h5:n≤5
  ·obtain rfl:m=n:=by omega
   clear hm;have q1:decide ((5:Int)<(m:Int))=false:=by simp;omega
   have q2:¬((5:Int)<(m:Int)):=by omega
   go_region;go_wp2_with fail;go_meet;exact⟨rfl,rfl,rfl,1,rfl⟩
  ·obtain rfl:m=5:=by omega
   clear hm;have q1:(5:Int)<(n:Int):=by omega
   go_region;go_wp2_with fail;go_meet;exact⟨rfl,rfl,rfl,1,rfl⟩
 case rest=>
  obtain⟨rfl,rfl,rfl,kk,rfl⟩:=hcut;have hm5:m≤5:=by omega
  have HM:=Hm hm;have hmn:m≤n:=by omega
  clear hm x0 x1;go_wp2_with fail;go_loopw [3,18] (fun z i wr=>∃k:Nat,k≤m∧i=.int .i64 (k:Int)∧z=.int .u64 (yg (rest.take k):Int)∧Hid (∀j,j<k→128≤(rest.getD j 0).toNat)∧wr=w.drewN kk) (fun _ i _=>m- (intOf i).toNat)
  case atStart=>exact⟨0,Nat.zero_le _,rfl,rfl,fun j hj=>by omega,rfl⟩
  case round=>
   obtain⟨k,hk,rfl,rfl,hall,rfl⟩:=hrel;by_cases hlt:k<m
   ·have hkl:k<rest.length:=by rw[←HN.out];omega
    rcases D.out.rd with hnil|⟨g,o,rfl,hcl⟩
    ·rw[hnil]at hkl;simp at hkl
    have e0:=hcl k hkl
    have hst:Hid (yg (rest.take (k+1))=yg (rest.take k)+128 ^ k*(rest[k].toNat % 128)):=by
     unfold Hid;rw[List.take_add_one,List.getElem?_eq_getElem hkl];have:=VA (rest.take k) rest[k];rw[List.length_take,Nat.min_eq_left (by omega)]at this;simpa using this
    have hvl:=Xl (rest.take k);rw[List.length_take,Nat.min_eq_left (by omega)]at hvl;obtain⟨b,hbb⟩:∃b,b=rest[k].toNat:=⟨_,rfl⟩;have hgd:Hid ((rest.getD k 0).toNat=b):=by unfold Hid;rw[hbb];simp[List.getD,hkl]
    have hb256:b<256:=by rw[hbb];exact UInt8.toNat_lt _
    obtain⟨v,hv⟩:∃v,v=yg (rest.take k):=⟨_,rfl⟩;rw[←hbb]at hst e0;rw[←hv]at hst hvl;have HVV:=Hm hv;rw[←hv];clear hbb hv hcl;have k0:(0:Int)≤(k:Int):=by omega
    have k1:(k:Int)<(m:Int):=by omega
    have e7:IntKind.i64.wrap (7*(k:Int))=7*(k:Int):=by rw[IntKind.wrap_i64];omega
    go_upto_region 6 with fail;have hz':=shl_or v b k hvl hb256 (by omega);rw[hz',←hst.out];have hvl1:=Xl (rest.take (k+1))
    have hv35:yg (rest.take (k+1))<2 ^ 35:=by
     rw[List.length_take,Nat.min_eq_left (by omega)]at hvl1;have:(128:Nat) ^ (k+1)≤128 ^ 5:=Nat.pow_le_pow_right (by omega) (by omega);omega
    obtain⟨v1,hv1⟩:∃v1,v1=yg (rest.take (k+1)):=⟨_,rfl⟩;rw[←hv1]at hv35 ⊢;have HV1:=Hm hv1;clear hz' hvl1 hv1 hst hvl HVV;by_cases hb:128≤b
    ·have q1:(128:Int)≤(b:Int):=by omega
     have hall':Hid (∀j,j<k+1→128≤(rest.getD j 0).toNat):=fun j hj=>by
      by_cases e:j=k
      ·rw[e,hgd.out];exact hb
      ·exact hall.out j (by omega)
     go_wp2_with fail;exact⟨⟨k+1,by omega,by first|go_num|rfl,by rw[←HV1.out],hall',by first|rfl|trivial⟩,by simp[intOf];omega⟩
    ·have q1:decide ((128:Int)≤(b:Int))=false:=by simp;omega
     have HI:Hid (hib rest=k):=Ur hkl hall.out (by rw[hgd.out];omega);have x0:=za D.out.x 0;have x1:=za D.out.x 1;have y0:=zb D.out.x 0;have y1:=zb D.out.x 1;simp only[qk,ql,qm]at x0 x1;rw[←HN.out]at x0;have p1:((k:Int)+1)≤(n:Int):=by omega
     have p2:(n:Int)≤(c:Int):=by omega
     have p3:IntKind.i64.wrap ((k:Int)+1)=(k:Int)+1:=by rw[IntKind.wrap_i64];omega
     have p4:((k:Int)+1).toNat=k+1:=by omega
     have p5:k+1≤n:=by omega
     by_cases hc:c=k+1
     ·go_upto_region 8 with fail
      obtain⟨Z,hZ⟩:∃Z,Z=(w.drewN kk).setCell ⟨r,0,none⟩ (.slice (some ⟨g,o,none⟩) (n- (k+1)) (0)):=⟨_,rfl⟩
      have ZX:Hid (Z.heap[r]? =some (.cells #[.slice (some ⟨g,o,none⟩) (n- (k+1)) (0),.bool f] 39)):=by
       rw[hZ];exact zk (w:=w.drewN kk) D.out.x 0 _
      have ZG:Hid (w.grownBy Z (some r)):=by rw[hZ];exact Zu w kk r 0 _
      rw[←hZ];clear hZ x0 x1 y0 y1;have z1:=za ZX.out 1;have u1:=zb ZX.out 1;simp only[qk,ql,qm]at z1
      have FIN:Hid (∀f':Bool,De (Z.setCell ⟨r,1,none⟩ (.bool f')) r lo (rest.drop (k+1)) f' (some ⟨g,o,none⟩) (0)∧w.grownBy (Z.setCell ⟨r,1,none⟩ (.bool f')) (some r)):=fun f'=>by
       have hgr:=Yf ZG.out (i:=1) (v:=.bool f');refine⟨De.next (k:=k+1) D.out hr (by omega) (by omega) (fun g2 o2 e=>by injection e with e;injection e with e1 e2;subst e1;subst e2;rw[if_pos hc]) (fun p hp=>⟨_,rfl,by injection hp with hp;rw[←hp]⟩) ?_ hgr,hgr⟩;have:=zk ZX.out 1 (.bool f');rw[←HN.out];exact this
      clear ZX ZG
      cases f with
      |true=>
       go_wp2_with (go_at_call 51;refine(XG v1 _ (by omega)).mono ?_;rintro e w' ⟨rfl,rfl⟩);go_ret;exact NumP.mk _ _ true _ _ rfl (FIN.out true).1 (FIN.out true).2 (fun _=>rfl) (fun h=>by cases h)
      |false=>
       by_cases b0:b=0
       ·have q2:((b:Int)==0)=true:=by simp;omega
        by_cases k3:0<k
        ·have q3:(0:Int)<(k:Int):=by omega
         have NN:Hid (one rest=none):=Yu HI.out k3 (by rw[hgd.out];exact b0);clear b0;go_wp2_with (go_at_call 51;refine(XG v1 _ (by omega)).mono ?_;rintro e w' ⟨rfl,rfl⟩);go_ret;exact NumP.mk _ _ true _ _ rfl (FIN.out true).1 (FIN.out true).2 (fun h=>by cases h) (fun _=>Or.inr ⟨NN.out,rfl⟩)
        ·have q3:decide ((0:Int)<(k:Int))=false:=by simp;omega
         have NN:Hid (one rest=some (unz v1,rest.drop (k+1))):=by unfold Hid;rw[HV1.out];exact Yv HI.out hkl (by omega) (fun e=>k3 e.1)
         clear b0;go_wp2_with (go_at_call 51;refine(XG v1 _ (by omega)).mono ?_;rintro e w' ⟨rfl,rfl⟩);go_ret;exact NumP.mk _ _ false _ _ rfl (FIN.out false).1 (FIN.out false).2 (fun h=>by cases h) (fun _=>Or.inl ⟨NN.out,rfl⟩)
       ·have q2:((b:Int)==0)=false:=by simp;omega
        have NN:Hid (one rest=some (unz v1,rest.drop (k+1))):=by unfold Hid;rw[HV1.out];exact Yv HI.out hkl (by omega) (fun e=>b0 (by rw[←hgd.out];exact e.2))
        go_wp2_with (go_at_call 51;refine(XG v1 _ (by omega)).mono ?_;rintro e w' ⟨rfl,rfl⟩);go_ret;exact NumP.mk _ _ false _ _ rfl (FIN.out false).1 (FIN.out false).2 (fun h=>by cases h) (fun _=>Or.inl ⟨NN.out,rfl⟩)
     ·go_upto_region 8 with fail
      obtain⟨Z,hZ⟩:∃Z,Z=(w.drewN kk).setCell ⟨r,0,none⟩ (.slice (some ⟨g,o+(k+1),none⟩) (n- (k+1)) (c- (k+1))):=⟨_,rfl⟩
      have ZX:Hid (Z.heap[r]? =some (.cells #[.slice (some ⟨g,o+(k+1),none⟩) (n- (k+1)) (c- (k+1)),.bool f] 39)):=by
       rw[hZ];exact zk (w:=w.drewN kk) D.out.x 0 _
      have ZG:Hid (w.grownBy Z (some r)):=by rw[hZ];exact Zu w kk r 0 _
      rw[←hZ];clear hZ x0 x1 y0 y1;have z1:=za ZX.out 1;have u1:=zb ZX.out 1;simp only[qk,ql,qm]at z1
      have FIN:Hid (∀f':Bool,De (Z.setCell ⟨r,1,none⟩ (.bool f')) r lo (rest.drop (k+1)) f' (some ⟨g,o+(k+1),none⟩) (c- (k+1))∧w.grownBy (Z.setCell ⟨r,1,none⟩ (.bool f')) (some r)):=fun f'=>by
       have hgr:=Yf ZG.out (i:=1) (v:=.bool f');refine⟨De.next (k:=k+1) D.out hr (by omega) (rfl) (fun g2 o2 e=>by injection e with e;injection e with e1 e2;subst e1;subst e2;rw[if_neg hc]) (fun p hp=>⟨_,rfl,by injection hp with hp;rw[←hp]⟩) ?_ hgr,hgr⟩;have:=zk ZX.out 1 (.bool f');rw[←HN.out];exact this
      clear ZX ZG
      cases f with
      |true=>
       go_wp2_with (go_at_call 51;refine(XG v1 _ (by omega)).mono ?_;rintro e w' ⟨rfl,rfl⟩);go_ret;exact NumP.mk _ _ true _ _ rfl (FIN.out true).1 (FIN.out true).2 (fun _=>rfl) (fun h=>by cases h)
      |false=>
       by_cases b0:b=0
       ·have q2:((b:Int)==0)=true:=by simp;omega
        by_cases k3:0<k
        ·have q3:(0:Int)<(k:Int):=by omega
         have NN:Hid (one rest=none):=Yu HI.out k3 (by rw[hgd.out];exact b0);clear b0;go_wp2_with (go_at_call 51;refine(XG v1 _ (by omega)).mono ?_;rintro e w' ⟨rfl,rfl⟩);go_ret;exact NumP.mk _ _ true _ _ rfl (FIN.out true).1 (FIN.out true).2 (fun h=>by cases h) (fun _=>Or.inr ⟨NN.out,rfl⟩)
        ·have q3:decide ((0:Int)<(k:Int))=false:=by simp;omega
         have NN:Hid (one rest=some (unz v1,rest.drop (k+1))):=by unfold Hid;rw[HV1.out];exact Yv HI.out hkl (by omega) (fun e=>k3 e.1)
         clear b0;go_wp2_with (go_at_call 51;refine(XG v1 _ (by omega)).mono ?_;rintro e w' ⟨rfl,rfl⟩);go_ret;exact NumP.mk _ _ false _ _ rfl (FIN.out false).1 (FIN.out false).2 (fun h=>by cases h) (fun _=>Or.inl ⟨NN.out,rfl⟩)
       ·have q2:((b:Int)==0)=false:=by simp;omega
        have NN:Hid (one rest=some (unz v1,rest.drop (k+1))):=by unfold Hid;rw[HV1.out];exact Yv HI.out hkl (by omega) (fun e=>b0 (by rw[←hgd.out];exact e.2))
        go_wp2_with (go_at_call 51;refine(XG v1 _ (by omega)).mono ?_;rintro e w' ⟨rfl,rfl⟩);go_ret;exact NumP.mk _ _ false _ _ rfl (FIN.out false).1 (FIN.out false).2 (fun h=>by cases h) (fun _=>Or.inl ⟨NN.out,rfl⟩)
   ·obtain rfl:m=k:=by omega
    have k2:¬((m:Int)<(m:Int)):=by omega
    have x1:=za D.out.x 1;have y1:=zb D.out.x 1;simp only[qk,ql,qm]at x1;have NN:Hid (one rest=none):=Ta (Uq (by rw[←HN.out];exact hmn) hall.out) (by rw[←HN.out];exact HM.out);have hgr:Hid (w.grownBy ((w.drewN kk).setCell ⟨r,1,none⟩ (.bool true)) (some r)):=Zu w kk r 1 _
    have FIN:Hid (De ((w.drewN kk).setCell ⟨r,1,none⟩ (.bool true)) r lo (rest.drop 0) true a c):=
     De.next (k:=0) D.out hr (Nat.zero_le _) rfl (fun g o e=>by rw[e];split<;>rfl) (fun p hp=>⟨p,hp,rfl⟩) (zk (w:=w.drewN kk) D.out.x 1 (.bool true)) hgr.out
    go_wp2;go_ret;exact NumP.mk _ _ true _ _ rfl FIN.out hgr.out (fun _=>rfl) (fun _=>Or.inr ⟨NN.out,rfl⟩)
end Go.Proofs.YtbdldkpifanaiaaDoor.Dec
