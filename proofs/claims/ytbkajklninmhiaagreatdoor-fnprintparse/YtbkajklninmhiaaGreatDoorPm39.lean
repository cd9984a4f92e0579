import Derived.Test.YtbkajklninmhiaaGreatDoorPm38
set_option maxHeartbeats 1600000
set_option maxRecDepth 100000
set_option linter.unusedVariables false
set_option linter.unusedSimpArgs false
open List renaming length_append → qg, length_cons → qh, length_nil → qi, append_assoc → ql
open Nat renaming le_refl → qp, le_trans → qq
namespace Go.Proofs.YtbkajklninmhiaaGreatDoor.Syn
open Go Go.RowKit Mem
attribute [local go_sem ↓] Go.wp_at_zero Go.wp_at_succ
theorem Xy {o:Po} (h:opB o=true):1≤o.k∧o.k≤10∧0≤o.v∧o.v≤yr o.k:=by
 unfold opB at h;simp only[Bool.and_eq_true,decide_eq_true_eq]at h;exact⟨h.1.1.1.1,h.1.1.1.2,h.1.1.2,h.1.2⟩
def szs (l:List Tr):Nat:=(l.map Tr.sz).sum
theorem WA (a b:List Tr):szs (a++b)=szs a+szs b:=by simp[szs]
theorem mk_wf {o:Po} {l:List Tr} (h:opB o=true) (hl:l.length=ar o) (hw:∀t∈l,t.wf):(mk o l).wf∧(mk o l).sz=1+szs l:=by
 obtain⟨k0,k1,v0,v1⟩:=Xy h;clear h;unfold ar at hl
 split at hl
 ·rename_i hk
  match l,hl with
  |[a],_=>exact⟨⟨hk,hw a (by simp)⟩,by simp[mk,Tr.sz,szs]⟩
 ·rename_i hk
  split at hl
  ·rename_i hk'
   match l,hl with
   |[a,b],_=>
    have hv:yr o.k=7:=by rw[hk'];rfl
    simp only[mk];rw[if_pos hk'];exact⟨⟨⟨hk',v0,by omega⟩,hw a (by simp),hw b (by simp)⟩,by simp[Tr.sz,szs];omega⟩
  ·rename_i hk'
   split at hl
   ·rename_i hk2
    have hv:yr o.k=2:=by rw[hk2];rfl
    split at hl
    ·rename_i hv2
     match l,hl with
     |[a,b,c],_=>exact⟨⟨⟨hk2,hv2⟩,hw a (by simp),hw b (by simp),hw c (by simp)⟩,by simp[mk,Tr.sz,szs];omega⟩
    ·rename_i hv2
     match l,hl with
     |[a,b],_=>
      simp only[mk];rw[if_neg hk'];exact⟨⟨⟨hk2,v0,by omega⟩,hw a (by simp),hw b (by simp)⟩,by simp[Tr.sz,szs];omega⟩
   ·rename_i hk2
    match l,hl with
    |[],_=>exact⟨⟨k0,by omega⟩,by simp[mk,Tr.sz,szs]⟩
theorem Yy {E:Nat→Po}:∀{n:Nat} {s:List Tr},stk E n=some s→(∀t∈s,t.wf)∧szs s=n:=by
 intro n
 induction n with
 |zero=>intro s h;simp[stk]at h;subst h;simp[szs]
 |succ n ih=>
  intro s h;simp only[stk]at h;obtain⟨s0,hs0,h⟩:=Option.bind_eq_some_iff.1 h
  split at h
  ·rename_i hc
   have h:=Option.some.inj h;obtain⟨hw,hz⟩:=ih hs0;have hm:=mk_wf (l:=s0.drop (s0.length-ar (E n))) hc.1 (by rw[List.length_drop];omega) (fun t ht=>hw t (List.mem_of_mem_drop ht));rw[←h];refine⟨fun t ht=>?_,?_⟩
   ·rcases List.mem_append.1 ht with ht|ht
    ·exact hw t (List.mem_of_mem_take ht)
    ·rw[List.mem_singleton.1 ht];exact hm.1
   ·rw[WA]
    have e1:szs [mk (E n) (s0.drop (s0.length-ar (E n)))]=1+szs (s0.drop (s0.length-ar (E n))):=by rw[←hm.2];simp[szs]
    have e2:szs (s0.take (s0.length-ar (E n)))+szs (s0.drop (s0.length-ar (E n)))=n:=by rw[←WA,List.take_append_drop,hz]
    omega
  ·cases h
theorem sz_pos (t:Tr):1≤t.sz:=by cases t<;>simp[Tr.sz]<;>omega
theorem Uv {E:Nat→Po} {n:Nat} {s:List Tr} (h:stk E n=some s):s.length≤n:=by
 have:=(Yy h).2;rw[←this];clear this h
 induction s with
 |nil=>simp
 |cons t r ih=>have:=sz_pos t;simp only[qh,szs,List.map_cons,List.sum_cons]at*;omega
inductive Nds (w:World) (r:Option Nat):List Value→List Tr→Prop
 |nil:Nds w r [] []
 |cons (v:Value) (t:Tr) (vs:List Value) (ts:List Tr) (h:Nd w r v t) (hs:Nds w r vs ts):Nds w r (v::vs) (t::ts)
theorem Nds.kept {w w':World} {r:Option Nat} {vs:List Value} {ts:List Tr} (h:Nds w r vs ts) (hb:Below w.heap.size w w'):Nds w' r vs ts:=by
 induction h with
 |nil=>exact .nil
 |cons v t vs ts h hs ih=>exact .cons v t vs ts (h.kept hb) ih
theorem Nds.grown {w w':World} {r:Option Nat} {vs:List Value} {ts:List Tr} (h:Nds w r vs ts) (hb:w.grownBy w' r):Nds w' r vs ts:=by
 induction h with
 |nil=>exact .nil
 |cons v t vs ts h hs ih=>exact .cons v t vs ts (h.grown hb) ih
theorem Nds.free {w:World} {r r':Option Nat} {vs:List Value} {ts:List Tr} (h:Nds w r vs ts) (hr:∀g,g<w.heap.size→some g≠r→some g≠r'):Nds w r' vs ts:=by
 induction h with
 |nil=>exact .nil
 |cons v t vs ts h hs ih=>exact .cons v t vs ts (h.free hr) ih
theorem Nds.len {w:World} {r:Option Nat} {vs:List Value} {ts:List Tr} (h:Nds w r vs ts):vs.length=ts.length:=by
 induction h with
 |nil=>rfl
 |cons v t vs ts h hs ih=>simp[ih]
theorem Nds.take {w:World} {r:Option Nat} {vs:List Value} {ts:List Tr} (h:Nds w r vs ts) (n:Nat):Nds w r (vs.take n) (ts.take n):=by
 induction h generalizing n with
 |nil=>simp;exact .nil
 |cons v t vs ts h hs ih=>
  cases n with
  |zero=>exact .nil
  |succ n=>exact .cons _ _ _ _ h (ih n)
theorem Nds.drop {w:World} {r:Option Nat} {vs:List Value} {ts:List Tr} (h:Nds w r vs ts) (n:Nat):Nds w r (vs.drop n) (ts.drop n):=by
 induction h generalizing n with
 |nil=>simp;exact .nil
 |cons v t vs ts h hs ih=>
  cases n with
  |zero=>exact .cons _ _ _ _ h hs
  |succ n=>exact ih n
theorem Nds.snoc {w:World} {r:Option Nat} {vs:List Value} {ts:List Tr} {v:Value} {t:Tr} (h:Nds w r vs ts) (hv:Nd w r v t):Nds w r (vs++[v]) (ts++[t]):=by
 induction h with
 |nil=>exact .cons _ _ _ _ hv .nil
 |cons v t vs ts h hs ih=>exact .cons _ _ _ _ h ih
theorem Nds.one {w:World} {r:Option Nat} {vs:List Value} {ts:List Tr} (h:Nds w r vs ts):∀u∈vs,u.oneCell'=true:=by
 induction h with
 |nil=>intro u hu;cases hu
 |cons v t vs ts h hs ih=>
  intro u hu;rcases List.mem_cons.1 hu with rfl|hu
  ·exact h.one
  ·exact ih u hu
theorem Wn:(Tryz.prog.info? 130).map (fun i=>(i.zero,i.size,i.bytes))=some (some .nilIface,1,16):=by kernel_rfl
theorem xK {B s n:Nat} {e:TypeId} {w:World} {v:Value} {xs:List Value} (h:w.ownsRow B e s v n xs):∃a c,v=.slice a n c∧n≤c:=by
 rcases h.2 with⟨rfl,h0⟩|⟨g,cap,cur,rfl,h1,h2,h3,h4⟩
 ·exact⟨none,0,by rw[h0],by omega⟩
 ·exact⟨_,_,rfl,h3⟩
theorem Zm {w:World} {B n:Nat} {e:TypeId} {v:Value} {xs:List Value} (h:w.ownsRow B e 1 v n xs) (h0:0<n):∃g c,v=.slice (some ⟨g,0,none⟩) n c∧n≤c∧B≤g∧g<w.heap.size∧∀i u,xs[i]? =some u→w.cell? ⟨g,i,none⟩=some u:=by
 rcases h.2 with⟨rfl,h1⟩|⟨g,cap,cur,rfl,hb,hg,hn,hm,hs,ht⟩
 ·omega
 ·refine⟨g,cap,rfl,hn,hb,zN hg,fun i u hu=>?_⟩
  rw[zb hg i];rw[←ht,List.getElem?_take]at hu
  split at hu
  ·rw[←Array.getElem?_toList];exact hu
  ·cases hu
theorem row_nk {w:World} {B n g c:Nat} {a:Nat} {xs:List Value} (h:w.ownsRow B 130 1 (.slice (some ⟨g,0,none⟩) n c) n xs):Nk w g:=by
 rcases h.2 with⟨h0,-⟩|⟨g',cap,cur,hv,hb,hg,-⟩
 ·cases h0
 ·cases hv;exact⟨cur,_,hg⟩
theorem cloneI (g off c:Nat) (xs:List Value) (N:Nat) (hN:N=xs.length) (w:World) (hc:∀i u,xs[i]? =some u→w.cell? ⟨g,off+i,none⟩=some u) (h1:∀u∈xs,u.oneCell'=true) (h0:0<N) (h3:N≤3):
  Calls Tryz.prog 141 #[.slice (some ⟨g,off,none⟩) N c] w fun e w'=>∃g' c',e=.returned (.slice (some ⟨g',0,none⟩) N c')∧(∀i u,xs[i]? =some u→w'.cell? ⟨g',i,none⟩=some u)∧w.heap.size≤g'∧Below w.heap.size w w'∧Nk w' g':=by
 obtain⟨i0,hi,hz0,hz1,hz2⟩:=info_parts Wn;have HC:=Hm hc;have HN:=Hm hN;clear hc hN;have hrow:Hid ((w.alloc (.cells #[] 130)).ownsRow w.heap.size 130 1 (.slice (some ⟨w.heap.size,0,none⟩) 0 0) 0 []):=World.ownsRow_made w #[] 0 (qp _) (by unfold maxLen;omega) (by simp);have he:∀w':World,(binOp .eql 161 (.slice (some ⟨g,off,none⟩) N c) (.slice none 0 0)).run Tryz.prog w'=.ok (.bool false) w':=fun w'=>Lib.run_eql_slice_nil w' _ _ _ _ _ _ _ Tryz.underlying161
 go_enter Tryz.func141,Tryz.ntmps141;go_wp2_with (at_builtin;refine wpList_append_own _ rfl _ _ 161 rfl w.heap.size 130 i0 .nilIface 1 16 Tryz.underlying161 hi hz0 hz1 hz2 rfl (by decide) _ _ _ rfl hrow.out ⟨g,off,none⟩ N c xs rfl (by rw[HN.out];simp) (fun j u hu=>by rw[Addr.add_mid];exact zB (by go_grown) (HC.out j u hu)) h1 (by unfold maxLen;omega) (by omega) (by simp) ?_);intro v1 w1 hown hgrow _;obtain⟨g1,c1,rfl,-,hg1,-,hcl⟩:=Zm hown h0;have HNK:=Hm (row_nk (a:=0) hown);have HL:=Hm hcl;have HB:Hid (Below w.heap.size w w1):=((Below.refl _ _).alloc (qp _) _).grown hgrow (by simp) (fun j hj=>(hrow.out.lt j hj).1);clear hown hgrow hcl;refine Hid.out ?_;refine Lib.hid ?_;go_wp2;go_ret;exact⟨g1,c1,rfl,HL.out,hg1,HB.out,HNK.out⟩
def Args (w:World) (a:Option Addr) (xs:List Value):Prop:=xs=[]∨∃g off,a=some ⟨g,off,none⟩∧∀i u,xs[i]? =some u→w.cell? ⟨g,off+i,none⟩=some u
theorem WP (o:Po) (a:Option Addr) (c N:Nat) (xs:List Value) (ts:List Tr) (w:World) (ho:opB o=true) (hN:N=ar o) (hl:xs.length=N) (hA:Args w a xs) (r:Option Nat) (hD:Nds w r xs ts) (hcap:N≤c) (hr:∀g,r=some g→g<w.heap.size):
  Calls Tryz.prog 116 #[.agg #[.int .i64 o.k,.int .i64 o.v,.string ⟨o.n.toArray⟩],.slice a N c] w fun e w'=>∃v,e=.returned v∧Nd w' r v (mk o ts)∧Below w.heap.size w w':=by
 have hk:=Xy ho;have htl:=hD.len;obtain⟨k,v,n⟩:=o;simp only at hk ⊢;have hB:=Hm ((Below.refl w.heap.size w).alloc (qp _) (.cells #[.int .i64 k,.int .i64 v,.string ⟨n.toArray⟩] 88));by_cases h7:k=7∨k=8
 ·obtain rfl:N=1:=by rw[hN];unfold ar;rw[if_pos h7]
  match xs,hl with
  |[x],_=>
   cases hD with
   |cons _ t _ ts' hx hnil=>
    cases hnil
    rcases hA with hA|⟨g,off,rfl,hc⟩
    ·cases hA
    obtain⟨T,u,rfl⟩:=hx.form;have c0:w.cell? ⟨g,off,none⟩=some (.iface T u):=hc 0 _ rfl;have g0:=lt_of_cell c0;have HX:=Hm (hx.kept hB.out);clear hc hx hN htl ho hk;rcases h7 with rfl|rfl
    ·go_enter Tryz.func116,Tryz.ntmps116
     go_wp2
     go_quiet (fail)
     go_wp2;go_ret;exact⟨_,rfl,.pre ⟨7,v,n⟩ _ t (HX.out.kept (below_drewN' (Below.refl _ _) _)),below_drewN' hB.out _⟩
    ·go_enter Tryz.func116,Tryz.ntmps116
     go_wp2
     go_quiet (fail)
     go_wp2;go_ret;exact⟨_,rfl,.pre ⟨8,v,n⟩ _ t (HX.out.kept (below_drewN' (Below.refl _ _) _)),below_drewN' hB.out _⟩
 have f7:(k==7)=false:=by simp;omega
 have f8:(k==8)=false:=by simp;omega
 by_cases h9:k=9
 ·subst h9
  obtain rfl:N=2:=by rw[hN];unfold ar;rw[if_neg h7,if_pos rfl]
  match xs,hl with
  |[x,y],_=>
   cases hD with
   |cons _ t _ ts' hx hr=>
    cases hr with
    |cons _ t' _ ts'' hy hnil=>
     cases hnil
     rcases hA with hA|⟨g,off,rfl,hc⟩
     ·cases hA
     obtain⟨T,u,rfl⟩:=hx.form;obtain⟨T',u',rfl⟩:=hy.form;have c0:w.cell? ⟨g,off,none⟩=some (.iface T u):=hc 0 _ rfl;have c1:w.cell? ⟨g,off+1,none⟩=some (.iface T' u'):=hc 1 _ rfl;have g0:=lt_of_cell c0;have HX:=Hm (hx.kept hB.out);have HY:=Hm (hy.kept hB.out);clear hc hx hy hN htl ho hk f7 f8;go_enter Tryz.func116,Tryz.ntmps116;go_wp2
     go_quiet (fail)
     go_wp2;go_ret;exact⟨_,rfl,.bin ⟨9,v,n⟩ _ _ t t' (HX.out.kept (below_drewN' (Below.refl _ _) _)) (HY.out.kept (below_drewN' (Below.refl _ _) _)),below_drewN' hB.out _⟩
 have f9:(k==9)=false:=by simp;omega
 by_cases h10:k=10
 ·subst h10
  have hN23:N=2∨N=3:=by rw[hN];unfold ar;simp;omega
  rcases hA with hA|⟨g,off,rfl,hc⟩
  ·rw[hA]at hl;simp at hl;omega
  have h1:=hD.one;have n0:0<N:=by omega
  have n3:N≤3:=by omega
  have HC:=Hm hc;have HD:=Hm hD;have HL:=Hm hl;have HN:=Hm hN;have HTL:=Hm htl;have H23:=Hm hN23;have HO:=Hm h1;clear hc hD hl hN htl hN23 h1 ho hk
  have CA:Hid (∀w':World,Below (w.alloc (.cells #[.int .i64 10,.int .i64 v,.string ⟨n.toArray⟩] 88)).heap.size (w.alloc (.cells #[.int .i64 10,.int .i64 v,.string ⟨n.toArray⟩] 88)) w'→Calls Tryz.prog 141 #[.slice (some ⟨g,off,none⟩) N c] w' fun e w''=>∃g' c',e=.returned (.slice (some ⟨g',0,none⟩) N c')∧(∀i u,xs[i]? =some u→w''.cell? ⟨g',i,none⟩=some u)∧w'.heap.size≤g'∧Below w'.heap.size w' w''∧Nk w'' g'):=
   fun w' hb=>cloneI g off c xs N HL.out.symm w' (fun i u hu=>zB (zn hB.out hb) (HC.out i u hu)) HO.out n0 n3
  go_enter Tryz.func116,Tryz.ntmps116;go_wp2_with fail
  go_region_held3 (fun w'=>w'.cell? ⟨w.heap.size,0,none⟩=some (.int .i64 10)∧w'.cell? ⟨w.heap.size,1,none⟩=some (.int .i64 v)∧w'.cell? ⟨w.heap.size,2,none⟩=some (.string ⟨n.toArray⟩))
   (first|go_keep|((repeat' constructor)<;>exact zB hb1 (by first|assumption|(simp[*];done))))
   ((go_at_call 141;refine(CA.out _ (Below.refl _ _).drew).mono ?_;rintro e w1 ⟨g1,c1,rfl,hcl,hg1,hb1,hnk⟩))
  have HB1:=Hm (zn hB.out.drew hb1);have HCl:=Hm hcl;have HNK:=Hm hnk;clear hnk;have hr1:some g1≠r:=fun e=>by have:=hr g1 e.symm;simp at hg1;omega
  clear hr
  have hdec:Hid (∃v',v'=Value.iface 174 (.agg #[.int .i64 10,.int .i64 v,.string ⟨n.toArray⟩,.slice (some ⟨g1,0,none⟩) N c1])∧Nd w1 r v' (mk ⟨10,v,n⟩ ts)):=by
   refine⟨_,rfl,?_⟩;have hds:=HD.out.kept HB1.out;have hl1:=HL.out;rcases H23.out with e|e
   ·rw[e]at hl1 ⊢
    match xs,hl1,HCl.out,hds with
    |[x,y],_,hcc,hdd=>
     cases hdd with
     |cons _ t _ ts' hx hr=>
      cases hr with
      |cons _ t' _ ts'' hy hnil=>
       cases hnil
       exact .two ⟨10,v,n⟩ g1 0 c1 x y t t' hr1 HNK.out (hcc 0 x rfl) (hcc 1 y rfl) hx hy
   ·rw[e]at hl1 ⊢
    match xs,hl1,HCl.out,hds with
    |[x,y,z],_,hcc,hdd=>
     cases hdd with
     |cons _ t _ ts' hx hr=>
      cases hr with
      |cons _ t' _ ts'' hy hr'=>
       cases hr' with
       |cons _ t'' _ ts3 hz hnil=>
        cases hnil
        exact .three ⟨10,v,n⟩ g1 0 c1 x y z t t' t'' hr1 HNK.out (hcc 0 x rfl) (hcc 1 y rfl) (hcc 2 z rfl) hx hy hz
  clear hb1 hcl CA;go_wp2;go_ret;obtain⟨v',hv',hnd⟩:=hdec.out;exact⟨_,rfl,by rw[hv']at hnd;exact hnd,HB1.out⟩
 ·have f10:(k==10)=false:=by simp;omega
  obtain rfl:N=0:=by rw[hN];unfold ar;simp only;rw[if_neg h7,if_neg h9,if_neg h10]
  match xs,hl with
  |[],_=>
   cases hD
   clear hN htl ho hk hA;go_enter Tryz.func116,Tryz.ntmps116;go_wp2;go_ret;exact⟨_,rfl,.leaf ⟨k,v,n⟩,hB.out⟩
end Go.Proofs.YtbkajklninmhiaaGreatDoor.Syn
namespace Go.Proofs.YtbkajklninmhiaaGreatDoor.Syn
open Go Go.RowKit Mem
open Go.Proofs.YtbkajklninmhiaaGreatDoor.Print (Xn)
theorem tw_len (m:Nat):(zG m).length≤6:=by
 by_cases h:m<50
 ·have:∀i:Fin 50,(zG i.val).length≤6:=by decide
  exact this ⟨m,h⟩
 ·unfold zG
  rw[List.getD_eq_getElem?_getD,List.getElem?_eq_none (by have:tw.length=50:=by decide
                                                          omega)]
  simp
theorem WH (b:Bool) (t:List UInt8):(par b t).length≤t.length+2:=by
 unfold par;split<;>simp<;>omega
theorem YH {z:Int} (h0:0≤z) (h1:z≤999999999):(Lib.itoa z).length≤20:=by
 have e:Lib.itoa z=Lib.decDigits z.toNat:=by
  unfold Lib.itoa;rw[if_neg (by omega)]
 rw[e];have:=Xn 10 z.toNat (by omega) (by omega);omega
theorem YD {n:List UInt8} (h:yj n=true):n.length≤16:=by
 unfold yj at h;simp at h;omega
theorem Vw {o:Po} (h:opB o=true) (hk:o.k≤6):(Wl o).length≤20:=by
 obtain⟨h1,h2,h3,h4⟩:=Xy h;unfold Wl;by_cases e1:o.k=1
 ·rw[if_pos e1]
  exact YH h3 (by rw[e1]at h4;simpa[yr]using h4)
 rw[if_neg e1];by_cases e2:o.k=2
 ·rw[if_pos e2]
  have:yj o.n=true:=by
   unfold opB at h;simp only[Bool.and_eq_true]at h;have:=h.2;rwa[if_pos e2]at this
  have:=YD this;omega
 rw[if_neg e2]
 split
 ·simp
 ·split
  ·simp
  ·split<;>exact qq (tw_len _) (by omega)
theorem Rn {t:Tr} (hw:t.wf) (ho:t.ops):t.txt.length≤40*t.sz:=by
 induction t with
 |leaf o=>
  have:=Vw ho hw.2;simp only[Tr.txt,Tr.sz];omega
 |pre o a ih=>
  have:=ih hw.2 ho.2;have h1:=WH (decide (a.str<6)) a.txt;have h2:(Xd o).length≤4:=by unfold Xd;split<;>simp
  simp only[Tr.txt,Tr.sz,qg];omega
 |bin o a b ih ih'=>
  have:=ih hw.2.1 ho.2.1;have:=ih' hw.2.2 ho.2.2;have h1:=WH (decide (a.str<lL (z9 o.v))) a.txt;have h2:=WH (decide (b.str<z9 o.v+1)) b.txt;have h3:=tw_len (8+o.v.toNat);simp only[Tr.txt,Tr.sz,qg,qh,qi];omega
 |two o a b ih ih'=>
  have:=ih hw.2.1 ho.2.1;have:=ih' hw.2.2 ho.2.2;have h3:=tw_len (25+o.v.toNat);simp only[Tr.txt,Tr.sz,qg,qh,qi];omega
 |three o a b c ih ih' ih''=>
  have:=ih hw.2.1 ho.2.1;have:=ih' hw.2.2.1 ho.2.2.1;have:=ih'' hw.2.2.2 ho.2.2.2;have h3:=tw_len (25+o.v.toNat);simp only[Tr.txt,Tr.sz,qg,qh,qi];omega
theorem mk_ops {o:Po} {l:List Tr} (h:opB o=true) (hl:∀t∈l,t.ops):(mk o l).ops:=by
 match l,hl with
 |[],_=>exact h
 |[a],hl=>exact⟨h,hl a (by simp)⟩
 |[a,b],hl=>
  show(if o.k=9 then Tr.bin o a b else Tr.two o a b).ops;by_cases e:o.k=9
  ·rw[if_pos e];exact⟨h,hl a (by simp),hl b (by simp)⟩
  ·rw[if_neg e];exact⟨h,hl a (by simp),hl b (by simp)⟩
 |[a,b,c],hl=>exact⟨h,hl a (by simp),hl b (by simp),hl c (by simp)⟩
 |_::_::_::_::_,_=>exact h
theorem Uu {E:Nat→Po}:∀{n:Nat} {s:List Tr},stk E n=some s→∀t∈s,t.ops:=by
 intro n
 induction n with
 |zero=>intro s h;simp[stk]at h;subst h;intro t ht;cases ht
 |succ n ih=>
  intro s h;unfold stk at h
  cases hs:stk E n with
  |none=>rw[hs]at h;cases h
  |some s0=>
   rw[hs]at h;simp only[Option.bind_some]at h
   split at h
   ·rename_i hc
    cases h
    intro t ht;rcases List.mem_append.1 ht with h1|h1
    ·exact ih hs t (List.mem_of_mem_take h1)
    ·simp at h1
     subst h1;exact mk_ops hc.1 fun t ht=>ih hs t (List.mem_of_mem_drop ht)
   ·cases h
end Go.Proofs.YtbkajklninmhiaaGreatDoor.Syn
namespace Go.Proofs.YtbkajklninmhiaaGreatDoor.Par
open Go Syn Parse
theorem yO {c:UInt8} {s:List UInt8} (h:wB c=false):NW (c::s):=by
 intro d hd;have e:c=d:=by simpa using hd
 rw[←e];exact h
theorem Vp {s:List UInt8}:NW ([32]++s):=yO (by decide)
theorem Zy {k:Nat} {r:List UInt8} (h3:3≤k) (h13:k≤13) (h11:k=11→r.head? ≠some 61):Lx (zG k) [kT k] r:=by
 have hn:(kT k).n=[]:=by unfold kT;simp only;rw[if_neg (by omega)]
 have:=Lx.one (Kv.sym (x:=kT k) (r:=r) h3 h13 hn rfl h11);rwa[Xu h3 hn]at this
theorem Ro:∀m:Fin 50,14≤m.val→zG m.val≠[]∧wk (zG m.val)=m.val∧xi ((zG m.val).getD 0 0)=true∧(zG m.val).all wB=true∧(zG m.val).length≤16:=by decide
theorem xX {k:Nat} {r:List UInt8} (h14:14≤k) (h50:k<50) (hr:NW r):Lx (zG k) [kT k] r:=by
 obtain⟨h1,h2,h3,h4,h5⟩:=Ro ⟨k,h50⟩ h14;simp only at h1 h2 h3 h4 h5;have hn:(kT k).n=zG k:=by unfold kT;simp only;rw[if_pos h14]
 have hx:Kv (kT k) r:=Kv.word (by rw[hn];exact h1) (by rw[hn,h2];rfl) rfl (by rw[hn];exact h3) (by rw[hn];exact h4) (by rw[hn];exact h5) hr;have:=Lx.one hx;rwa[Zp (by rw[hn];exact h1) (by rw[hn,h2];rfl),hn]at this
theorem SA {k:Nat} {r:List UInt8} (h3:3≤k) (h50:k<50) (hr:NW r) (h61:r.head? ≠some 61):Lx (zG k) [kT k] r:=by
 by_cases h:k≤13
 ·exact Zy h3 h fun _=>h61
 ·exact xX (by omega) h50 hr
theorem Vx {z:Int} (h:0≤z):Lib.itoa z=Lib.decDigits z.toNat:=by unfold Lib.itoa;rw[if_neg (by omega)]
theorem Vq {z:Int} {r:List UInt8} (h0:0≤z) (h1:z≤999999999) (hr:NW r):Lx (Lib.itoa z) [nmK z] r:=by
 rw[Vx h0];exact Lx.one (Kv.num (x:=nmK z) rfl rfl h0 h1 hr)
theorem TN {z:Int} {r:List UInt8} (h0:-999999999≤z) (h1:z≤999999999) (hr:NW r):Lx (Lib.itoa z) (sgK z) r:=by
 unfold sgK;by_cases hz:z<0
 ·rw[if_pos hz]
  have e:Lib.itoa z=zG 10++Lib.itoa (-z):=by
   rw[Vx (show 0≤-z by omega)];unfold Lib.itoa;rw[if_pos hz,show(-z).toNat=z.natAbs by omega];rfl
  rw[e];exact Lx.app (k1:=[kT 10]) (Zy (by omega) (by omega) (by omega)) (Vq (by omega) (by omega) hr)
 ·rw[if_neg hz]
  exact Vq (by omega) h1 hr
theorem UN {n:List UInt8} {r:List UInt8} (h:yj n=true) (hr:NW r):Lx n [⟨2,n,0⟩] r:=by
 have hw:wk n=2:=by
  have h1:Xt n=false:=by unfold yj at h;simp only[Bool.and_eq_true]at h;simpa using h.2
  have h2:=Um n;rw[h1]at h2;have:((wk n:Int))=2:=by simpa using h2
  omega
 unfold yj at h;simp only[Bool.and_eq_true,decide_eq_true_eq]at h;have hne:n≠[]:=fun e=>by rw[e]at h;simp at h
 have:=Lx.one (Kv.word (x:=⟨2,n,0⟩) (r:=r) hne hw.symm rfl h.1.1.2 h.1.2 h.1.1.1.2 hr);rwa[Zp hne hw.symm]at this
theorem Uq {z:Int} {r:List UInt8} (h0:0≤z) (h1:z≤15) (hr:NW r):Lx [yW z] [tgK z] r:=by
 have ht:=Yx h0 h1;have hl:xi (yW z)=true:=by unfold xi;rw[ht];simp;omega
 have hx:Kv (tgK z) r:=Kv.word (by simp[tgK]) rfl rfl hl (by simp[tgK,wB,hl]) (by simp[tgK]) hr;have:=Lx.one hx;rwa[Zp (by simp[tgK]) rfl]at this
theorem Ql {o:Po} (ho:opB o=true) (hk:o.k≤6) {r:List UInt8} (hr:NW r):Lx (Wl o) (Wm o) r:=by
 obtain⟨h1,h2,h3,h4,h5,h6⟩:=xx ho;unfold Wl Wm;by_cases e1:o.k=1
 ·rw[if_pos e1,if_pos e1]
  exact Vq h3 (by rw[e1]at h4;simpa[yr]using h4) hr
 rw[if_neg e1,if_neg e1];by_cases e2:o.k=2
 ·rw[if_pos e2,if_pos e2]
  exact UN (h5 e2) hr
 rw[if_neg e2,if_neg e2];by_cases e4:o.k=4
 ·rw[if_pos e4,if_pos e4]
  have hv:o.v≤15:=by rw[e4]at h4;simpa[yr]using h4
  exact Lx.app (s1:=zG 48) (k1:=[kT 48]) (xX (by omega) (by omega) Vp) (Lx.app (s1:=[32]) (k1:=[]) Lx.bl (Uq h3 hv hr))
 rw[if_neg e4,if_neg e4];by_cases e5:o.k=5
 ·rw[if_pos e5,if_pos e5]
  have hv:o.v≤15:=by rw[e5]at h4;simpa[yr]using h4
  exact Lx.app (s1:=zG 49) (k1:=[kT 49]) (xX (by omega) (by omega) Vp) (Lx.app (s1:=[32]) (k1:=[]) Lx.bl (Uq h3 hv hr))
 rw[if_neg e5,if_neg e5];by_cases e6:o.k=6
 ·rw[if_pos e6,if_pos e6]
  have hv:o.v≤1:=by rw[e6]at h4;simpa[yr]using h4
  exact xX (by omega) (by omega) hr
 ·rw[if_neg e6,if_neg e6]
  have hv:o.v≤12:=by rw[show o.k=3 by omega]at h4;simpa[yr]using h4
  exact xX (by omega) (by omega) hr
theorem VW {b:Bool} {s:List UInt8} {ks:List Kd} (h:∀r,NW r→Lx s ks r) {r:List UInt8} (hr:NW r):Lx (par b s) (xN b ks) r:=by
 unfold par xN
 cases b with
 |false=>exact h r hr
 |true=>
  rw[if_pos rfl,if_pos rfl];exact Lx.app (Lx.app (s1:=[40]) (Zy (k:=5) (by omega) (by omega) (by omega)) (h _ (yO (by decide)))) (Zy (k:=6) (by omega) (by omega) (by omega))
theorem op5 {r:List UInt8}:Lx [40] [kT 5] r:=Zy (k:=5) (by omega) (by omega) (by omega)
theorem cl6 {r:List UInt8}:Lx [41] [kT 6] r:=Zy (k:=6) (by omega) (by omega) (by omega)
theorem Ua {r:List UInt8}:Lx [44,32] [kT 4] r:=Lx.app (s1:=[44]) (k1:=[kT 4]) (s2:=[32]) (k2:=[]) (Zy (k:=4) (by omega) (by omega) (by omega)) Lx.bl
theorem xU:∀(t:Tr),t.good→∀r,NW r→Lx t.txt t.tk r
 |.leaf o,h,r,hr=>Ql h.1 h.2 hr
 |.pre o a,h,r,hr=>by
  rw[Tr.txt,Tr.tk];have ha:=VW (b:=decide (a.str<6)) (xU a h.2.2) hr;unfold Xd;by_cases h7:o.k=7
  ·rw[if_pos h7,if_pos h7]
   exact Lx.app (k1:=[kT 10]) (Zy (k:=10) (by omega) (by omega) (by omega)) ha
  ·rw[if_neg h7,if_neg h7]
   exact Lx.app (s1:=zG 47++[32]) (k1:=[kT 47]++[]) (Lx.app (xX (by omega) (by omega) Vp) Lx.bl) ha
 |.bin o a b,h,r,hr=>by
  have hv:=Pl h.1 h.2.1;rw[Tr.txt,Tr.tk];have hb:=VW (b:=decide (b.str<z9 o.v+1)) (xU b h.2.2.2) hr;have key:=Lx.app (Lx.app (Lx.app (Lx.app (VW (b:=decide (a.str<lL (z9 o.v))) (xU a h.2.2.1) Vp) Lx.bl) (SA (k:=8+o.v.toNat) (by omega) (by omega) Vp (by simp))) Lx.bl) hb;simpa only[List.append_nil,ql,List.singleton_append]using key
 |.two o a b,h,r,hr=>by
  have hv:=bin_two h.1 h.2.1;rw[Tr.txt,Tr.tk];have key:=Lx.app (Lx.app (Lx.app (Lx.app (Lx.app (xX (k:=25+o.v.toNat) (by omega) (by omega) (yO (c:=40) (by decide))) op5) (xU a h.2.2.2.1 _ (yO (c:=44) (by decide)))) Ua) (xU b h.2.2.2.2 _ (yO (c:=41) (by decide)))) (cl6 (r:=r));simpa only[List.append_nil,ql,List.cons_append,List.nil_append]using key
 |.three o a b c,h,r,hr=>by
  have hv:=bin_two h.1 h.2.1;rw[Tr.txt,Tr.tk];have key:=Lx.app (Lx.app (Lx.app (Lx.app (Lx.app (Lx.app (Lx.app (xX (k:=25+o.v.toNat) (by omega) (by omega) (yO (c:=40) (by decide))) op5) (xU a h.2.2.2.1 _ (yO (c:=44) (by decide)))) Ua) (xU b h.2.2.2.2.1 _ (yO (c:=44) (by decide)))) Ua) (xU c h.2.2.2.2.2 _ (yO (c:=41) (by decide)))) (cl6 (r:=r));simpa only[List.append_nil,ql,List.cons_append,List.nil_append]using key
where
 bin_two {o:Po} (h:opB o=true) (hk:o.k=10):0≤o.v∧o.v≤2:=by
  obtain⟨-,-,h3,h4,-,-⟩:=xx h;rw[hk]at h4;simp[yr]at h4;omega
theorem xF:∀(t:Tr),t.good→t.txt.length+2≤22*t.num
 |.leaf o,h=>by
  have:=Vw h.1 h.2;simp only[Tr.txt,Tr.num,Tr.pf,qh,qi];omega
 |.pre o a,h=>by
  have:=xF a h.2.2;have h1:(Xd o).length≤4:=by unfold Xd;split<;>simp
  have h2:=par_le (decide (a.str<6)) a.txt;simp only[Tr.num]at this;simp only[Tr.txt,Tr.num,Tr.pf,qg,qh,qi];omega
 |.bin o a b,h=>by
  have i1:=xF a h.2.2.1;have i2:=xF b h.2.2.2;have h1:=Syn.tw_len (8+o.v.toNat);have h2:=par_le (decide (a.str<lL (z9 o.v))) a.txt;have h3:=par_le (decide (b.str<z9 o.v+1)) b.txt;simp only[Tr.num]at i1 i2;simp only[Tr.txt,Tr.num,Tr.pf,qg,qh,qi];omega
 |.two o a b,h=>by
  have i1:=xF a h.2.2.2.1;have i2:=xF b h.2.2.2.2;have h1:=Syn.tw_len (25+o.v.toNat);simp only[Tr.num]at i1 i2;simp only[Tr.txt,Tr.num,Tr.pf,qg,qh,qi];omega
 |.three o a b c,h=>by
  have i1:=xF a h.2.2.2.1;have i2:=xF b h.2.2.2.2.1;have i3:=xF c h.2.2.2.2.2;have h1:=Syn.tw_len (25+o.v.toNat);simp only[Tr.num]at i1 i2 i3;simp only[Tr.txt,Tr.num,Tr.pf,qg,qh,qi];omega
where
 par_le (b:Bool) (s:List UInt8):(par b s).length≤s.length+2:=by
  unfold par;split<;>simp<;>omega
end Go.Proofs.YtbkajklninmhiaaGreatDoor.Par
