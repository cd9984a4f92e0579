import Derived.Test.YtbkajklninmhiaaGreatDoorPm13
set_option maxHeartbeats 6400000
set_option maxRecDepth 1000000
set_option linter.unusedVariables false
set_option linter.unusedSimpArgs false
open List renaming length_append → qg, append_assoc → ql
open Nat renaming le_refl → qp, le_trans → qq
namespace Go.Proofs.YtbkajklninmhiaaGreatDoor.Par
open Go Go.RowKit Mem Syn Parse
attribute [local go_sem ↓] Go.wp_at_zero Go.wp_at_succ
theorem Nqs.get {w:World} {ok:Nat→Prop} {vs:List Value} {ts:List Tr} (h:Nqs w ok vs ts) (k:Nat) (hk:k<ts.length):∃v,vs[k]? =some v∧Nq w ok v ts[k]:=by
 induction h generalizing k with
 |nil=>simp at hk
 |cons v t vs ts h hs ih=>
  cases k with
  |zero=>exact⟨v,rfl,h⟩
  |succ k=>exact ih k (by simpa using hk)
theorem Vo {ts:List Tr} {k:Nat} (hk:k<ts.length):pfs (ts.take (k+1))=pfs (ts.take k)++(ts[k]).pf:=by
 unfold pfs;rw[List.take_succ_eq_append_getElem hk,List.flatMap_append];simp
theorem Vn (ts:List Tr) (k:Nat):(pfs (ts.take k)).length≤(pfs ts).length:=by
 conv=>rhs;rw[←List.take_append_drop k ts]
 unfold pfs;rw[List.flatMap_append,qg];omega
structure Cl (B:Nat) (sv:Value) (L:List Po) (g m:Nat) (vs:List Value) (ts:List Tr) (C:Array Value) (w:World) (k:Nat) (cur:Value) (wr:World):Prop where
 own:OwnO B wr cur (L++pfs (ts.take k))
 gx:Gx sv w cur wr
 box:wr.heap[w.heap.size]? =some (.cells C 174)
 nq:Nqs wr (fun _=>True) vs ts
 nk:Nk wr g
 cl:∀j u,vs[j]? =some u→wr.cell? ⟨g,j,none⟩=some u
 hB:B≤wr.heap.size
 sh:∃a n c,cur=.slice a n c
theorem xC {B B':Nat} {w:World} {v:Value} {L:List Po} (h:OwnO B w v L) (hB:B'≤B):OwnO B' w v L:=by
 refine⟨h.1,?_⟩;rcases h.2 with h0|⟨g,cap,cur,h1,h2,h3⟩
 ·exact Or.inl h0
 ·exact Or.inr ⟨g,cap,cur,h1,qq hB h2,h3⟩
theorem UG (o:Po) (ts:List Tr) (hts:∀t∈ts,PfC t) (vs:List Value) (g c m:Nat) (hm:m=ts.length) (hm3:m≤3) (sv:Value) (L:List Po) (B:Nat) (w:World) (hnk:Nk w g) (hcl:∀j u,vs[j]? =some u→w.cell? ⟨g,j,none⟩=some u) (hq:Nqs w (fun _=>True) vs ts) (hown:OwnO B w sv L) (hB:B≤w.heap.size) (hlen:L.length+(pfs ts).length+1≤100000):
  Calls Tryz.prog 129 #[sv,.iface 174 (.agg #[.int .i64 o.k,.int .i64 o.v,.string ⟨o.n.toArray⟩,.slice (some ⟨g,0,none⟩) m c])] w fun e w'=>∃v',e=.returned v'∧OwnO B w' v' (L++pfs ts++[o])∧Gx sv w v' w':=by
 obtain⟨i0,hi,hz0,hz1,hz2⟩:=info_parts yl;obtain⟨sa,sn,sc,rfl⟩:∃a n c,sv=.slice a n c:=by obtain⟨a,c,e,-⟩:=zh hown;exact⟨_,_,_,e⟩
 obtain⟨BOX,hBOX⟩:∃v,v=Value.agg #[.int .i64 o.k,.int .i64 o.v,.string ⟨o.n.toArray⟩,.slice (some ⟨g,0,none⟩) m c]:=⟨_,rfl⟩;have ta0:=VH BOX;have ta1:=VI BOX;have ta2:=W7 BOX;subst hBOX;obtain⟨W1,hW1⟩:∃W,W=w.alloc (.cells #[.int .i64 o.k,.int .i64 o.v,.string ⟨o.n.toArray⟩,.slice (some ⟨g,0,none⟩) m c] 174):=⟨_,rfl⟩;have A1:Hid (Below w.heap.size w W1):=by rw[hW1];exact zd (Below.refl _ _) _
 have C1:Hid (Cl B (.slice sa sn sc) L g m vs ts #[.int .i64 o.k,.int .i64 o.v,.string ⟨o.n.toArray⟩,.slice (some ⟨g,0,none⟩) m c] w 0 (.slice sa sn sc) W1):=⟨by simpa[pfs]using hown.below A1.out,(Gx.refl _ _).post A1.out,by rw[hW1];exact zo _ _,hq.keep (yu A1.out),hnk.below A1.out,fun j u hu=>zB A1.out (hcl j u hu),qq hB A1.out.size,⟨_,_,_,rfl⟩⟩;have HM:=Hm hm;have HTS:=Hm hts;have hgw:g<w.heap.size:=by obtain⟨C,fr,h⟩:=hnk;exact zN h
 clear hown hq hnk hcl hm hts;go_enter Tryz.func129,Tryz.ntmps129;go_wp2_with fail;rw[←hW1];clear hW1;go_loopw [0,43] (fun cur i wr=>∃k:Nat,k≤m∧i=.int .i64 (k:Int)∧Hid (Cl B (.slice sa sn sc) L g m vs ts #[.int .i64 o.k,.int .i64 o.v,.string ⟨o.n.toArray⟩,.slice (some ⟨g,0,none⟩) m c] w k cur wr)) (fun _ i _=>m- (intOf i).toNat)
 case atStart=>exact⟨0,Nat.zero_le _,rfl,C1⟩
 case round=>
  obtain⟨k,hk,rfl,hc⟩:=hrel;obtain⟨ca,cn,cc,rfl⟩:=hc.out.sh;by_cases hlt:k<m
  ·have k0:(0:Int)≤(k:Int):=by omega
   have k1:(k:Int)<(m:Int):=by omega
   have hkt:k<ts.length:=by rw[←HM.out];exact hlt
   obtain⟨v,hv,hqv⟩:=hc.out.nq.get k hkt;have y0:wr.cell? ⟨g,k,none⟩=some v:=hc.out.cl k v hv;have e9:IntKind.i64.wrap ((k:Int)+1)=(k:Int)+1:=by rw[IntKind.wrap_i64];omega
   have hle:=Vn ts (k+1);rw[Vo hkt,qg]at hle;have CC:=Hm (HTS.out ts[k] (List.getElem_mem hkt) v (.slice ca cn cc) (L++pfs (ts.take k)) B wr hqv hc.out.own hc.out.hB (by rw[qg];omega));clear hv hqv hle
   go_wp2_with (go_at_call 129;go_must (refine CC.out.mono ?_;rintro e w2 ⟨v2,rfl,o2,g2⟩;have HC2:Hid (Cl B (.slice sa sn sc) L g m vs ts #[.int .i64 o.k,.int .i64 o.v,.string ⟨o.n.toArray⟩,.slice (some ⟨g,0,none⟩) m c] w (k+1) v2 w2):=⟨by rw[Vo hkt,←ql];exact o2,hc.out.gx.trans g2,g2.blk hc.out.own hc.out.box (by decide),hc.out.nq.keep (g2.kn hc.out.own),(g2.kn (ok:=fun _=>True) hc.out.own).nk trivial hc.out.nk,fun j u hu=>(g2.kn (ok:=fun _=>True) hc.out.own).cell trivial hc.out.nk (hc.out.cl j u hu),qq hc.out.hB g2.1.size,(by obtain⟨a,c,e,-⟩:=zh o2;exact⟨_,_,_,e⟩)⟩;clear o2 g2));exact⟨⟨k+1,by omega,by first|rfl|go_num,HC2⟩,by simp[intOf];omega⟩
  ·have k1:decide ((k:Int)<(m:Int))=false:=by simp;omega
   have hkm:k=ts.length:=by rw[←HM.out];omega
   have o0:=(zb hc.out.box 0).trans rfl;have o1:=(zb hc.out.box 1).trans rfl;have o2:=(zb hc.out.box 2).trans rfl;have AB:Hid (Below wr.heap.size wr (wr.alloc (.cells o.cells.toArray 88))):=zd (Below.refl _ _) _;have OW:Hid (OwnO B wr (.slice ca cn cc) (L++pfs ts)):=by have:=hc.out.own;rw[hkm,List.take_length]at this;exact this
   have OW2:=Hm (OW.out.below AB.out);have hBr:B≤wr.heap.size:=hc.out.hB;have GX:=Hm (hc.out.gx.post AB.out);have hl2:(L++pfs ts).length+1≤100000:=by rw[qg];exact hlen
   clear hkm;go_wp2_with (at_builtin;go_must (refine wpList_append_own_at _ rfl _ _ 36 rfl B 88 i0 (.agg #[.int .i64 0,.int .i64 0,.string ⟨#[]⟩]) 3 32 Tryz.underlying36 hi hz0 hz1 hz2 rfl (by decide) _ _ _ rfl OW2.out ⟨wr.heap.size,0,none⟩ 1 1 (o).cells rfl rfl (Sp wr o _ (by simp)) (Yc o) (by unfold maxLen;omega) (by omega) (by simp;omega) ?_));intro v' w1 hown' hgrow _ hat;have HO:=Hm (OwnO.snoc (L:=L++pfs ts) (o:=o) (by rw[qg];exact hown'));have HK:=Hm (GX.out.trans (yd hgrow (by simpa using hat)));clear hown' hgrow hat;refine Hid.out ?_;refine Lib.hid ?_;go_wp2;go_ret;exact⟨_,rfl,HO.out,HK.out⟩
theorem xV:∀t:Tr,PfC t
 |.leaf o=>RQ o
 |.pre o a=>pf_pre o a (xV a)
 |.bin o a b=>pf_bin o a b (xV a) (xV b)
 |.two o a b=>by
  intro v sv L B w hq hown hB hlen;have h1:=xV a;have h2:=xV b
  cases hq with
  |two _ g c v u _ _ _ hk c1 c2 q1 q2=>
   refine(UG o [a,b] (fun t ht=>by simp at ht;rcases ht with rfl|rfl<;>assumption) [v,u] g c 2 rfl (by omega) sv L B w hk (fun j x hx=>?_) (.cons _ _ _ _ q1 (.cons _ _ _ _ q2 .nil)) hown hB (by simp only[Tr.pf,qg,List.length_singleton]at hlen;simp[pfs];omega)).mono ?_
   ·match j,hx with
    |0,hx=>cases hx;exact c1
    |1,hx=>cases hx;exact c2
   ·rintro e w' ⟨v',rfl,ho,hg⟩
    exact⟨v',rfl,by simpa[Tr.pf,pfs]using ho,hg⟩
 |.three o a b d=>by
  intro v sv L B w hq hown hB hlen;have h1:=xV a;have h2:=xV b;have h3:=xV d
  cases hq with
  |three _ g c v u x _ _ _ _ hk c1 c2 c3 q1 q2 q3=>
   refine(UG o [a,b,d] (fun t ht=>by simp at ht;rcases ht with rfl|rfl|rfl<;>assumption) [v,u,x] g c 3 rfl (by omega) sv L B w hk (fun j x hx=>?_) (.cons _ _ _ _ q1 (.cons _ _ _ _ q2 (.cons _ _ _ _ q3 .nil))) hown hB (by simp only[Tr.pf,qg,List.length_singleton]at hlen;simp[pfs];omega)).mono ?_
   ·match j,hx with
    |0,hx=>cases hx;exact c1
    |1,hx=>cases hx;exact c2
    |2,hx=>cases hx;exact c3
   ·rintro e w' ⟨v',rfl,ho,hg⟩
    exact⟨v',rfl,by simpa[Tr.pf,pfs]using ho,hg⟩
theorem Sa (B b:Nat) (a:Option Addr) (c:Nat) (t:List UInt8) (F i o:Nat) (w:World) (h:PS B b a c t i o 0 w) (ho:o≤2000) (hn:ex (tkT t) F 1 i o 0≠.out):
  Calls Tryz.prog 85 #[.pointer (some ⟨b,0,none⟩)] w fun e w'=>Res ((ex (tkT t) F 1 i o 0).bnd fun x=>.ok (x.1.pf,x.2.1,x.2.2)) (fun x e w'=>∃v,e=.returned v∧OwnO w.heap.size w' v x.1∧PS B b a c t x.2.1 x.2.2 0 w'∧x.2.2≤2000) e w'∧w.grownBy w' (some b):=by
 have P0:=Hm h;have HN:=Hm hn;clear h hn;go_enter Tryz.func85,Tryz.ntmps85;go_wp2_with fail;refine((allC B b a c t F F (qp _)).ex 1 i o 0 w (qp _) (by omega) P0.out ho (by omega) HN.out).mono ?_;rintro e w1 ⟨p,g⟩
 cases hr1:ex (tkT t) F 1 i o 0 with
 |out=>rw[hr1]at p;exact p.elim
 |bad cc aa=>
  have HR1:=Hm hr1;rw[hr1]at p;have p:e=.panicked (flV cc aa):=p;subst p;exact⟨rfl,(by simp only[HR1.out,zj,zx];exact rfl),zi (World.grownBy.refl _ _) g⟩
 |ok x1=>
  have HR1:=Hm hr1;rw[hr1]at p;obtain⟨v,rfl,q,p1,hx⟩:=p;have P1:=Hm p1;have GG1:=Hm g;have G1:=Hm (zi (World.grownBy.refl _ _) g);obtain⟨TT,uu,rfl⟩:=q.form;have Q1:=Hm (q.mono (ok':=fun _=>True) (fun _ _ _=>trivial));have hpf:=(Se (tkT t) F).1 _ _ _ _ _ hr1;clear q;clear p1 g hr1;have ON:Hid (OwnO w1.heap.size w1 (.slice none 0 0) []):=World.ownsRow_nil _ _ _ _;have hlen1:x1.1.pf.length≤2000:=by omega
  clear hpf;go_wp2_with fail;refine(xV x1.1 (.iface TT uu) (.slice none 0 0) [] w1.heap.size w1 Q1.out ON.out (qp _) (by simp;omega)).mono ?_;rintro e w2 ⟨v2,rfl,o2,g2⟩;have HB2:Hid (Below w1.heap.size w1 w2):=⟨g2.1.os,g2.1.tape,g2.1.output,g2.1.size,fun k hk=>g2.1.block k hk (by simp[Value.ownBlock])⟩;rw[List.nil_append]at o2;have HO:Hid (OwnO w.heap.size w2 v2 x1.1.pf):=xC o2 G1.out.size;have HP:=Hm (Px.below P1.out HB2.out);clear o2 g2;go_wp2;go_ret;exact⟨(by simp only[HR1.out,zj];exact⟨_,rfl,HO.out,HP.out,hx⟩),zi G1.out (zD HB2.out)⟩
end Go.Proofs.YtbkajklninmhiaaGreatDoor.Par
