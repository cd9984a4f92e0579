import Derived.Test.YtbkajklninmhiaaGreatDoorPm12
set_option maxHeartbeats 6400000
set_option maxRecDepth 1000000
set_option linter.unusedVariables false
set_option linter.unusedSimpArgs false
open List renaming setIfInBounds_toArray → qa, set_cons_zero → qb, set_cons_succ → qc, getElem_cons_succ → qd, getElem_cons_zero → qe, getElem_toArray → qf, length_append → qg
open Nat renaming le_refl → qp, le_trans → qq
namespace Go.Proofs.YtbkajklninmhiaaGreatDoor.Par
open Go Go.RowKit Mem Syn Parse
attribute [local go_sem ↓] Go.wp_at_zero Go.wp_at_succ
theorem Ug (v:Value) (w:World):(Instr.typeAssert (.iface 167 v) 130 167 true).run Tryz.prog w=.ok (.tuple #[v,.bool true]) w:=by kernel_rfl
theorem Uh (v:Value) (w:World):(Instr.typeAssert (.iface 171 v) 130 167 true).run Tryz.prog w=.ok (.tuple #[.agg #[.int .i64 0,.int .i64 0,.string ⟨#[]⟩,.nilIface],.bool false]) w:=by kernel_rfl
theorem Ui (v:Value) (w:World):(Instr.typeAssert (.iface 171 v) 130 171 true).run Tryz.prog w=.ok (.tuple #[v,.bool true]) w:=by kernel_rfl
theorem VH (v:Value) (w:World):(Instr.typeAssert (.iface 174 v) 130 167 true).run Tryz.prog w=.ok (.tuple #[.agg #[.int .i64 0,.int .i64 0,.string ⟨#[]⟩,.nilIface],.bool false]) w:=by kernel_rfl
theorem VI (v:Value) (w:World):(Instr.typeAssert (.iface 174 v) 130 171 true).run Tryz.prog w=.ok (.tuple #[.agg #[.int .i64 0,.int .i64 0,.string ⟨#[]⟩,.nilIface,.nilIface],.bool false]) w:=by kernel_rfl
theorem W7 (v:Value) (w:World):(Instr.typeAssert (.iface 174 v) 130 174 true).run Tryz.prog w=.ok (.tuple #[v,.bool true]) w:=by kernel_rfl
theorem VF (v:Value) (w:World):(Instr.typeAssert (.iface 164 v) 130 167 true).run Tryz.prog w=.ok (.tuple #[.agg #[.int .i64 0,.int .i64 0,.string ⟨#[]⟩,.nilIface],.bool false]) w:=by kernel_rfl
theorem VG (v:Value) (w:World):(Instr.typeAssert (.iface 164 v) 130 171 true).run Tryz.prog w=.ok (.tuple #[.agg #[.int .i64 0,.int .i64 0,.string ⟨#[]⟩,.nilIface,.nilIface],.bool false]) w:=by kernel_rfl
theorem WZ (v:Value) (w:World):(Instr.typeAssert (.iface 164 v) 130 174 true).run Tryz.prog w=.ok (.tuple #[.agg #[.int .i64 0,.int .i64 0,.string ⟨#[]⟩,.slice none 0 0],.bool false]) w:=by kernel_rfl
theorem WY (v:Value) (w:World):(Instr.typeAssert (.iface 164 v) 130 164 true).run Tryz.prog w=.ok (.tuple #[v,.bool true]) w:=by kernel_rfl
theorem yl:(Tryz.prog.info? 88).map (fun i=>(i.zero,i.size,i.bytes))=some (some (.agg #[.int .i64 0,.int .i64 0,.string ⟨#[]⟩]),3,32):=by kernel_rfl
theorem yM (a b:Int) (s:ByteArray):Instr.fill (fun i=>some (i*3,3)) ((Array.range (1*3)).map ((Value.agg #[.int .i64 0,.int .i64 0,.string ⟨#[]⟩]).cells[·% (Value.agg #[.int .i64 0,.int .i64 0,.string ⟨#[]⟩]).cells.size]!)) [(0,.agg [Value.int .i64 a,.int .i64 b,.string s].toArray)]=some [Value.int .i64 a,.int .i64 b,.string s].toArray:=by kernel_rfl
theorem zC {P:Program} {ops:Array Oper} {rest:List Oper} {o:Oper} {a:Act} {w:World} {Q:Exit→Act→World→Prop} (hg:o.guard=none) (t e:TypeId) (x:Operand) (ho:o.op=.buildSlice t 1 #[(0,x)])
  (ie:TypeInfo) (z:Value) (hu:P.underlying t=some (.slice e)) (hie:P.info? e=some ie) (hz:ie.zero=some z) (sz:Nat) (hs:ie.size=sz) (vs:List Value) (hx:a.eval x=.agg vs.toArray)
  (hf:Instr.fill (fun i=>some (i*sz,sz)) ((Array.range (1*sz)).map (z.cells[·% z.cells.size]!)) [(0,.agg vs.toArray)]=some vs.toArray) (h0:0<sz) (h1:sz≤1000)
  (h:wpList P ops Q rest (a.put o.dst (.slice (some ⟨w.heap.size,0,none⟩) 1 1)) (w.alloc (.cells vs.toArray e))):wpList P ops Q (o::rest) a w:=by
 refine wpList_buildSlice hg t e 1 _ ho vs.toArray ie z hu hie hz (by rw[hs];omega) (by rw[hs];omega) ?_ h;rw[hs];simpa[hx]using hf
theorem yx {P:Program} {ops:Array Oper} {o:Oper} {a:Act} {w:World} {K:Act→World→Prop} {Q:Exit→Act→World→Prop} {E:Prop} (hg:o.guard=none) (t e:TypeId) (x:Operand) (ho:o.op=.buildSlice t 1 #[(0,x)])
  (ie:TypeInfo) (z:Value) (hu:P.underlying t=some (.slice e)) (hie:P.info? e=some ie) (hz:ie.zero=some z) (sz:Nat) (hs:ie.size=sz) (vs:List Value) (hx:a.eval x=.agg vs.toArray)
  (hf:Instr.fill (fun i=>some (i*sz,sz)) ((Array.range (1*sz)).map (z.cells[·% z.cells.size]!)) [(0,.agg vs.toArray)]=some vs.toArray) (h0:0<sz) (h1:sz≤1000)
  (h:K (a.put o.dst (.slice (some ⟨w.heap.size,0,none⟩) 1 1)) (w.alloc (.cells vs.toArray e))):if Region.wanted o (yielded ops a.tmps)=true then Oper.wp P o a w K Q else E:=by
 have hw:Region.wanted o (yielded ops a.tmps)=true:=by simp[Region.wanted,hg]
 rw[if_pos hw];refine wp_buildSlice t e 1 _ ho vs.toArray ie z hu hie hz (by rw[hs];omega) (by rw[hs];omega) ?_ h;rw[hs];simpa[hx]using hf
theorem yy {P:Program} {ops:Array Oper} {o:Oper} {a:Act} {w:World} {K:Act→World→Prop} {Q:Exit→Act→World→Prop} {E:Prop}
  (hg:o.guard=none) (s x:Operand) (t:TypeId) (hop:o.op=Op.call {callee:=Callee.builtin Builtin.append,args:=#[s,x],argTypes:=#[t,t]})
  (B:Nat) (e:TypeId) (i:TypeInfo) (z:Value) (size bytes:Nat) (h1:P.underlying t=some (.slice e)) (h2:P.info? e=some i) (h3:i.zero=some z) (h4:i.size=size) (h5:i.bytes=bytes) (h6:z.cells.size=size) (h7:0<size)
  (v:Value) (n:Nat) (xs:List Value) (hs:a.eval s=v) (hrow:w.ownsRow B e size v n xs)
  (ad:Addr) (m c:Nat) (news:List Value) (hx:a.eval x=.slice (some ad) m c) (hn:news.length=m*size) (hc:∀j u,news[j]? =some u→w.cell? (ad.add j)=some u) (h1c:∀u∈news,u.oneCell'=true)
  (b1:n+m≤maxLen) (b2:(n+m)*bytes≤140737488355328) (hB:B≤w.heap.size)
  (hK:∀v' w',w'.ownsRow B e size v' (n+m) (xs++news)→w.grownBy w' v.ownBlock→(v'.ownBlock=v.ownBlock∨v'.ownBlock=some w.heap.size)→K (a.put o.dst v') w'):
  if Region.wanted o (yielded ops a.tmps)=true then Oper.wp P o a w K Q else E:=by
 have hw:Region.wanted o (yielded ops a.tmps)=true:=by simp[Region.wanted,hg]
 rw[if_pos hw];obtain⟨v',w',hrun,r1,r2,-,r3⟩:=run_append_own_at (P:=P) w B t o.type e i z size bytes h1 h2 h3 h4 h5 h6 h7 v n xs hrow ad m c news hn hc h1c b1 b2 hB;have hk:=hK v' w' r1 r2 r3;unfold Oper.wp;simp[execOp,hop,resolve,invoke,builtin,hs,hx,hrun,Result.andThen];exact hk
def Gx (sv:Value) (w:World) (v:Value) (w':World):Prop:=w.grownBy w' sv.ownBlock∧(v.ownBlock=sv.ownBlock∨∃k,v.ownBlock=some k∧w.heap.size≤k)
theorem Gx.refl (v:Value) (w:World):Gx v w v w:=⟨World.grownBy.refl _ _,Or.inl rfl⟩
theorem Gx.trans {a b c:Value} {w w1 w2:World} (h:Gx a w b w1) (k:Gx b w1 c w2):Gx a w c w2:=by
 refine⟨World.grownBy.andThen h.1 k.1 (fun j e=>?_),?_⟩
 ·rcases h.2 with e2|⟨j2,e2,h2⟩
  ·exact Or.inr (by rw[←e2,e])
  ·rw[e2]at e;have:=Option.some.inj e;exact Or.inl (by omega)
 ·rcases k.2 with e|⟨j,e,hj⟩
  ·rw[e];exact h.2
  ·exact Or.inr ⟨j,e,qq h.1.size hj⟩
theorem Gx.pre {a b:Value} {w w1 w2:World} (hb:Below w.heap.size w w1) (k:Gx a w1 b w2):Gx a w b w2:=
 ⟨zi (zD hb) k.1,k.2.imp id (fun⟨j,e,hj⟩=>⟨j,e,qq hb.size hj⟩)⟩
theorem Gx.post {a b:Value} {w w1 w2:World} (k:Gx a w b w1) (hb:Below w1.heap.size w1 w2):Gx a w b w2:=⟨zi k.1 (zD hb),k.2⟩
theorem yd {v v':Value} {w w':World} (hg:w.grownBy w' v.ownBlock) (hat:v'.ownBlock=v.ownBlock∨v'.ownBlock=some w.heap.size):Gx v w v' w':=⟨hg,hat.imp id (fun e=>⟨_,e,qp _⟩)⟩
theorem Gx.blk {B n g:Nat} {v v':Value} {w w':World} {xs:List Value} {cs:Array Value} {t:TypeId} {fr:Nat×Nat} (h:Gx v w v' w') (ho:w.ownsRow B 88 3 v n xs) (hb:w.heap[g]? =some (.cells cs t fr)) (ht:t≠88):w'.heap[g]? =some (.cells cs t fr):=by
 rw[h.1.block g (zN hb) (fun e=>?_)]
 ·exact hb
 ·obtain⟨c,fz,hc⟩:=yC ho g e.symm
  rw[hb]at hc;injection hc with hc;injection hc with _ h2 _;exact ht h2
theorem Gx.fresh {g:Nat} {v v':Value} {w w':World} {o:Obj} (h:Gx v w v' w') (hb:w.heap[g]? =some o) (hv:v.ownBlock≠some g):w'.heap[g]? =some o:=by
 rw[h.1.block g (zN hb) (fun e=>hv e.symm)];exact hb
theorem gx_ne {a v:Value} {X w':World} {r:Nat} (h:Gx a X v w') (ha:a.ownBlock≠some r) (hr:r<X.heap.size):v.ownBlock≠some r:=fun e=>by
 rcases h.2 with h2|⟨j,h2,h3⟩
 ·exact ha (h2.symm.trans e)
 ·rw[h2]at e
  have:=Option.some.inj e;omega
theorem Gx.kn {B n:Nat} {v v':Value} {w w':World} {xs:List Value} (h:Gx v w v' w') (ho:w.ownsRow B 88 3 v n xs) {ok:Nat→Prop}:Kn ok w w':=fun g C fr _ hc=>h.blk ho hc (by decide)
def zH (L:List Po):List Value:=L.flatMap Po.cells
def OwnO (B:Nat) (w:World) (v:Value) (L:List Po):Prop:=w.ownsRow B 88 3 v L.length (zH L)
theorem OwnO.below {B:Nat} {w w':World} {v:Value} {L:List Po} (h:OwnO B w v L) (hb:Below w.heap.size w w'):OwnO B w' v L:=z7 h hb
theorem OwnO.snoc {B:Nat} {w:World} {v:Value} {L:List Po} {o:Po} (h:w.ownsRow B 88 3 v (L.length+1) (zH L++o.cells)):OwnO B w v (L++[o]):=by
 unfold OwnO zH;rw[qg,List.flatMap_append];simpa[zH]using h
theorem XC (w:World) (o:Po):∀j u,o.cells[j]? =some u→(w.alloc (.cells o.cells.toArray 88)).cell? ((⟨w.heap.size,0,none⟩:Addr).add j)=some u:=fun j u hu=>by
 rw[Addr.add_lit,Nat.zero_add,zb (zo w _) j];simpa using hu
theorem Sp (w:World) (o:Po) (g:Nat) (hg:g=w.heap.size):∀j u,o.cells[j]? =some u→(w.alloc (.cells o.cells.toArray 88)).cell? ((⟨g,0,none⟩:Addr).add j)=some u:=by subst hg;exact XC w o
theorem Vr {w:World} {g:Nat} {o:Po} {fr:Nat×Nat} (h:w.heap[g]? =some (.cells o.cells.toArray 88 fr)):∀j u,o.cells[j]? =some u→w.cell? ((⟨g,0,none⟩:Addr).add j)=some u:=fun j u hu=>by
 rw[Addr.add_lit,Nat.zero_add,zb h j];simpa using hu
theorem Yc (o:Po):∀u∈o.cells,u.oneCell'=true:=fun u hu=>by simp[Po.cells]at hu;rcases hu with rfl|rfl|rfl<;>rfl
def PfC (t:Tr):Prop:=∀(v sv:Value) (L:List Po) (B:Nat) (w:World),Nq w (fun _=>True) v t→OwnO B w sv L→B≤w.heap.size→L.length+t.pf.length≤100000→
 Calls Tryz.prog 129 #[sv,v] w fun e w'=>∃v',e=.returned v'∧OwnO B w' v' (L++t.pf)∧Gx sv w v' w'
theorem RQ (o:Po):PfC (.leaf o):=by
 intro v sv L B w hq hown hB hlen;obtain⟨i0,hi,hz0,hz1,hz2⟩:=info_parts yl
 cases hq
 have h1:L.length+1≤100000:=by simpa[Tr.pf]using hlen
 obtain⟨sa,sn,sc,rfl⟩:∃a n c,sv=.slice a n c:=by obtain⟨a,c,rfl,-⟩:=zh hown;exact⟨_,_,_,rfl⟩
 unfold opV;obtain⟨BOX,hBOX⟩:∃v,v=Value.agg #[.int .i64 o.k,.int .i64 o.v,.string ⟨o.n.toArray⟩]:=⟨_,rfl⟩;have ta0:=VF BOX;have ta1:=VG BOX;have ta2:=WZ BOX;have ta3:=WY BOX;subst hBOX;have A1:Hid (Below w.heap.size w (w.alloc (.cells #[.int .i64 o.k,.int .i64 o.v,.string ⟨o.n.toArray⟩] 164))):=zd (Below.refl _ _) _;have A2:Hid (Below w.heap.size w ((w.alloc (.cells #[.int .i64 o.k,.int .i64 o.v,.string ⟨o.n.toArray⟩] 164)).alloc (.cells o.cells.toArray 88))):=zd A1.out _;have O2:=Hm (hown.below A2.out);have hBW:B≤(w.alloc (.cells #[.int .i64 o.k,.int .i64 o.v,.string ⟨o.n.toArray⟩] 164)).heap.size:=qq hB A1.out.size;clear hown hlen;go_enter Tryz.func129,Tryz.ntmps129
 go_wp2_with (at_builtin;go_must (refine wpList_append_own_at _ rfl _ _ 36 rfl B 88 i0 (.agg #[.int .i64 0,.int .i64 0,.string ⟨#[]⟩]) 3 32 Tryz.underlying36 hi hz0 hz1 hz2 rfl (by decide) _ _ _ rfl O2.out ⟨w.heap.size+1,0,none⟩ 1 1 (o).cells rfl rfl (Sp (w.alloc (.cells #[.int .i64 o.k,.int .i64 o.v,.string ⟨o.n.toArray⟩] 164)) o _ (by simp)) (Yc o) (by unfold maxLen;omega) (by omega) (by simp;omega) ?_));intro v' w1 hown' hgrow _ hat;have HO:=Hm (OwnO.snoc hown');have HK:=Hm (Gx.pre A2.out (yd hgrow (by simpa using hat)));clear hown' hgrow hat;refine Hid.out ?_;refine Lib.hid ?_;go_wp2;go_ret;exact⟨_,rfl,HO.out,HK.out⟩
theorem pf_pre (o:Po) (x:Tr) (hx:PfC x):PfC (.pre o x):=by
 intro v sv L B w hq hown hB hlen;obtain⟨i0,hi,hz0,hz1,hz2⟩:=info_parts yl
 cases hq with
 |pre _ vx _ qx=>
  have h1:L.length+(x.pf.length)+1≤100000:=by simp only[Tr.pf,qg,List.length_singleton]at hlen;omega
  obtain⟨sa,sn,sc,rfl⟩:∃a n c,sv=.slice a n c:=by obtain⟨a,c,rfl,-⟩:=zh hown;exact⟨_,_,_,rfl⟩
  obtain⟨Tx,ux,rfl⟩:=qx.form;obtain⟨BOX,hBOX⟩:∃v,v=Value.agg #[.int .i64 o.k,.int .i64 o.v,.string ⟨o.n.toArray⟩,.iface Tx ux]:=⟨_,rfl⟩;have ta0:=Ug BOX;subst hBOX;obtain⟨W1,hW1⟩:∃W,W=w.alloc (.cells #[.int .i64 o.k,.int .i64 o.v,.string ⟨o.n.toArray⟩,.iface Tx ux] 167):=⟨_,rfl⟩;have A1:Hid (Below w.heap.size w W1):=by rw[hW1];exact zd (Below.refl _ _) _
  have R1:Hid (W1.heap[w.heap.size]? =some (.cells #[.int .i64 o.k,.int .i64 o.v,.string ⟨o.n.toArray⟩,.iface Tx ux] 167)):=by rw[hW1];exact zo _ _
  have AD:Hid (Below w.heap.size w W1.drew):=A1.out.drew;have D1:Hid (Below W1.heap.size W1 W1.drew):=(Below.refl _ _).drew;have O1:=Hm (hown.below AD.out);have Qx:=Hm (qx.keep (yu AD.out));have hB1:B≤W1.heap.size:=qq hB A1.out.size;have hB1d:B≤W1.drew.heap.size:=hB1;have hsv:Hid (∀g,(Value.slice sa sn sc).ownBlock=some g→g<w.heap.size):=fun g e=>(hown.lt g e).2
  have HS:Hid ((fun w'=>w'.cell? ⟨w.heap.size,0,none⟩=some (.int .i64 o.k)∧w'.cell? ⟨w.heap.size,1,none⟩=some (.int .i64 o.v)∧w'.cell? ⟨w.heap.size,2,none⟩=some (.string ⟨o.n.toArray⟩)∧w'.cell? ⟨w.heap.size,3,none⟩=some (.iface Tx ux)) W1):=⟨(zb (R1.out) 0).trans rfl,(zb (R1.out) 1).trans rfl,(zb (R1.out) 2).trans rfl,(zb (R1.out) 3).trans rfl⟩;have HLO:Hid (L.length=(L.length)):=rfl;clear hown hlen qx;go_enter Tryz.func129,Tryz.ntmps129;go_upto_region 4 with fail;rw[←hW1];clear hW1;have BX0:=Hm (zg R1.out D1.out);have GX0:Hid (Gx (.slice sa sn sc) w (.slice sa sn sc) W1.drew):=(Gx.refl _ _).post AD.out
  refine wp_region_held_drew (S:=(fun w'=>w'.cell? ⟨w.heap.size,0,none⟩=some (.int .i64 o.k)∧w'.cell? ⟨w.heap.size,1,none⟩=some (.int .i64 o.v)∧w'.cell? ⟨w.heap.size,2,none⟩=some (.string ⟨o.n.toArray⟩)∧w'.cell? ⟨w.heap.size,3,none⟩=some (.iface Tx ux))) (by kernel_rfl) ?_ (fun hHeld=>?_)
  ·exact HS.out
  refine tK 0 ?_ rfl (by kernel_rfl) (fun _ _ _ h=>h) (by rfl) ?_ (by assumption) ?_;rotate_left
  ·intro w hSw;(try dsimp only at hSw);go_simp;(try with_reducible rfl)
  rotate_left;simp only[Act.put,qa,qb,qc,qf,qe,qd];refine tK 1 ?_ rfl (by kernel_rfl) (fun _ _ _ h=>h) (by rfl) ?_ (by assumption) ?_;rotate_left
  ·intro w hSw;(try dsimp only at hSw);go_simp;(try with_reducible rfl)
  rotate_left;simp only[Act.put,qa,qb,qc,qf,qe,qd];refine tK 2 ?_ rfl (by kernel_rfl) (fun _ _ _ h=>h) (by rfl) ?_ (by assumption) ?_;rotate_left
  ·intro w hSw;(try dsimp only at hSw);go_simp;(try with_reducible rfl)
  rotate_left;simp only[Act.put,qa,qb,qc,qf,qe,qd];refine tK 4 ?_ rfl (by kernel_rfl) (fun _ _ _ h=>h) (by rfl) ?_ (by assumption) ?_;rotate_left
  ·intro w hSw;(try dsimp only at hSw);go_simp;(try with_reducible rfl)
  rotate_left;simp only[Act.put,qa,qb,qc,qf,qe,qd];refine tK 5 ?_ rfl (by kernel_rfl) (fun _ _ _ h=>h) (by rfl) ?_ (by assumption) ?_;rotate_left
  ·intro w hSw;(try dsimp only at hSw);go_simp;(try with_reducible rfl)
  rotate_left;simp only[Act.put,qa,qb,qc,qf,qe,qd];refine wpAnyH_ready (rs:=[3,6]) (by kernel_rfl) (by simp) ?_;refine AllReadyH.cons rfl (fun K hK=>?_) ?_
  ·go_simp
   refine(hx (.iface Tx ux) (Value.slice sa sn sc) L B W1.drew Qx.out O1.out hB1d (by(try simp only[qg]);omega)).mono ?_;rintro e w1 ⟨v1,rfl,o1,g1⟩;obtain⟨a1,n1,c1,rfl⟩:∃a n c,v1=.slice a n c:=by obtain⟨a,c,e,-⟩:=zh o1;exact⟨_,_,_,e⟩
   have OW1:=Hm o1;have BX1:=Hm (g1.blk O1.out BX0.out (by decide));have GX1:=Hm ((GX0.out).trans g1);have hb1:B≤w1.heap.size:=qq hB1d g1.1.size;have Qx1:=Hm ((Qx.out).keep (g1.kn O1.out));have GY1:=Hm g1;clear o1 g1;refine hK.out _ _ ?_ (fun hHeld=>?_)
   ·exact⟨(zb (BX1.out) 0).trans rfl,(zb (BX1.out) 1).trans rfl,(zb (BX1.out) 2).trans rfl,(zb (BX1.out) 3).trans rfl⟩
   clear hK K
   (try simp only[Act.put,qa,qb,qc,qf,qe,qd])
   refine wpAnyH_ready (rs:=[6]) (by kernel_rfl) (by simp) ?_;refine AllReadyH.cons rfl (fun K hK=>?_) ?_
   ·refine yx rfl 36 88 (.tmp 20) rfl i0 _ Tryz.underlying36 hi hz0 3 hz1 o.cells (by simp[Act.eval,Act.put,Po.cells]) (yM _ _ _) (by decide) (by decide) ?_
    have AB2:Hid (Below (w1).heap.size (w1) ((w1).alloc (.cells o.cells.toArray 88))):=zd (Below.refl _ _) _;have OW2:=Hm (OwnO.below (OW1.out) AB2.out);have BX2:=Hm (zg (BX1.out) AB2.out);have GX2:=Hm ((GX1.out).post AB2.out);have NB2:=Hm (zo (w1) (.cells o.cells.toArray 88));have hb2:B≤((w1).alloc (.cells o.cells.toArray 88)).heap.size:=qq hb1 AB2.out.size;have Qx2:=Hm ((Qx1.out).keep (yu AB2.out));refine hK.out _ _ ?_ (fun hHeld=>?_)
    ·exact⟨(zb (BX2.out) 0).trans rfl,(zb (BX2.out) 1).trans rfl,(zb (BX2.out) 2).trans rfl,(zb (BX2.out) 3).trans rfl⟩
    clear hK K
    (try simp only[Act.put,qa,qb,qc,qf,qe,qd])
    refine wpAnyH_ready (rs:=[7]) (by kernel_rfl) (by simp) ?_;refine AllReadyH.cons rfl (fun K hK=>?_) ?_
    ·refine yy rfl (.tmp 18) (.tmp 21) 36 rfl B 88 i0 (.agg #[.int .i64 0,.int .i64 0,.string ⟨#[]⟩]) 3 32 Tryz.underlying36 hi hz0 hz1 hz2 rfl (by decide) (Value.slice a1 n1 c1) _ _ (by simp[Act.eval,Act.put]) OW2.out ⟨(w1).heap.size,0,none⟩ 1 1 o.cells (by simp[Act.eval,Act.put]) rfl (Vr (NB2.out)) (Yc o) (by unfold maxLen;(try simp only[qg]);omega) (by(try simp only[qg]);omega) hb2 ?_
     intro v3 w3 hown hgrow hat;have HO:=Hm (OwnO.snoc hown);have HG:=Hm ((GX2.out).trans (yd hgrow hat));have HSZ:Hid ((fun w'=>w'.cell? ⟨w.heap.size,0,none⟩=some (.int .i64 o.k)∧w'.cell? ⟨w.heap.size,1,none⟩=some (.int .i64 o.v)∧w'.cell? ⟨w.heap.size,2,none⟩=some (.string ⟨o.n.toArray⟩)∧w'.cell? ⟨w.heap.size,3,none⟩=some (.iface Tx ux)) w3):=⟨(zb ((yd hgrow hat).blk OW2.out BX2.out (by decide)) 0).trans rfl,(zb ((yd hgrow hat).blk OW2.out BX2.out (by decide)) 1).trans rfl,(zb ((yd hgrow hat).blk OW2.out BX2.out (by decide)) 2).trans rfl,(zb ((yd hgrow hat).blk OW2.out BX2.out (by decide)) 3).trans rfl⟩;clear hown hgrow hat;refine hK.out _ _ ?_ (fun hHeld=>?_)
     ·exact HSZ.out
     clear hK K
     (try simp only[Act.put,qa,qb,qc,qf,qe,qd])
     refine tK 8 ?_ rfl (by kernel_rfl) (fun _ _ _ h=>h) (by rfl) ?_ (by assumption) ?_;rotate_left
     ·intro w hSw;(try dsimp only at hSw);go_simp;(try with_reducible rfl)
     rotate_left;simp only[Act.put,qa,qb,qc,qf,qe,qd];refine wpAnyH_done (by kernel_rfl) ?_ _;go_wp2;go_ret;exact⟨_,rfl,by simpa[Tr.pf]using HO.out,HG.out⟩
    exact AllReadyH.nil
   exact AllReadyH.nil
  refine AllReadyH.cons rfl (fun K hK=>?_) ?_
  ·refine yx rfl 36 88 (.tmp 20) rfl i0 _ Tryz.underlying36 hi hz0 3 hz1 o.cells (by simp[Act.eval,Act.put,Po.cells]) (yM _ _ _) (by decide) (by decide) ?_
   have AB1:Hid (Below (W1.drew).heap.size (W1.drew) ((W1.drew).alloc (.cells o.cells.toArray 88))):=zd (Below.refl _ _) _;have OW1:=Hm (OwnO.below (O1.out) AB1.out);have BX1:=Hm (zg (BX0.out) AB1.out);have GX1:=Hm ((GX0.out).post AB1.out);have NB1:=Hm (zo (W1.drew) (.cells o.cells.toArray 88));have hb1:B≤((W1.drew).alloc (.cells o.cells.toArray 88)).heap.size:=qq hB1d AB1.out.size;have Qx1:=Hm ((Qx.out).keep (yu AB1.out));refine hK.out _ _ ?_ (fun hHeld=>?_)
   ·exact⟨(zb (BX1.out) 0).trans rfl,(zb (BX1.out) 1).trans rfl,(zb (BX1.out) 2).trans rfl,(zb (BX1.out) 3).trans rfl⟩
   clear hK K
   (try simp only[Act.put,qa,qb,qc,qf,qe,qd])
   refine wpAnyH_ready (rs:=[3]) (by kernel_rfl) (by simp) ?_;refine AllReadyH.cons rfl (fun K hK=>?_) ?_
   ·go_simp
    refine(hx (.iface Tx ux) (Value.slice sa sn sc) L B ((W1.drew).alloc (.cells o.cells.toArray 88)) Qx1.out OW1.out hb1 (by(try simp only[qg]);omega)).mono ?_;rintro e w2 ⟨v2,rfl,o2,g2⟩;obtain⟨a2,n2,c2,rfl⟩:∃a n c,v2=.slice a n c:=by obtain⟨a,c,e,-⟩:=zh o2;exact⟨_,_,_,e⟩
    have OW2:=Hm o2;have BX2:=Hm (g2.blk OW1.out BX1.out (by decide));have GX2:=Hm ((GX1.out).trans g2);have hb2:B≤w2.heap.size:=qq hb1 g2.1.size;have Qx2:=Hm ((Qx1.out).keep (g2.kn OW1.out));have NB2:=Hm (g2.fresh (NB1.out) (fun e=>absurd (((O1.out).lt _ e).2) (Nat.lt_irrefl _)));have GY2:=Hm g2;clear o2 g2;refine hK.out _ _ ?_ (fun hHeld=>?_)
    ·exact⟨(zb (BX2.out) 0).trans rfl,(zb (BX2.out) 1).trans rfl,(zb (BX2.out) 2).trans rfl,(zb (BX2.out) 3).trans rfl⟩
    clear hK K
    (try simp only[Act.put,qa,qb,qc,qf,qe,qd])
    refine wpAnyH_ready (rs:=[7]) (by kernel_rfl) (by simp) ?_;refine AllReadyH.cons rfl (fun K hK=>?_) ?_
    ·refine yy rfl (.tmp 18) (.tmp 21) 36 rfl B 88 i0 (.agg #[.int .i64 0,.int .i64 0,.string ⟨#[]⟩]) 3 32 Tryz.underlying36 hi hz0 hz1 hz2 rfl (by decide) (Value.slice a2 n2 c2) _ _ (by simp[Act.eval,Act.put]) OW2.out ⟨(W1.drew).heap.size,0,none⟩ 1 1 o.cells (by simp[Act.eval,Act.put]) rfl (Vr (NB2.out)) (Yc o) (by unfold maxLen;(try simp only[qg]);omega) (by(try simp only[qg]);omega) hb2 ?_
     intro v3 w3 hown hgrow hat;have HO:=Hm (OwnO.snoc hown);have HG:=Hm ((GX2.out).trans (yd hgrow hat));have HSZ:Hid ((fun w'=>w'.cell? ⟨w.heap.size,0,none⟩=some (.int .i64 o.k)∧w'.cell? ⟨w.heap.size,1,none⟩=some (.int .i64 o.v)∧w'.cell? ⟨w.heap.size,2,none⟩=some (.string ⟨o.n.toArray⟩)∧w'.cell? ⟨w.heap.size,3,none⟩=some (.iface Tx ux)) w3):=⟨(zb ((yd hgrow hat).blk OW2.out BX2.out (by decide)) 0).trans rfl,(zb ((yd hgrow hat).blk OW2.out BX2.out (by decide)) 1).trans rfl,(zb ((yd hgrow hat).blk OW2.out BX2.out (by decide)) 2).trans rfl,(zb ((yd hgrow hat).blk OW2.out BX2.out (by decide)) 3).trans rfl⟩;clear hown hgrow hat;refine hK.out _ _ ?_ (fun hHeld=>?_)
     ·exact HSZ.out
     clear hK K
     (try simp only[Act.put,qa,qb,qc,qf,qe,qd])
     refine tK 8 ?_ rfl (by kernel_rfl) (fun _ _ _ h=>h) (by rfl) ?_ (by assumption) ?_;rotate_left
     ·intro w hSw;(try dsimp only at hSw);go_simp;(try with_reducible rfl)
     rotate_left;simp only[Act.put,qa,qb,qc,qf,qe,qd];refine wpAnyH_done (by kernel_rfl) ?_ _;go_wp2;go_ret;exact⟨_,rfl,by simpa[Tr.pf]using HO.out,HG.out⟩
    exact AllReadyH.nil
   exact AllReadyH.nil
  exact AllReadyH.nil
theorem pf_bin (o:Po) (x y:Tr) (hx:PfC x) (hy:PfC y):PfC (.bin o x y):=by
 intro v sv L B w hq hown hB hlen;obtain⟨i0,hi,hz0,hz1,hz2⟩:=info_parts yl
 cases hq with
 |bin _ vx vy _ _ qx qy=>
  have h1:L.length+(x.pf.length+y.pf.length)+1≤100000:=by simp only[Tr.pf,qg,List.length_singleton]at hlen;omega
  obtain⟨sa,sn,sc,rfl⟩:∃a n c,sv=.slice a n c:=by obtain⟨a,c,rfl,-⟩:=zh hown;exact⟨_,_,_,rfl⟩
  obtain⟨Tx,ux,rfl⟩:=qx.form;obtain⟨Ty,uy,rfl⟩:=qy.form;obtain⟨BOX,hBOX⟩:∃v,v=Value.agg #[.int .i64 o.k,.int .i64 o.v,.string ⟨o.n.toArray⟩,.iface Tx ux,.iface Ty uy]:=⟨_,rfl⟩;have ta0:=Uh BOX;have ta1:=Ui BOX;subst hBOX;obtain⟨W1,hW1⟩:∃W,W=w.alloc (.cells #[.int .i64 o.k,.int .i64 o.v,.string ⟨o.n.toArray⟩,.iface Tx ux,.iface Ty uy] 171):=⟨_,rfl⟩;have A1:Hid (Below w.heap.size w W1):=by rw[hW1];exact zd (Below.refl _ _) _
  have R1:Hid (W1.heap[w.heap.size]? =some (.cells #[.int .i64 o.k,.int .i64 o.v,.string ⟨o.n.toArray⟩,.iface Tx ux,.iface Ty uy] 171)):=by rw[hW1];exact zo _ _
  have AD:Hid (Below w.heap.size w W1.drew):=A1.out.drew;have D1:Hid (Below W1.heap.size W1 W1.drew):=(Below.refl _ _).drew;have O1:=Hm (hown.below AD.out);have Qx:=Hm (qx.keep (yu AD.out));have Qy:=Hm (qy.keep (yu AD.out));have hB1:B≤W1.heap.size:=qq hB A1.out.size;have hB1d:B≤W1.drew.heap.size:=hB1;have hsv:Hid (∀g,(Value.slice sa sn sc).ownBlock=some g→g<w.heap.size):=fun g e=>(hown.lt g e).2
  have HS:Hid ((fun w'=>w'.cell? ⟨w.heap.size,0,none⟩=some (.int .i64 o.k)∧w'.cell? ⟨w.heap.size,1,none⟩=some (.int .i64 o.v)∧w'.cell? ⟨w.heap.size,2,none⟩=some (.string ⟨o.n.toArray⟩)∧w'.cell? ⟨w.heap.size,3,none⟩=some (.iface Tx ux)∧w'.cell? ⟨w.heap.size,4,none⟩=some (.iface Ty uy)) W1):=⟨(zb (R1.out) 0).trans rfl,(zb (R1.out) 1).trans rfl,(zb (R1.out) 2).trans rfl,(zb (R1.out) 3).trans rfl,(zb (R1.out) 4).trans rfl⟩;have HLO:Hid (L.length=(L.length)):=rfl;clear hown hlen qx qy;go_enter Tryz.func129,Tryz.ntmps129;go_upto_region 7 with fail;rw[←hW1];clear hW1;have BX0:=Hm (zg R1.out D1.out);have GX0:Hid (Gx (.slice sa sn sc) w (.slice sa sn sc) W1.drew):=(Gx.refl _ _).post AD.out
  refine wp_region_held_drew (S:=(fun w'=>w'.cell? ⟨w.heap.size,0,none⟩=some (.int .i64 o.k)∧w'.cell? ⟨w.heap.size,1,none⟩=some (.int .i64 o.v)∧w'.cell? ⟨w.heap.size,2,none⟩=some (.string ⟨o.n.toArray⟩)∧w'.cell? ⟨w.heap.size,3,none⟩=some (.iface Tx ux)∧w'.cell? ⟨w.heap.size,4,none⟩=some (.iface Ty uy))) (by kernel_rfl) ?_ (fun hHeld=>?_)
  ·exact HS.out
  refine tK 0 ?_ rfl (by kernel_rfl) (fun _ _ _ h=>h) (by rfl) ?_ (by assumption) ?_;rotate_left
  ·intro w hSw;(try dsimp only at hSw);go_simp;(try with_reducible rfl)
  rotate_left;simp only[Act.put,qa,qb,qc,qf,qe,qd];refine tK 1 ?_ rfl (by kernel_rfl) (fun _ _ _ h=>h) (by rfl) ?_ (by assumption) ?_;rotate_left
  ·intro w hSw;(try dsimp only at hSw);go_simp;(try with_reducible rfl)
  rotate_left;simp only[Act.put,qa,qb,qc,qf,qe,qd];refine tK 2 ?_ rfl (by kernel_rfl) (fun _ _ _ h=>h) (by rfl) ?_ (by assumption) ?_;rotate_left
  ·intro w hSw;(try dsimp only at hSw);go_simp;(try with_reducible rfl)
  rotate_left;simp only[Act.put,qa,qb,qc,qf,qe,qd];refine tK 4 ?_ rfl (by kernel_rfl) (fun _ _ _ h=>h) (by rfl) ?_ (by assumption) ?_;rotate_left
  ·intro w hSw;(try dsimp only at hSw);go_simp;(try with_reducible rfl)
  rotate_left;simp only[Act.put,qa,qb,qc,qf,qe,qd];refine tK 5 ?_ rfl (by kernel_rfl) (fun _ _ _ h=>h) (by rfl) ?_ (by assumption) ?_;rotate_left
  ·intro w hSw;(try dsimp only at hSw);go_simp;(try with_reducible rfl)
  rotate_left;simp only[Act.put,qa,qb,qc,qf,qe,qd];refine tK 7 ?_ rfl (by kernel_rfl) (fun _ _ _ h=>h) (by rfl) ?_ (by assumption) ?_;rotate_left
  ·intro w hSw;(try dsimp only at hSw);go_simp;(try with_reducible rfl)
  rotate_left;simp only[Act.put,qa,qb,qc,qf,qe,qd];refine tK 8 ?_ rfl (by kernel_rfl) (fun _ _ _ h=>h) (by rfl) ?_ (by assumption) ?_;rotate_left
  ·intro w hSw;(try dsimp only at hSw);go_simp;(try with_reducible rfl)
  rotate_left;simp only[Act.put,qa,qb,qc,qf,qe,qd];refine wpAnyH_ready (rs:=[3,9]) (by kernel_rfl) (by simp) ?_;refine AllReadyH.cons rfl (fun K hK=>?_) ?_
  ·go_simp
   refine(hx (.iface Tx ux) (Value.slice sa sn sc) L B W1.drew Qx.out O1.out hB1d (by(try simp only[qg]);omega)).mono ?_;rintro e w1 ⟨v1,rfl,o1,g1⟩;obtain⟨a1,n1,c1,rfl⟩:∃a n c,v1=.slice a n c:=by obtain⟨a,c,e,-⟩:=zh o1;exact⟨_,_,_,e⟩
   have OW1:=Hm o1;have BX1:=Hm (g1.blk O1.out BX0.out (by decide));have GX1:=Hm ((GX0.out).trans g1);have hb1:B≤w1.heap.size:=qq hB1d g1.1.size;have Qx1:=Hm ((Qx.out).keep (g1.kn O1.out));have Qy1:=Hm ((Qy.out).keep (g1.kn O1.out));have GY1:=Hm g1;clear o1 g1;refine hK.out _ _ ?_ (fun hHeld=>?_)
   ·exact⟨(zb (BX1.out) 0).trans rfl,(zb (BX1.out) 1).trans rfl,(zb (BX1.out) 2).trans rfl,(zb (BX1.out) 3).trans rfl,(zb (BX1.out) 4).trans rfl⟩
   clear hK K
   (try simp only[Act.put,qa,qb,qc,qf,qe,qd])
   refine wpAnyH_ready (rs:=[6,9]) (by kernel_rfl) (by simp) ?_;refine AllReadyH.cons rfl (fun K hK=>?_) ?_
   ·go_simp
    refine(hy (.iface Ty uy) (Value.slice a1 n1 c1) (L++x.pf) B w1 Qy1.out OW1.out hb1 (by(try simp only[qg]);omega)).mono ?_;rintro e w2 ⟨v2,rfl,o2,g2⟩;obtain⟨a2,n2,c2,rfl⟩:∃a n c,v2=.slice a n c:=by obtain⟨a,c,e,-⟩:=zh o2;exact⟨_,_,_,e⟩
    have OW2:=Hm o2;have BX2:=Hm (g2.blk OW1.out BX1.out (by decide));have GX2:=Hm ((GX1.out).trans g2);have hb2:B≤w2.heap.size:=qq hb1 g2.1.size;have Qx2:=Hm ((Qx1.out).keep (g2.kn OW1.out));have Qy2:=Hm ((Qy1.out).keep (g2.kn OW1.out));have GY2:=Hm g2;clear o2 g2;refine hK.out _ _ ?_ (fun hHeld=>?_)
    ·exact⟨(zb (BX2.out) 0).trans rfl,(zb (BX2.out) 1).trans rfl,(zb (BX2.out) 2).trans rfl,(zb (BX2.out) 3).trans rfl,(zb (BX2.out) 4).trans rfl⟩
    clear hK K
    (try simp only[Act.put,qa,qb,qc,qf,qe,qd])
    refine wpAnyH_ready (rs:=[9]) (by kernel_rfl) (by simp) ?_;refine AllReadyH.cons rfl (fun K hK=>?_) ?_
    ·refine yx rfl 36 88 (.tmp 34) rfl i0 _ Tryz.underlying36 hi hz0 3 hz1 o.cells (by simp[Act.eval,Act.put,Po.cells]) (yM _ _ _) (by decide) (by decide) ?_
     have AB3:Hid (Below (w2).heap.size (w2) ((w2).alloc (.cells o.cells.toArray 88))):=zd (Below.refl _ _) _;have OW3:=Hm (OwnO.below (OW2.out) AB3.out);have BX3:=Hm (zg (BX2.out) AB3.out);have GX3:=Hm ((GX2.out).post AB3.out);have NB3:=Hm (zo (w2) (.cells o.cells.toArray 88));have hb3:B≤((w2).alloc (.cells o.cells.toArray 88)).heap.size:=qq hb2 AB3.out.size;have Qx3:=Hm ((Qx2.out).keep (yu AB3.out));have Qy3:=Hm ((Qy2.out).keep (yu AB3.out));refine hK.out _ _ ?_ (fun hHeld=>?_)
     ·exact⟨(zb (BX3.out) 0).trans rfl,(zb (BX3.out) 1).trans rfl,(zb (BX3.out) 2).trans rfl,(zb (BX3.out) 3).trans rfl,(zb (BX3.out) 4).trans rfl⟩
     clear hK K
     (try simp only[Act.put,qa,qb,qc,qf,qe,qd])
     refine wpAnyH_ready (rs:=[10]) (by kernel_rfl) (by simp) ?_;refine AllReadyH.cons rfl (fun K hK=>?_) ?_
     ·refine yy rfl (.tmp 32) (.tmp 35) 36 rfl B 88 i0 (.agg #[.int .i64 0,.int .i64 0,.string ⟨#[]⟩]) 3 32 Tryz.underlying36 hi hz0 hz1 hz2 rfl (by decide) (Value.slice a2 n2 c2) _ _ (by simp[Act.eval,Act.put]) OW3.out ⟨(w2).heap.size,0,none⟩ 1 1 o.cells (by simp[Act.eval,Act.put]) rfl (Vr (NB3.out)) (Yc o) (by unfold maxLen;(try simp only[qg]);omega) (by(try simp only[qg]);omega) hb3 ?_
      intro v4 w4 hown hgrow hat;have HO:=Hm (OwnO.snoc hown);have HG:=Hm ((GX3.out).trans (yd hgrow hat));have HSZ:Hid ((fun w'=>w'.cell? ⟨w.heap.size,0,none⟩=some (.int .i64 o.k)∧w'.cell? ⟨w.heap.size,1,none⟩=some (.int .i64 o.v)∧w'.cell? ⟨w.heap.size,2,none⟩=some (.string ⟨o.n.toArray⟩)∧w'.cell? ⟨w.heap.size,3,none⟩=some (.iface Tx ux)∧w'.cell? ⟨w.heap.size,4,none⟩=some (.iface Ty uy)) w4):=⟨(zb ((yd hgrow hat).blk OW3.out BX3.out (by decide)) 0).trans rfl,(zb ((yd hgrow hat).blk OW3.out BX3.out (by decide)) 1).trans rfl,(zb ((yd hgrow hat).blk OW3.out BX3.out (by decide)) 2).trans rfl,(zb ((yd hgrow hat).blk OW3.out BX3.out (by decide)) 3).trans rfl,(zb ((yd hgrow hat).blk OW3.out BX3.out (by decide)) 4).trans rfl⟩;clear hown hgrow hat
      refine hK.out _ _ ?_ (fun hHeld=>?_)
      ·exact HSZ.out
      clear hK K
      (try simp only[Act.put,qa,qb,qc,qf,qe,qd])
      refine tK 11 ?_ rfl (by kernel_rfl) (fun _ _ _ h=>h) (by rfl) ?_ (by assumption) ?_;rotate_left
      ·intro w hSw;(try dsimp only at hSw);go_simp;(try with_reducible rfl)
      rotate_left;simp only[Act.put,qa,qb,qc,qf,qe,qd];refine wpAnyH_done (by kernel_rfl) ?_ _;go_wp2;go_ret;exact⟨_,rfl,by simpa[Tr.pf]using HO.out,HG.out⟩
     exact AllReadyH.nil
    exact AllReadyH.nil
   refine AllReadyH.cons rfl (fun K hK=>?_) ?_
   ·refine yx rfl 36 88 (.tmp 34) rfl i0 _ Tryz.underlying36 hi hz0 3 hz1 o.cells (by simp[Act.eval,Act.put,Po.cells]) (yM _ _ _) (by decide) (by decide) ?_
    have AB2:Hid (Below (w1).heap.size (w1) ((w1).alloc (.cells o.cells.toArray 88))):=zd (Below.refl _ _) _;have OW2:=Hm (OwnO.below (OW1.out) AB2.out);have BX2:=Hm (zg (BX1.out) AB2.out);have GX2:=Hm ((GX1.out).post AB2.out);have NB2:=Hm (zo (w1) (.cells o.cells.toArray 88));have hb2:B≤((w1).alloc (.cells o.cells.toArray 88)).heap.size:=qq hb1 AB2.out.size;have Qx2:=Hm ((Qx1.out).keep (yu AB2.out));have Qy2:=Hm ((Qy1.out).keep (yu AB2.out));refine hK.out _ _ ?_ (fun hHeld=>?_)
    ·exact⟨(zb (BX2.out) 0).trans rfl,(zb (BX2.out) 1).trans rfl,(zb (BX2.out) 2).trans rfl,(zb (BX2.out) 3).trans rfl,(zb (BX2.out) 4).trans rfl⟩
    clear hK K
    (try simp only[Act.put,qa,qb,qc,qf,qe,qd])
    refine wpAnyH_ready (rs:=[6]) (by kernel_rfl) (by simp) ?_;refine AllReadyH.cons rfl (fun K hK=>?_) ?_
    ·go_simp
     refine(hy (.iface Ty uy) (Value.slice a1 n1 c1) (L++x.pf) B ((w1).alloc (.cells o.cells.toArray 88)) Qy2.out OW2.out hb2 (by(try simp only[qg]);omega)).mono ?_;rintro e w3 ⟨v3,rfl,o3,g3⟩;obtain⟨a3,n3,c3,rfl⟩:∃a n c,v3=.slice a n c:=by obtain⟨a,c,e,-⟩:=zh o3;exact⟨_,_,_,e⟩
     have OW3:=Hm o3;have BX3:=Hm (g3.blk OW2.out BX2.out (by decide));have GX3:=Hm ((GX2.out).trans g3);have hb3:B≤w3.heap.size:=qq hb2 g3.1.size;have Qx3:=Hm ((Qx2.out).keep (g3.kn OW2.out));have Qy3:=Hm ((Qy2.out).keep (g3.kn OW2.out));have NB3:=Hm (g3.fresh (NB2.out) (fun e=>absurd (((OW1.out).lt _ e).2) (Nat.lt_irrefl _)));have GY3:=Hm g3;clear o3 g3;refine hK.out _ _ ?_ (fun hHeld=>?_)
     ·exact⟨(zb (BX3.out) 0).trans rfl,(zb (BX3.out) 1).trans rfl,(zb (BX3.out) 2).trans rfl,(zb (BX3.out) 3).trans rfl,(zb (BX3.out) 4).trans rfl⟩
     clear hK K
     (try simp only[Act.put,qa,qb,qc,qf,qe,qd])
     refine wpAnyH_ready (rs:=[10]) (by kernel_rfl) (by simp) ?_;refine AllReadyH.cons rfl (fun K hK=>?_) ?_
     ·refine yy rfl (.tmp 32) (.tmp 35) 36 rfl B 88 i0 (.agg #[.int .i64 0,.int .i64 0,.string ⟨#[]⟩]) 3 32 Tryz.underlying36 hi hz0 hz1 hz2 rfl (by decide) (Value.slice a3 n3 c3) _ _ (by simp[Act.eval,Act.put]) OW3.out ⟨(w1).heap.size,0,none⟩ 1 1 o.cells (by simp[Act.eval,Act.put]) rfl (Vr (NB3.out)) (Yc o) (by unfold maxLen;(try simp only[qg]);omega) (by(try simp only[qg]);omega) hb3 ?_
      intro v4 w4 hown hgrow hat;have HO:=Hm (OwnO.snoc hown);have HG:=Hm ((GX3.out).trans (yd hgrow hat));have HSZ:Hid ((fun w'=>w'.cell? ⟨w.heap.size,0,none⟩=some (.int .i64 o.k)∧w'.cell? ⟨w.heap.size,1,none⟩=some (.int .i64 o.v)∧w'.cell? ⟨w.heap.size,2,none⟩=some (.string ⟨o.n.toArray⟩)∧w'.cell? ⟨w.heap.size,3,none⟩=some (.iface Tx ux)∧w'.cell? ⟨w.heap.size,4,none⟩=some (.iface Ty uy)) w4):=⟨(zb ((yd hgrow hat).blk OW3.out BX3.out (by decide)) 0).trans rfl,(zb ((yd hgrow hat).blk OW3.out BX3.out (by decide)) 1).trans rfl,(zb ((yd hgrow hat).blk OW3.out BX3.out (by decide)) 2).trans rfl,(zb ((yd hgrow hat).blk OW3.out BX3.out (by decide)) 3).trans rfl,(zb ((yd hgrow hat).blk OW3.out BX3.out (by decide)) 4).trans rfl⟩;clear hown hgrow hat
      refine hK.out _ _ ?_ (fun hHeld=>?_)
      ·exact HSZ.out
      clear hK K
      (try simp only[Act.put,qa,qb,qc,qf,qe,qd])
      refine tK 11 ?_ rfl (by kernel_rfl) (fun _ _ _ h=>h) (by rfl) ?_ (by assumption) ?_;rotate_left
      ·intro w hSw;(try dsimp only at hSw);go_simp;(try with_reducible rfl)
      rotate_left;simp only[Act.put,qa,qb,qc,qf,qe,qd];refine wpAnyH_done (by kernel_rfl) ?_ _;go_wp2;go_ret;exact⟨_,rfl,by simpa[Tr.pf]using HO.out,HG.out⟩
     exact AllReadyH.nil
    exact AllReadyH.nil
   exact AllReadyH.nil
  refine AllReadyH.cons rfl (fun K hK=>?_) ?_
  ·refine yx rfl 36 88 (.tmp 34) rfl i0 _ Tryz.underlying36 hi hz0 3 hz1 o.cells (by simp[Act.eval,Act.put,Po.cells]) (yM _ _ _) (by decide) (by decide) ?_
   have AB1:Hid (Below (W1.drew).heap.size (W1.drew) ((W1.drew).alloc (.cells o.cells.toArray 88))):=zd (Below.refl _ _) _;have OW1:=Hm (OwnO.below (O1.out) AB1.out);have BX1:=Hm (zg (BX0.out) AB1.out);have GX1:=Hm ((GX0.out).post AB1.out);have NB1:=Hm (zo (W1.drew) (.cells o.cells.toArray 88));have hb1:B≤((W1.drew).alloc (.cells o.cells.toArray 88)).heap.size:=qq hB1d AB1.out.size;have Qx1:=Hm ((Qx.out).keep (yu AB1.out));have Qy1:=Hm ((Qy.out).keep (yu AB1.out));refine hK.out _ _ ?_ (fun hHeld=>?_)
   ·exact⟨(zb (BX1.out) 0).trans rfl,(zb (BX1.out) 1).trans rfl,(zb (BX1.out) 2).trans rfl,(zb (BX1.out) 3).trans rfl,(zb (BX1.out) 4).trans rfl⟩
   clear hK K
   (try simp only[Act.put,qa,qb,qc,qf,qe,qd])
   refine wpAnyH_ready (rs:=[3]) (by kernel_rfl) (by simp) ?_;refine AllReadyH.cons rfl (fun K hK=>?_) ?_
   ·go_simp
    refine(hx (.iface Tx ux) (Value.slice sa sn sc) L B ((W1.drew).alloc (.cells o.cells.toArray 88)) Qx1.out OW1.out hb1 (by(try simp only[qg]);omega)).mono ?_;rintro e w2 ⟨v2,rfl,o2,g2⟩;obtain⟨a2,n2,c2,rfl⟩:∃a n c,v2=.slice a n c:=by obtain⟨a,c,e,-⟩:=zh o2;exact⟨_,_,_,e⟩
    have OW2:=Hm o2;have BX2:=Hm (g2.blk OW1.out BX1.out (by decide));have GX2:=Hm ((GX1.out).trans g2);have hb2:B≤w2.heap.size:=qq hb1 g2.1.size;have Qx2:=Hm ((Qx1.out).keep (g2.kn OW1.out));have Qy2:=Hm ((Qy1.out).keep (g2.kn OW1.out));have NB2:=Hm (g2.fresh (NB1.out) (fun e=>absurd (((O1.out).lt _ e).2) (Nat.lt_irrefl _)));have GY2:=Hm g2;clear o2 g2;refine hK.out _ _ ?_ (fun hHeld=>?_)
    ·exact⟨(zb (BX2.out) 0).trans rfl,(zb (BX2.out) 1).trans rfl,(zb (BX2.out) 2).trans rfl,(zb (BX2.out) 3).trans rfl,(zb (BX2.out) 4).trans rfl⟩
    clear hK K
    (try simp only[Act.put,qa,qb,qc,qf,qe,qd])
    refine wpAnyH_ready (rs:=[6]) (by kernel_rfl) (by simp) ?_;refine AllReadyH.cons rfl (fun K hK=>?_) ?_
    ·go_simp
     refine(hy (.iface Ty uy) (Value.slice a2 n2 c2) (L++x.pf) B w2 Qy2.out OW2.out hb2 (by(try simp only[qg]);omega)).mono ?_;rintro e w3 ⟨v3,rfl,o3,g3⟩;obtain⟨a3,n3,c3,rfl⟩:∃a n c,v3=.slice a n c:=by obtain⟨a,c,e,-⟩:=zh o3;exact⟨_,_,_,e⟩
     have OW3:=Hm o3;have BX3:=Hm (g3.blk OW2.out BX2.out (by decide));have GX3:=Hm ((GX2.out).trans g3);have hb3:B≤w3.heap.size:=qq hb2 g3.1.size;have Qx3:=Hm ((Qx2.out).keep (g3.kn OW2.out));have Qy3:=Hm ((Qy2.out).keep (g3.kn OW2.out));have NB3:=Hm (g3.fresh (NB2.out) (fun e=>gx_ne GY2.out (fun e=>absurd (((O1.out).lt _ e).2) (Nat.lt_irrefl _)) (by simp) e));have GY3:=Hm g3;clear o3 g3;refine hK.out _ _ ?_ (fun hHeld=>?_)
     ·exact⟨(zb (BX3.out) 0).trans rfl,(zb (BX3.out) 1).trans rfl,(zb (BX3.out) 2).trans rfl,(zb (BX3.out) 3).trans rfl,(zb (BX3.out) 4).trans rfl⟩
     clear hK K
     (try simp only[Act.put,qa,qb,qc,qf,qe,qd])
     refine wpAnyH_ready (rs:=[10]) (by kernel_rfl) (by simp) ?_;refine AllReadyH.cons rfl (fun K hK=>?_) ?_
     ·refine yy rfl (.tmp 32) (.tmp 35) 36 rfl B 88 i0 (.agg #[.int .i64 0,.int .i64 0,.string ⟨#[]⟩]) 3 32 Tryz.underlying36 hi hz0 hz1 hz2 rfl (by decide) (Value.slice a3 n3 c3) _ _ (by simp[Act.eval,Act.put]) OW3.out ⟨(W1.drew).heap.size,0,none⟩ 1 1 o.cells (by simp[Act.eval,Act.put]) rfl (Vr (NB3.out)) (Yc o) (by unfold maxLen;(try simp only[qg]);omega) (by(try simp only[qg]);omega) hb3 ?_
      intro v4 w4 hown hgrow hat;have HO:=Hm (OwnO.snoc hown);have HG:=Hm ((GX3.out).trans (yd hgrow hat));have HSZ:Hid ((fun w'=>w'.cell? ⟨w.heap.size,0,none⟩=some (.int .i64 o.k)∧w'.cell? ⟨w.heap.size,1,none⟩=some (.int .i64 o.v)∧w'.cell? ⟨w.heap.size,2,none⟩=some (.string ⟨o.n.toArray⟩)∧w'.cell? ⟨w.heap.size,3,none⟩=some (.iface Tx ux)∧w'.cell? ⟨w.heap.size,4,none⟩=some (.iface Ty uy)) w4):=⟨(zb ((yd hgrow hat).blk OW3.out BX3.out (by decide)) 0).trans rfl,(zb ((yd hgrow hat).blk OW3.out BX3.out (by decide)) 1).trans rfl,(zb ((yd hgrow hat).blk OW3.out BX3.out (by decide)) 2).trans rfl,(zb ((yd hgrow hat).blk OW3.out BX3.out (by decide)) 3).trans rfl,(zb ((yd hgrow hat).blk OW3.out BX3.out (by decide)) 4).trans rfl⟩;clear hown hgrow hat
      refine hK.out _ _ ?_ (fun hHeld=>?_)
      ·exact HSZ.out
      clear hK K
      (try simp only[Act.put,qa,qb,qc,qf,qe,qd])
      refine tK 11 ?_ rfl (by kernel_rfl) (fun _ _ _ h=>h) (by rfl) ?_ (by assumption) ?_;rotate_left
      ·intro w hSw;(try dsimp only at hSw);go_simp;(try with_reducible rfl)
      rotate_left;simp only[Act.put,qa,qb,qc,qf,qe,qd];refine wpAnyH_done (by kernel_rfl) ?_ _;go_wp2;go_ret;exact⟨_,rfl,by simpa[Tr.pf]using HO.out,HG.out⟩
     exact AllReadyH.nil
    exact AllReadyH.nil
   exact AllReadyH.nil
  exact AllReadyH.nil
end Go.Proofs.YtbkajklninmhiaaGreatDoor.Par
