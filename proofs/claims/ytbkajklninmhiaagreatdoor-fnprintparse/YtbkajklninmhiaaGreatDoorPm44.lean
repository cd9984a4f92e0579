import Derived.Test.YtbkajklninmhiaaGreatDoorPm43
set_option maxHeartbeats 6400000
set_option maxRecDepth 100000
set_option linter.unusedVariables false
set_option linter.unusedSimpArgs false
open List renaming setIfInBounds_toArray → qa, set_cons_zero → qb, set_cons_succ → qc, getElem_cons_succ → qd, getElem_cons_zero → qe, getElem_toArray → qf, length_append → qg, length_cons → qh, length_nil → qi, append_assoc → ql, getElem?_toArray → qm, getElem?_cons_zero → qn, getElem?_cons_succ → qo
open Nat renaming le_trans → qq
namespace Go.Proofs.YtbkajklninmhiaaGreatDoor.Syn
open Go Go.RowKit Mem
open Go.Proofs.YtbkajklninmhiaaGreatDoor.Print (Own Zt byteCells_one)
attribute [local go_sem ↓] Go.wp_at_zero Go.wp_at_succ
def Ye (B:Nat) (w:World) (i:It) (l:Lo):Prop:=∀w',Below B w w'→zK w' l.aE i.nE 3 (fun j=>(i.E j).cells)∧zK w' l.aF i.nF 3 (fun j=>(i.F j).cells)
theorem Ye.on {B:Nat} {w w1:World} {i:It} {l:Lo} (h:Ye B w i l) (hb:Below B w w1):Ye B w1 i l:=fun w' h'=>h w' (hb.trans h')
theorem Ye.now {B:Nat} {w:World} {i:It} {l:Lo} (h:Ye B w i l):zK w l.aE i.nE 3 (fun j=>(i.E j).cells)∧zK w l.aF i.nF 3 (fun j=>(i.F j).cells):=h w (Below.refl _ _)
theorem V6 {E:Nat→Po} {n:Nat} (h:yp E n=true):∃t,stk E n=some [t]:=by
 unfold yp at h
 split at h
 ·exact⟨_,by assumption⟩
 ·cases h
theorem yt {E:Nat→Po} {n:Nat} {t:Tr} (h:stk E n=some [t]):t.txt.length≤40*n:=by
 have h1:=Yy h;have:=Rn (h1.1 t (by simp)) (Uu h t (by simp));have h2:=h1.2;simp[szs]at h2;omega
theorem xm {E:Nat→Po} {n:Nat} {t:Tr} (h:stk E n=some [t]):yR E n=t.txt:=by unfold yR;rw[h]
def itT (i:It):List UInt8:=zG (15+i.k.toNat)++[32]++
 (if i.k=1 then i.n++[32,61,32]++yR i.E i.nE
  else if i.k=4 then yR i.E i.nE++[32,102,114,111,109,32]++Lib.itoa i.K++y8 i
  else if i.k=5 then yR i.E i.nE++[32,116,104,101,110,32]++yR i.F i.nF
  else if i.k=6 then [yW i.K,32,yW i.lo]
  else if i.k=7 then Lib.itoa i.K
  else if i.k=8 then yR i.E i.nE++y8 i
  else if i.k=9 then yR i.E i.nE++[32,109,111,115,116,32]++Lib.itoa i.K
  else yR i.E i.nE)
theorem U1 {w:World} {o:Oper} {a:Act} {K:Act→World→Prop} {Q:Exit→Act→World→Prop} (sl x:Operand)
  (ho:o.op=.call {callee:=.builtin .append,args:=#[sl,x],argTypes:=#[22,22]})
  (B:Nat) (v:Value) (bs:List UInt8) (hs:a.eval sl=v) (hown:Own B w v bs) (ad:Addr) (m c:Nat) (hx:a.eval x=.slice (some ad) m c) (b:List UInt8) (hm:m=b.length) (hc:∀j u,(Lib.byteCells b)[j]? =some u→w.cell? (ad.add j)=some u) (hB:B≤w.heap.size) (hl:bs.length+b.length≤1000000000)
  (h:∀v' w',Own B w' v' (bs++b)→Kb B v v' w w'→K (a.put o.dst v') w'):o.wp Tryz.prog a w K Q:=by
 subst hm;obtain⟨i0,hi,hz0,hz1,hz2⟩:=info_parts Zt;obtain⟨v',w',hr,h2,h3,-,h5⟩:=run_append_own_at (P:=Tryz.prog) w B 22 o.type 5 i0 (.int .u8 0) 1 1 Tryz.underlying22 hi hz0 hz1 hz2 rfl (by decide) v bs.length (Lib.byteCells bs) hown ad b.length c (Lib.byteCells b) (by rw[Lib.byteCells_length,Nat.mul_one]) hc (byteCells_one _) (by unfold maxLen;omega) (by omega) hB;unfold Oper.wp execOp;simp only[ho,resolve,invoke,builtin,Sem.run_bind,Sem.run_pure,Result.andThen_ok,List.map_toArray,List.map_cons,List.map_nil,hs,hx,hr];exact h v' w' (WJ rfl rfl h2) (Kb.grown hown h3 h5 hB)
theorem SP (i:It) (l:Lo) (B:Nat) (bs:List UInt8) (x:Value) (w:World) (tE:Tr) (hE:stk i.E i.nE=some [tE]) (hnm:i.n.length≤16) (hnE:i.nE≤2000) (hnF:i.nF≤2000) (hI:Ye B w i l) (hown:Own B w x bs) (hB:B≤w.heap.size) (hP:Ps B w) (hl:bs.length≤300000000):
  Calls Tryz.prog 16 #[x,.agg #[.int .i64 1,.string ⟨i.n.toArray⟩,.slice l.aE i.nE l.cE,.slice l.aF i.nF l.cF,.int .i64 i.K,.int .i64 i.lo,.int .i64 i.hi]] w (App B x w (bs++zG 16++[32]++(i.n++[32,61,32]++tE.txt))):=by
 have htE:=yt hE;have HtE:=Hm hE;clear hE;have HO:=Hm (zw hown (zd (Below.refl _ _) (.cells #[.int .i64 1,.string ⟨i.n.toArray⟩,.slice l.aE i.nE l.cE,.slice l.aF i.nF l.cF,.int .i64 i.K,.int .i64 i.lo,.int .i64 i.hi] 38)));have HK:=Hm ((Kb.refl B x w).alloc hB (.cells #[.int .i64 1,.string ⟨i.n.toArray⟩,.slice l.aE i.nE l.cE,.slice l.aF i.nF l.cF,.int .i64 i.K,.int .i64 i.lo,.int .i64 i.hi] 38));have BX:=Hm (zo w (.cells #[.int .i64 1,.string ⟨i.n.toArray⟩,.slice l.aE i.nE l.cE,.slice l.aF i.nF l.cF,.int .i64 i.K,.int .i64 i.lo,.int .i64 i.hi] 38));have HP:=Hm hP;have HI:=Hm hI;have hB1:=qq hB HK.out.1.size;have htl:=tw_len 16;have ht:=(hP.on HK.out.1).t.now.t 16 (by omega);obtain⟨TW,hTW⟩:∃TW,TW=zG 16:=⟨_,rfl⟩;rw[←hTW]at htl ht ⊢;clear hTW
 clear hown hP hI;go_enter Tryz.func16,Tryz.ntmps16;go_wp2_with (at_builtin;refine zQ rfl _ _ rfl B _ _ rfl HO.out TW rfl hB1 (by(try simp only[qg,qh,qi]);omega) ?_);intro v2 w2 ho hk;have BX:=Hm (hk.blk BX.out (by decide));have HO:=Hm ho;have HK:=Hm (HK.out.trans hk);have hB1:=qq hB HK.out.1.size;clear ho hk;clear ht;refine Hid.out ?_;refine Lib.hid ?_;go_wp2_with (at_builtin;refine zX rfl _ _ rfl B _ _ rfl (zw HO.out (zd (Below.refl _ _) _)) _ _ rfl 32 (zb (zo _ _) 0) (by simp;omega) (by(try simp only[qg,qh,qi]);omega) ?_);intro v3 w3 ho hk;have BX:=Hm (hk.blk (zv BX.out _) (by decide));have HO:=Hm ho;have HK:=Hm ((HK.out.alloc hB1 _).trans hk);have hB1:=qq hB HK.out.1.size
 clear ho hk;refine Hid.out ?_;refine Lib.hid ?_;have y0:=zb BX.out 0;simp only[qm,qn,qo]at y0;have y1:=zb BX.out 1;simp only[qm,qn,qo]at y1;go_wp2_with (at_builtin;refine zQ rfl _ _ rfl B _ _ rfl HO.out i.n rfl hB1 (by(try simp only[qg,qh,qi]);omega) ?_);intro v4 w4 ho hk;have BX:=Hm (hk.blk BX.out (by decide));have HO:=Hm ho;have HK:=Hm (HK.out.trans hk);have hB1:=qq hB HK.out.1.size;clear ho hk;clear y1;refine Hid.out ?_;refine Lib.hid ?_;go_wp2_with (at_builtin;refine zQ rfl _ _ rfl B _ _ rfl HO.out [32,61,32] rfl hB1 (by(try simp only[qg,qh,qi]);omega) ?_);intro v5 w5 ho hk
 have BX:=Hm (hk.blk BX.out (by decide));have HO:=Hm ho;have HK:=Hm (HK.out.trans hk);have hB1:=qq hB HK.out.1.size;clear ho hk;refine Hid.out ?_;refine Lib.hid ?_;have y2:=zb BX.out 2;simp only[qm,qn,qo]at y2;go_wp2_with fail;refine(yK i.E l.aE i.nE l.cE B _ _ _ tE HtE.out (HI.out.on HK.out.1).now.1 (by omega) HO.out hB1 (HP.out.on HK.out.1) (by(try simp only[qg,qh,qi]);omega)).mono ?_;rintro e w6 ⟨v6,rfl,ho,hk⟩;have BX:=Hm (hk.blk BX.out (by decide));have HO:=Hm ho;have HK:=Hm (HK.out.trans hk);have hB1:=qq hB HK.out.1.size;clear ho hk;clear y2;go_wp2;go_ret;exact⟨v6,rfl,by have z:=HO.out;simpa[ql]using z,HK.out⟩
theorem SO (i:It) (l:Lo) (B:Nat) (bs:List UInt8) (x:Value) (w:World) (tE:Tr) (hE:stk i.E i.nE=some [tE]) (hnE:i.nE≤2000) (hnF:i.nF≤2000) (hI:Ye B w i l) (hown:Own B w x bs) (hB:B≤w.heap.size) (hP:Ps B w) (hl:bs.length≤300000000):
  Calls Tryz.prog 16 #[x,.agg #[.int .i64 2,.string ⟨i.n.toArray⟩,.slice l.aE i.nE l.cE,.slice l.aF i.nF l.cF,.int .i64 i.K,.int .i64 i.lo,.int .i64 i.hi]] w (App B x w (bs++zG 17++[32]++(tE.txt))):=by
 have htE:=yt hE;have HtE:=Hm hE;clear hE;have HO:=Hm (zw hown (zd (Below.refl _ _) (.cells #[.int .i64 2,.string ⟨i.n.toArray⟩,.slice l.aE i.nE l.cE,.slice l.aF i.nF l.cF,.int .i64 i.K,.int .i64 i.lo,.int .i64 i.hi] 38)));have HK:=Hm ((Kb.refl B x w).alloc hB (.cells #[.int .i64 2,.string ⟨i.n.toArray⟩,.slice l.aE i.nE l.cE,.slice l.aF i.nF l.cF,.int .i64 i.K,.int .i64 i.lo,.int .i64 i.hi] 38));have BX:=Hm (zo w (.cells #[.int .i64 2,.string ⟨i.n.toArray⟩,.slice l.aE i.nE l.cE,.slice l.aF i.nF l.cF,.int .i64 i.K,.int .i64 i.lo,.int .i64 i.hi] 38));have HP:=Hm hP;have HI:=Hm hI;have hB1:=qq hB HK.out.1.size;have htl:=tw_len 17;have ht:=(hP.on HK.out.1).t.now.t 17 (by omega);obtain⟨TW,hTW⟩:∃TW,TW=zG 17:=⟨_,rfl⟩;rw[←hTW]at htl ht ⊢;clear hTW
 clear hown hP hI;go_enter Tryz.func16,Tryz.ntmps16;go_wp2_with (at_builtin;refine zQ rfl _ _ rfl B _ _ rfl HO.out TW rfl hB1 (by(try simp only[qg,qh,qi]);omega) ?_);intro v2 w2 ho hk;have BX:=Hm (hk.blk BX.out (by decide));have HO:=Hm ho;have HK:=Hm (HK.out.trans hk);have hB1:=qq hB HK.out.1.size;clear ho hk;clear ht;refine Hid.out ?_;refine Lib.hid ?_;go_wp2_with (at_builtin;refine zX rfl _ _ rfl B _ _ rfl (zw HO.out (zd (Below.refl _ _) _)) _ _ rfl 32 (zb (zo _ _) 0) (by simp;omega) (by(try simp only[qg,qh,qi]);omega) ?_);intro v3 w3 ho hk;have BX:=Hm (hk.blk (zv BX.out _) (by decide));have HO:=Hm ho;have HK:=Hm ((HK.out.alloc hB1 _).trans hk);have hB1:=qq hB HK.out.1.size
 clear ho hk;refine Hid.out ?_;refine Lib.hid ?_;have y0:=zb BX.out 0;simp only[qm,qn,qo]at y0;have y2:=zb BX.out 2;simp only[qm,qn,qo]at y2;go_wp2_with fail;refine(yK i.E l.aE i.nE l.cE B _ _ _ tE HtE.out (HI.out.on HK.out.1).now.1 (by omega) HO.out hB1 (HP.out.on HK.out.1) (by(try simp only[qg,qh,qi]);omega)).mono ?_;rintro e w6 ⟨v6,rfl,ho,hk⟩;have BX:=Hm (hk.blk BX.out (by decide));have HO:=Hm ho;have HK:=Hm (HK.out.trans hk);have hB1:=qq hB HK.out.1.size;clear ho hk;clear y2;go_wp2;go_ret;exact⟨v6,rfl,by have z:=HO.out;simpa[ql]using z,HK.out⟩
theorem SM (i:It) (l:Lo) (B:Nat) (bs:List UInt8) (x:Value) (w:World) (tE:Tr) (hE:stk i.E i.nE=some [tE]) (hnE:i.nE≤2000) (hnF:i.nF≤2000) (hI:Ye B w i l) (hown:Own B w x bs) (hB:B≤w.heap.size) (hP:Ps B w) (hl:bs.length≤300000000):
  Calls Tryz.prog 16 #[x,.agg #[.int .i64 3,.string ⟨i.n.toArray⟩,.slice l.aE i.nE l.cE,.slice l.aF i.nF l.cF,.int .i64 i.K,.int .i64 i.lo,.int .i64 i.hi]] w (App B x w (bs++zG 18++[32]++(tE.txt))):=by
 have htE:=yt hE;have HtE:=Hm hE;clear hE;have HO:=Hm (zw hown (zd (Below.refl _ _) (.cells #[.int .i64 3,.string ⟨i.n.toArray⟩,.slice l.aE i.nE l.cE,.slice l.aF i.nF l.cF,.int .i64 i.K,.int .i64 i.lo,.int .i64 i.hi] 38)));have HK:=Hm ((Kb.refl B x w).alloc hB (.cells #[.int .i64 3,.string ⟨i.n.toArray⟩,.slice l.aE i.nE l.cE,.slice l.aF i.nF l.cF,.int .i64 i.K,.int .i64 i.lo,.int .i64 i.hi] 38));have BX:=Hm (zo w (.cells #[.int .i64 3,.string ⟨i.n.toArray⟩,.slice l.aE i.nE l.cE,.slice l.aF i.nF l.cF,.int .i64 i.K,.int .i64 i.lo,.int .i64 i.hi] 38));have HP:=Hm hP;have HI:=Hm hI;have hB1:=qq hB HK.out.1.size;have htl:=tw_len 18;have ht:=(hP.on HK.out.1).t.now.t 18 (by omega);obtain⟨TW,hTW⟩:∃TW,TW=zG 18:=⟨_,rfl⟩;rw[←hTW]at htl ht ⊢;clear hTW
 clear hown hP hI;go_enter Tryz.func16,Tryz.ntmps16;go_wp2_with (at_builtin;refine zQ rfl _ _ rfl B _ _ rfl HO.out TW rfl hB1 (by(try simp only[qg,qh,qi]);omega) ?_);intro v2 w2 ho hk;have BX:=Hm (hk.blk BX.out (by decide));have HO:=Hm ho;have HK:=Hm (HK.out.trans hk);have hB1:=qq hB HK.out.1.size;clear ho hk;clear ht;refine Hid.out ?_;refine Lib.hid ?_;go_wp2_with (at_builtin;refine zX rfl _ _ rfl B _ _ rfl (zw HO.out (zd (Below.refl _ _) _)) _ _ rfl 32 (zb (zo _ _) 0) (by simp;omega) (by(try simp only[qg,qh,qi]);omega) ?_);intro v3 w3 ho hk;have BX:=Hm (hk.blk (zv BX.out _) (by decide));have HO:=Hm ho;have HK:=Hm ((HK.out.alloc hB1 _).trans hk);have hB1:=qq hB HK.out.1.size
 clear ho hk;refine Hid.out ?_;refine Lib.hid ?_;have y0:=zb BX.out 0;simp only[qm,qn,qo]at y0;have y2:=zb BX.out 2;simp only[qm,qn,qo]at y2;go_wp2_with fail;refine(yK i.E l.aE i.nE l.cE B _ _ _ tE HtE.out (HI.out.on HK.out.1).now.1 (by omega) HO.out hB1 (HP.out.on HK.out.1) (by(try simp only[qg,qh,qi]);omega)).mono ?_;rintro e w6 ⟨v6,rfl,ho,hk⟩;have BX:=Hm (hk.blk BX.out (by decide));have HO:=Hm ho;have HK:=Hm (HK.out.trans hk);have hB1:=qq hB HK.out.1.size;clear ho hk;clear y2;go_wp2;go_ret;exact⟨v6,rfl,by have z:=HO.out;simpa[ql]using z,HK.out⟩
theorem SL (i:It) (l:Lo) (B:Nat) (bs:List UInt8) (x:Value) (w:World) (tE:Tr) (hE:stk i.E i.nE=some [tE]) (hK0:-999999999≤i.K) (hK1:i.K≤999999999) (hl0:-999999999≤i.lo) (hl1:i.lo≤999999999) (hh0:-999999999≤i.hi) (hh1:i.hi≤999999999) (hnE:i.nE≤2000) (hnF:i.nF≤2000) (hI:Ye B w i l) (hown:Own B w x bs) (hB:B≤w.heap.size) (hP:Ps B w) (hl:bs.length≤300000000):
  Calls Tryz.prog 16 #[x,.agg #[.int .i64 4,.string ⟨i.n.toArray⟩,.slice l.aE i.nE l.cE,.slice l.aF i.nF l.cF,.int .i64 i.K,.int .i64 i.lo,.int .i64 i.hi]] w (App B x w (bs++zG 19++[32]++(tE.txt++[32,102,114,111,109]++[32]++Lib.itoa i.K++y8 i))):=by
 have htE:=yt hE;have HtE:=Hm hE;clear hE;have hKl:=xg (show -999999999≤i.K by omega) (show i.K≤999999999 by omega);have HO:=Hm (zw hown (zd (Below.refl _ _) (.cells #[.int .i64 4,.string ⟨i.n.toArray⟩,.slice l.aE i.nE l.cE,.slice l.aF i.nF l.cF,.int .i64 i.K,.int .i64 i.lo,.int .i64 i.hi] 38)));have HK:=Hm ((Kb.refl B x w).alloc hB (.cells #[.int .i64 4,.string ⟨i.n.toArray⟩,.slice l.aE i.nE l.cE,.slice l.aF i.nF l.cF,.int .i64 i.K,.int .i64 i.lo,.int .i64 i.hi] 38));have BX:=Hm (zo w (.cells #[.int .i64 4,.string ⟨i.n.toArray⟩,.slice l.aE i.nE l.cE,.slice l.aF i.nF l.cF,.int .i64 i.K,.int .i64 i.lo,.int .i64 i.hi] 38));have HP:=Hm hP;have HI:=Hm hI;have hB1:=qq hB HK.out.1.size;have htl:=tw_len 19;have ht:=(hP.on HK.out.1).t.now.t 19 (by omega)
 obtain⟨TW,hTW⟩:∃TW,TW=zG 19:=⟨_,rfl⟩;rw[←hTW]at htl ht ⊢;clear hTW;clear hown hP hI;go_enter Tryz.func16,Tryz.ntmps16;go_wp2_with (at_builtin;refine zQ rfl _ _ rfl B _ _ rfl HO.out TW rfl hB1 (by(try simp only[qg,qh,qi]);omega) ?_);intro v2 w2 ho hk;have BX:=Hm (hk.blk BX.out (by decide));have HO:=Hm ho;have HK:=Hm (HK.out.trans hk);have hB1:=qq hB HK.out.1.size;clear ho hk;clear ht;refine Hid.out ?_;refine Lib.hid ?_;go_wp2_with (at_builtin;refine zX rfl _ _ rfl B _ _ rfl (zw HO.out (zd (Below.refl _ _) _)) _ _ rfl 32 (zb (zo _ _) 0) (by simp;omega) (by(try simp only[qg,qh,qi]);omega) ?_);intro v3 w3 ho hk;have BX:=Hm (hk.blk (zv BX.out _) (by decide));have HO:=Hm ho
 have HK:=Hm ((HK.out.alloc hB1 _).trans hk);have hB1:=qq hB HK.out.1.size;clear ho hk;refine Hid.out ?_;refine Lib.hid ?_;have y0:=zb BX.out 0;simp only[qm,qn,qo]at y0;go_upto_region 8 with fail;go_cut [0] (fun s wx=>Hid (Own B wx s (bs++TW++[32]++tE.txt++[32,102,114,111,109]++[32]++Lib.itoa i.K))∧Hid (Kb B x s w wx)∧Hid (wx.heap[w.heap.size]? =some (.cells #[.int .i64 4,.string ⟨i.n.toArray⟩,.slice l.aE i.nE l.cE,.slice l.aF i.nF l.cF,.int .i64 i.K,.int .i64 i.lo,.int .i64 i.hi] 38)))
 case first=>
  have HOx:=HO;have HO:=Hm (zw HO.out (Below.refl _ _).drew);have HK:=Hm HK.out.drew;have BX:Hid (w3.drew.heap[w.heap.size]? =some (.cells #[.int .i64 4,.string ⟨i.n.toArray⟩,.slice l.aE i.nE l.cE,.slice l.aF i.nF l.cF,.int .i64 i.K,.int .i64 i.lo,.int .i64 i.hi] 38)):=BX;refine wp_region_held_drew (S:=(fun w'=>w'.cell? ⟨w.heap.size,0,none⟩=some (.int .i64 4)∧w'.cell? ⟨w.heap.size,1,none⟩=some (.string ⟨i.n.toArray⟩)∧w'.cell? ⟨w.heap.size,2,none⟩=some (.slice l.aE i.nE l.cE)∧w'.cell? ⟨w.heap.size,3,none⟩=some (.slice l.aF i.nF l.cF)∧w'.cell? ⟨w.heap.size,4,none⟩=some (.int .i64 i.K)∧w'.cell? ⟨w.heap.size,5,none⟩=some (.int .i64 i.lo)∧w'.cell? ⟨w.heap.size,6,none⟩=some (.int .i64 i.hi))) (by kernel_rfl) ?_ (fun hHeld=>?_)
  ·exact cL9 BX.out
  refine tK 0 ?_ rfl (by kernel_rfl) (fun _ _ _ h=>h) (by rfl) ?_ (by assumption) ?_;rotate_left
  ·intro w hSw;(try dsimp only at hSw);go_simp;(try with_reducible rfl)
  rotate_left;simp only[Act.put,qa,qb,qc,qf,qe,qd];refine tK 1 ?_ rfl (by kernel_rfl) (fun _ _ _ h=>h) (by rfl) ?_ (by assumption) ?_;rotate_left
  ·intro w hSw;(try dsimp only at hSw);go_simp;(try with_reducible rfl)
  rotate_left;simp only[Act.put,qa,qb,qc,qf,qe,qd];refine tK 2 ?_ rfl (by kernel_rfl) (fun _ _ _ h=>h) (by rfl) ?_ (by assumption) ?_;rotate_left
  ·intro w hSw;(try dsimp only at hSw);go_simp;(try with_reducible rfl)
  rotate_left;simp only[Act.put,qa,qb,qc,qf,qe,qd];refine tK 5 ?_ rfl (by kernel_rfl) (fun _ _ _ h=>h) (by rfl) ?_ (by assumption) ?_;rotate_left
  ·intro w hSw;(try dsimp only at hSw);go_simp;(try with_reducible rfl)
  rotate_left;simp only[Act.put,qa,qb,qc,qf,qe,qd];refine tK 6 ?_ rfl (by kernel_rfl) (fun _ _ _ h=>h) (by rfl) ?_ (by assumption) ?_;rotate_left
  ·intro w hSw;(try dsimp only at hSw);go_simp;(try with_reducible rfl)
  rotate_left;simp only[Act.put,qa,qb,qc,qf,qe,qd];refine wpAnyH_ready (rs:=[3,7]) (by kernel_rfl) (by simp) ?_;refine AllReadyH.cons rfl (fun K hK=>?_) ?_
  ·go_simp
   refine(yK i.E l.aE i.nE l.cE B _ _ _ tE HtE.out (HI.out.on HK.out.1).now.1 (by omega) HO.out hB1 (HP.out.on HK.out.1) (by(try simp only[qg,qh,qi]);omega)).mono ?_;rintro e w5 ⟨v5,rfl,ho,hk⟩
   (try have SB:=Hm (hk.blk SB.out (by decide)))
   have BX:=Hm (hk.blk BX.out (by decide));have HO:=Hm ho;have HK:=Hm (HK.out.trans hk);have hB1:=qq hB HK.out.1.size;clear ho hk;refine hK.out _ _ ?_ (fun hHeld=>?_)
   ·exact cL9 BX.out
   clear hK K
   (try simp only[Act.put,qa,qb,qc,qf,qe,qd])
   refine wpAnyH_ready (rs:=[4,7]) (by kernel_rfl) (by simp) ?_;refine AllReadyH.cons rfl (fun K hK=>?_) ?_
   ·rw[if_pos (by rfl)]
    refine xA _ _ rfl B _ _ rfl HO.out [32,102,114,111,109] rfl hB1 (by(try simp only[qg,qh,qi]);omega) ?_;intro v6 w6 ho hk
    (try have SB:=Hm (hk.blk SB.out (by decide)))
    have BX:=Hm (hk.blk BX.out (by decide));have HO:=Hm ho;have HK:=Hm (HK.out.trans hk);have hB1:=qq hB HK.out.1.size;clear ho hk;refine hK.out _ _ ?_ (fun hHeld=>?_)
    ·exact cL9 BX.out
    clear hK K
    (try simp only[Act.put,qa,qb,qc,qf,qe,qd])
    refine wpAnyH_ready (rs:=[7]) (by kernel_rfl) (by simp) ?_;refine AllReadyH.cons rfl (fun K hK=>?_) ?_
    ·go_simp
     have SB:=Hm (xE HK.out (.cells #[.int .i64 i.K] 2));have HO:=Hm (zw HO.out (zd (Below.refl _ _) (.cells #[.int .i64 i.K] 2)));have HK:=Hm (HK.out.alloc hB1 (.cells #[.int .i64 i.K] 2));have BX:=Hm (zv BX.out (.cells #[.int .i64 i.K] 2));have hB1:=qq hB HK.out.1.size;refine hK.out _ _ ?_ (fun hHeld=>?_)
     ·exact cL9 BX.out
     clear hK K
     (try simp only[Act.put,qa,qb,qc,qf,qe,qd])
     refine wpAnyH_ready (rs:=[8]) (by kernel_rfl) (by simp) ?_;refine AllReadyH.cons rfl (fun K hK=>?_) ?_
     ·go_simp
      refine(yL i.K _ _ B _ _ _ _ (by omega) (by omega) SB.out HO.out hB1 (HP.out.on HK.out.1) (by(try simp only[qg,qh,qi]);omega)).mono ?_;rintro e w7 ⟨v7,rfl,ho,hk⟩;have BX:=Hm (hk.blk BX.out (by decide));have HO:=Hm ho;have HK:=Hm (HK.out.trans hk);have hB1:=qq hB HK.out.1.size;clear ho hk;refine hK.out _ _ ?_ (fun hHeld=>?_)
      ·exact cL9 BX.out
      clear hK K
      (try simp only[Act.put,qa,qb,qc,qf,qe,qd])
      refine tK 9 ?_ rfl (by kernel_rfl) (fun _ _ _ h=>h) (by rfl) ?_ (by assumption) ?_;rotate_left
      ·intro w hSw;(try dsimp only at hSw);go_simp;(try with_reducible rfl)
      rotate_left;simp only[Act.put,qa,qb,qc,qf,qe,qd];refine wpAnyH_done (by kernel_rfl) ?_ _;go_wp2_with fail;go_meet;exact⟨Hm (by have z:=HO.out;simpa only[ql]using z),HK,BX⟩
     exact AllReadyH.nil
    exact AllReadyH.nil
   refine AllReadyH.cons rfl (fun K hK=>?_) ?_
   ·go_simp
    have SB:=Hm (xE HK.out (.cells #[.int .i64 i.K] 2));have HO:=Hm (zw HO.out (zd (Below.refl _ _) (.cells #[.int .i64 i.K] 2)));have HK:=Hm (HK.out.alloc hB1 (.cells #[.int .i64 i.K] 2));have BX:=Hm (zv BX.out (.cells #[.int .i64 i.K] 2));have hB1:=qq hB HK.out.1.size;refine hK.out _ _ ?_ (fun hHeld=>?_)
    ·exact cL9 BX.out
    clear hK K
    (try simp only[Act.put,qa,qb,qc,qf,qe,qd])
    refine wpAnyH_ready (rs:=[4]) (by kernel_rfl) (by simp) ?_;refine AllReadyH.cons rfl (fun K hK=>?_) ?_
    ·rw[if_pos (by rfl)]
     refine xA _ _ rfl B _ _ rfl HO.out [32,102,114,111,109] rfl hB1 (by(try simp only[qg,qh,qi]);omega) ?_;intro v6 w6 ho hk
     (try have SB:=Hm (hk.blk SB.out (by decide)))
     have BX:=Hm (hk.blk BX.out (by decide));have HO:=Hm ho;have HK:=Hm (HK.out.trans hk);have hB1:=qq hB HK.out.1.size;clear ho hk;refine hK.out _ _ ?_ (fun hHeld=>?_)
     ·exact cL9 BX.out
     clear hK K
     (try simp only[Act.put,qa,qb,qc,qf,qe,qd])
     refine wpAnyH_ready (rs:=[8]) (by kernel_rfl) (by simp) ?_;refine AllReadyH.cons rfl (fun K hK=>?_) ?_
     ·go_simp
      refine(yL i.K _ _ B _ _ _ _ (by omega) (by omega) SB.out HO.out hB1 (HP.out.on HK.out.1) (by(try simp only[qg,qh,qi]);omega)).mono ?_;rintro e w7 ⟨v7,rfl,ho,hk⟩;have BX:=Hm (hk.blk BX.out (by decide));have HO:=Hm ho;have HK:=Hm (HK.out.trans hk);have hB1:=qq hB HK.out.1.size;clear ho hk;refine hK.out _ _ ?_ (fun hHeld=>?_)
      ·exact cL9 BX.out
      clear hK K
      (try simp only[Act.put,qa,qb,qc,qf,qe,qd])
      refine tK 9 ?_ rfl (by kernel_rfl) (fun _ _ _ h=>h) (by rfl) ?_ (by assumption) ?_;rotate_left
      ·intro w hSw;(try dsimp only at hSw);go_simp;(try with_reducible rfl)
      rotate_left;simp only[Act.put,qa,qb,qc,qf,qe,qd];refine wpAnyH_done (by kernel_rfl) ?_ _;go_wp2_with fail;go_meet;exact⟨Hm (by have z:=HO.out;simpa only[ql]using z),HK,BX⟩
     exact AllReadyH.nil
    exact AllReadyH.nil
   exact AllReadyH.nil
  refine AllReadyH.cons rfl (fun K hK=>?_) ?_
  ·go_simp
   have SB:=Hm (xE HK.out (.cells #[.int .i64 i.K] 2));have HO:=Hm (zw HO.out (zd (Below.refl _ _) (.cells #[.int .i64 i.K] 2)));have HK:=Hm (HK.out.alloc hB1 (.cells #[.int .i64 i.K] 2));have BX:=Hm (zv BX.out (.cells #[.int .i64 i.K] 2));have hB1:=qq hB HK.out.1.size;refine hK.out _ _ ?_ (fun hHeld=>?_)
   ·exact cL9 BX.out
   clear hK K
   (try simp only[Act.put,qa,qb,qc,qf,qe,qd])
   refine wpAnyH_ready (rs:=[3]) (by kernel_rfl) (by simp) ?_;refine AllReadyH.cons rfl (fun K hK=>?_) ?_
   ·go_simp
    refine(yK i.E l.aE i.nE l.cE B _ _ _ tE HtE.out (HI.out.on HK.out.1).now.1 (by omega) HO.out hB1 (HP.out.on HK.out.1) (by(try simp only[qg,qh,qi]);omega)).mono ?_;rintro e w5 ⟨v5,rfl,ho,hk⟩
    (try have SB:=Hm (hk.blk SB.out (by decide)))
    have BX:=Hm (hk.blk BX.out (by decide));have HO:=Hm ho;have HK:=Hm (HK.out.trans hk);have hB1:=qq hB HK.out.1.size;clear ho hk;refine hK.out _ _ ?_ (fun hHeld=>?_)
    ·exact cL9 BX.out
    clear hK K
    (try simp only[Act.put,qa,qb,qc,qf,qe,qd])
    refine wpAnyH_ready (rs:=[4]) (by kernel_rfl) (by simp) ?_;refine AllReadyH.cons rfl (fun K hK=>?_) ?_
    ·rw[if_pos (by rfl)]
     refine xA _ _ rfl B _ _ rfl HO.out [32,102,114,111,109] rfl hB1 (by(try simp only[qg,qh,qi]);omega) ?_;intro v6 w6 ho hk
     (try have SB:=Hm (hk.blk SB.out (by decide)))
     have BX:=Hm (hk.blk BX.out (by decide));have HO:=Hm ho;have HK:=Hm (HK.out.trans hk);have hB1:=qq hB HK.out.1.size;clear ho hk;refine hK.out _ _ ?_ (fun hHeld=>?_)
     ·exact cL9 BX.out
     clear hK K
     (try simp only[Act.put,qa,qb,qc,qf,qe,qd])
     refine wpAnyH_ready (rs:=[8]) (by kernel_rfl) (by simp) ?_;refine AllReadyH.cons rfl (fun K hK=>?_) ?_
     ·go_simp
      refine(yL i.K _ _ B _ _ _ _ (by omega) (by omega) SB.out HO.out hB1 (HP.out.on HK.out.1) (by(try simp only[qg,qh,qi]);omega)).mono ?_;rintro e w7 ⟨v7,rfl,ho,hk⟩;have BX:=Hm (hk.blk BX.out (by decide));have HO:=Hm ho;have HK:=Hm (HK.out.trans hk);have hB1:=qq hB HK.out.1.size;clear ho hk;refine hK.out _ _ ?_ (fun hHeld=>?_)
      ·exact cL9 BX.out
      clear hK K
      (try simp only[Act.put,qa,qb,qc,qf,qe,qd])
      refine tK 9 ?_ rfl (by kernel_rfl) (fun _ _ _ h=>h) (by rfl) ?_ (by assumption) ?_;rotate_left
      ·intro w hSw;(try dsimp only at hSw);go_simp;(try with_reducible rfl)
      rotate_left;simp only[Act.put,qa,qb,qc,qf,qe,qd];refine wpAnyH_done (by kernel_rfl) ?_ _;go_wp2_with fail;go_meet;exact⟨Hm (by have z:=HO.out;simpa only[ql]using z),HK,BX⟩
     exact AllReadyH.nil
    exact AllReadyH.nil
   exact AllReadyH.nil
  exact AllReadyH.nil
 case rest=>
  clear HO HK BX hB1;obtain⟨HO,HK,BX⟩:=hcut;have hB1:=qq hB HK.out.1.size;have y0:=zb BX.out 0;have y1:=zb BX.out 1;have y2:=zb BX.out 2;have y3:=zb BX.out 3;have y4:=zb BX.out 4;have y5:=zb BX.out 5;have y6:=zb BX.out 6;simp only[qm,qn,qo]at y0 y1 y2 y3 y4 y5 y6;go_wp2_with fail;refine(Xa {i with k:=4} l B _ _ _ (by simp only;omega) (by simp only;omega) (by simp only;omega) (by simp only;omega) HO.out hB1 (HP.out.on HK.out.1) (by(try simp only[qg,qh,qi]);omega)).mono ?_;rintro e w9 ⟨v9,rfl,ho,hk⟩;have BX:=Hm (hk.blk BX.out (by decide));have HO:=Hm ho;have HK:=Hm (HK.out.trans hk);have hB1:=qq hB HK.out.1.size;clear ho hk;clear y0 y1 y2 y3 y4 y5 y6
  have HSP:Hid (y8 {i with k:=4}=y8 i):=rfl;rw[HSP.out]at HO;go_wp2;go_ret;exact⟨v9,rfl,by have z:=HO.out;simpa[ql]using z,HK.out⟩
theorem SK (i:It) (l:Lo) (B:Nat) (bs:List UInt8) (x:Value) (w:World) (tE:Tr) (hE:stk i.E i.nE=some [tE]) (tF:Tr) (hF:stk i.F i.nF=some [tF]) (hnE:i.nE≤2000) (hnF:i.nF≤2000) (hI:Ye B w i l) (hown:Own B w x bs) (hB:B≤w.heap.size) (hP:Ps B w) (hl:bs.length≤300000000):
  Calls Tryz.prog 16 #[x,.agg #[.int .i64 5,.string ⟨i.n.toArray⟩,.slice l.aE i.nE l.cE,.slice l.aF i.nF l.cF,.int .i64 i.K,.int .i64 i.lo,.int .i64 i.hi]] w (App B x w (bs++zG 20++[32]++(tE.txt++[32,116,104,101,110,32]++tF.txt))):=by
 have htE:=yt hE;have HtE:=Hm hE;clear hE;have htF:=yt hF;have HtF:=Hm hF;clear hF;have HO:=Hm (zw hown (zd (Below.refl _ _) (.cells #[.int .i64 5,.string ⟨i.n.toArray⟩,.slice l.aE i.nE l.cE,.slice l.aF i.nF l.cF,.int .i64 i.K,.int .i64 i.lo,.int .i64 i.hi] 38)));have HK:=Hm ((Kb.refl B x w).alloc hB (.cells #[.int .i64 5,.string ⟨i.n.toArray⟩,.slice l.aE i.nE l.cE,.slice l.aF i.nF l.cF,.int .i64 i.K,.int .i64 i.lo,.int .i64 i.hi] 38));have BX:=Hm (zo w (.cells #[.int .i64 5,.string ⟨i.n.toArray⟩,.slice l.aE i.nE l.cE,.slice l.aF i.nF l.cF,.int .i64 i.K,.int .i64 i.lo,.int .i64 i.hi] 38));have HP:=Hm hP;have HI:=Hm hI;have hB1:=qq hB HK.out.1.size;have htl:=tw_len 20;have ht:=(hP.on HK.out.1).t.now.t 20 (by omega)
 obtain⟨TW,hTW⟩:∃TW,TW=zG 20:=⟨_,rfl⟩;rw[←hTW]at htl ht ⊢;clear hTW;clear hown hP hI;go_enter Tryz.func16,Tryz.ntmps16;go_wp2_with (at_builtin;refine zQ rfl _ _ rfl B _ _ rfl HO.out TW rfl hB1 (by(try simp only[qg,qh,qi]);omega) ?_);intro v2 w2 ho hk;have BX:=Hm (hk.blk BX.out (by decide));have HO:=Hm ho;have HK:=Hm (HK.out.trans hk);have hB1:=qq hB HK.out.1.size;clear ho hk;clear ht;refine Hid.out ?_;refine Lib.hid ?_;go_wp2_with (at_builtin;refine zX rfl _ _ rfl B _ _ rfl (zw HO.out (zd (Below.refl _ _) _)) _ _ rfl 32 (zb (zo _ _) 0) (by simp;omega) (by(try simp only[qg,qh,qi]);omega) ?_);intro v3 w3 ho hk;have BX:=Hm (hk.blk (zv BX.out _) (by decide));have HO:=Hm ho
 have HK:=Hm ((HK.out.alloc hB1 _).trans hk);have hB1:=qq hB HK.out.1.size;clear ho hk;refine Hid.out ?_;refine Lib.hid ?_;have y0:=zb BX.out 0;simp only[qm,qn,qo]at y0;have y2:=zb BX.out 2;simp only[qm,qn,qo]at y2;go_wp2_with fail;refine(yK i.E l.aE i.nE l.cE B _ _ _ tE HtE.out (HI.out.on HK.out.1).now.1 (by omega) HO.out hB1 (HP.out.on HK.out.1) (by(try simp only[qg,qh,qi]);omega)).mono ?_;rintro e w5 ⟨v5,rfl,ho,hk⟩;have BX:=Hm (hk.blk BX.out (by decide));have HO:=Hm ho;have HK:=Hm (HK.out.trans hk);have hB1:=qq hB HK.out.1.size;clear ho hk;clear y2
 go_wp2_with (at_builtin;refine zQ rfl _ _ rfl B _ _ rfl HO.out [32,116,104,101,110,32] rfl hB1 (by(try simp only[qg,qh,qi]);omega) ?_);intro v6 w6 ho hk;have BX:=Hm (hk.blk BX.out (by decide));have HO:=Hm ho;have HK:=Hm (HK.out.trans hk);have hB1:=qq hB HK.out.1.size;clear ho hk;refine Hid.out ?_;refine Lib.hid ?_;have y3:=zb BX.out 3;simp only[qm,qn,qo]at y3;go_wp2_with fail;refine(yK i.F l.aF i.nF l.cF B _ _ _ tF HtF.out (HI.out.on HK.out.1).now.2 (by omega) HO.out hB1 (HP.out.on HK.out.1) (by(try simp only[qg,qh,qi]);omega)).mono ?_;rintro e w7 ⟨v7,rfl,ho,hk⟩;have BX:=Hm (hk.blk BX.out (by decide));have HO:=Hm ho;have HK:=Hm (HK.out.trans hk)
 have hB1:=qq hB HK.out.1.size;clear ho hk;clear y3;go_wp2;go_ret;exact⟨v7,rfl,by have z:=HO.out;simpa[ql]using z,HK.out⟩
theorem SJ (i:It) (l:Lo) (B:Nat) (bs:List UInt8) (x:Value) (w:World) (hK0:0≤i.K) (hK1:i.K≤15) (hl0:0≤i.lo) (hl1:i.lo≤15) (hnE:i.nE≤2000) (hnF:i.nF≤2000) (hI:Ye B w i l) (hown:Own B w x bs) (hB:B≤w.heap.size) (hP:Ps B w) (hl:bs.length≤300000000):
  Calls Tryz.prog 16 #[x,.agg #[.int .i64 6,.string ⟨i.n.toArray⟩,.slice l.aE i.nE l.cE,.slice l.aF i.nF l.cF,.int .i64 i.K,.int .i64 i.lo,.int .i64 i.hi]] w (App B x w (bs++zG 21++[32]++([yW i.K,32,yW i.lo]))):=by
 have HO:=Hm (zw hown (zd (Below.refl _ _) (.cells #[.int .i64 6,.string ⟨i.n.toArray⟩,.slice l.aE i.nE l.cE,.slice l.aF i.nF l.cF,.int .i64 i.K,.int .i64 i.lo,.int .i64 i.hi] 38)));have HK:=Hm ((Kb.refl B x w).alloc hB (.cells #[.int .i64 6,.string ⟨i.n.toArray⟩,.slice l.aE i.nE l.cE,.slice l.aF i.nF l.cF,.int .i64 i.K,.int .i64 i.lo,.int .i64 i.hi] 38));have BX:=Hm (zo w (.cells #[.int .i64 6,.string ⟨i.n.toArray⟩,.slice l.aE i.nE l.cE,.slice l.aF i.nF l.cF,.int .i64 i.K,.int .i64 i.lo,.int .i64 i.hi] 38));have HP:=Hm hP;have HI:=Hm hI;have hB1:=qq hB HK.out.1.size;have htl:=tw_len 21;have ht:=(hP.on HK.out.1).t.now.t 21 (by omega);obtain⟨TW,hTW⟩:∃TW,TW=zG 21:=⟨_,rfl⟩;rw[←hTW]at htl ht ⊢;clear hTW;clear hown hP hI;go_enter Tryz.func16,Tryz.ntmps16
 go_wp2_with (at_builtin;refine zQ rfl _ _ rfl B _ _ rfl HO.out TW rfl hB1 (by(try simp only[qg,qh,qi]);omega) ?_);intro v2 w2 ho hk;have BX:=Hm (hk.blk BX.out (by decide));have HO:=Hm ho;have HK:=Hm (HK.out.trans hk);have hB1:=qq hB HK.out.1.size;clear ho hk;clear ht;refine Hid.out ?_;refine Lib.hid ?_;go_wp2_with (at_builtin;refine zX rfl _ _ rfl B _ _ rfl (zw HO.out (zd (Below.refl _ _) _)) _ _ rfl 32 (zb (zo _ _) 0) (by simp;omega) (by(try simp only[qg,qh,qi]);omega) ?_);intro v3 w3 ho hk;have BX:=Hm (hk.blk (zv BX.out _) (by decide));have HO:=Hm ho;have HK:=Hm ((HK.out.alloc hB1 _).trans hk);have hB1:=qq hB HK.out.1.size;clear ho hk;refine Hid.out ?_;refine Lib.hid ?_
 have y0:=zb BX.out 0;simp only[qm,qn,qo]at y0;go_upto_region 14 with fail;have HOx:=HO;have HO:=Hm (zw HO.out (Below.refl _ _).drew);have HK:=Hm HK.out.drew;have BX:Hid (w3.drew.heap[w.heap.size]? =some (.cells #[.int .i64 6,.string ⟨i.n.toArray⟩,.slice l.aE i.nE l.cE,.slice l.aF i.nF l.cF,.int .i64 i.K,.int .i64 i.lo,.int .i64 i.hi] 38)):=BX
 refine wp_region_held_drew (S:=(fun w'=>w'.cell? ⟨w.heap.size,0,none⟩=some (.int .i64 6)∧w'.cell? ⟨w.heap.size,1,none⟩=some (.string ⟨i.n.toArray⟩)∧w'.cell? ⟨w.heap.size,2,none⟩=some (.slice l.aE i.nE l.cE)∧w'.cell? ⟨w.heap.size,3,none⟩=some (.slice l.aF i.nF l.cF)∧w'.cell? ⟨w.heap.size,4,none⟩=some (.int .i64 i.K)∧w'.cell? ⟨w.heap.size,5,none⟩=some (.int .i64 i.lo)∧w'.cell? ⟨w.heap.size,6,none⟩=some (.int .i64 i.hi))) (by kernel_rfl) ?_ (fun hHeld=>?_)
 ·exact cL9 BX.out
 refine tK 0 ?_ rfl (by kernel_rfl) (fun _ _ _ h=>h) (by rfl) ?_ (by assumption) ?_;rotate_left
 ·intro w hSw;(try dsimp only at hSw);go_simp;(try with_reducible rfl)
 rotate_left;simp only[Act.put,qa,qb,qc,qf,qe,qd];refine tK 1 ?_ rfl (by kernel_rfl) (fun _ _ _ h=>h) (by rfl) ?_ (by assumption) ?_;rotate_left
 ·intro w hSw;(try dsimp only at hSw);go_simp;(try with_reducible rfl)
 rotate_left;simp only[Act.put,qa,qb,qc,qf,qe,qd];refine tK 2 ?_ rfl (by kernel_rfl) (fun _ _ _ h=>h) (by rfl) ?_ (by assumption) ?_;rotate_left
 ·intro w hSw;(try dsimp only at hSw);go_simp;(try with_reducible rfl)
 rotate_left;simp only[Act.put,qa,qb,qc,qf,qe,qd];refine tK 4 ?_ rfl (by kernel_rfl) (fun _ _ _ h=>h) (by rfl) ?_ (by assumption) ?_;rotate_left
 ·intro w hSw;(try dsimp only at hSw);go_simp;(try with_reducible rfl)
 rotate_left;simp only[Act.put,qa,qb,qc,qf,qe,qd];refine tK 5 ?_ rfl (by kernel_rfl) (fun _ _ _ h=>h) (by rfl) ?_ (by assumption) ?_;rotate_left
 ·intro w hSw;(try dsimp only at hSw);go_simp;(try with_reducible rfl)
 rotate_left;simp only[Act.put,qa,qb,qc,qf,qe,qd];refine wpAnyH_ready (rs:=[3]) (by kernel_rfl) (by simp) ?_;refine AllReadyH.cons rfl (fun K hK=>?_) ?_
 ·go_simp
  refine(Zv i.K _ (by omega) (by omega)).mono ?_;rintro e w4 ⟨rfl,rfl⟩;refine hK.out _ _ ?_ (fun hHeld=>?_)
  ·exact cL9 BX.out
  clear hK K
  (try simp only[Act.put,qa,qb,qc,qf,qe,qd])
  refine wpAnyH_ready (rs:=[6]) (by kernel_rfl) (by simp) ?_;refine AllReadyH.cons rfl (fun K hK=>?_) ?_
  ·go_simp
   refine(Zv i.lo _ (by omega) (by omega)).mono ?_;rintro e w4 ⟨rfl,rfl⟩;refine hK.out _ _ ?_ (fun hHeld=>?_)
   ·exact cL9 BX.out
   clear hK K
   (try simp only[Act.put,qa,qb,qc,qf,qe,qd])
   refine wpAnyH_ready (rs:=[7]) (by kernel_rfl) (by simp) ?_;refine AllReadyH.cons rfl (fun K hK=>?_) ?_
   ·go_simp
    have SB:=Hm (xE HK.out (.cells #[.int .u8 ((yW i.K).toNat:Int),.int .u8 32,.int .u8 ((yW i.lo).toNat:Int)] 5));have HO:=Hm (zw HO.out (zd (Below.refl _ _) (.cells #[.int .u8 ((yW i.K).toNat:Int),.int .u8 32,.int .u8 ((yW i.lo).toNat:Int)] 5)));have HK:=Hm (HK.out.alloc hB1 (.cells #[.int .u8 ((yW i.K).toNat:Int),.int .u8 32,.int .u8 ((yW i.lo).toNat:Int)] 5));have BX:=Hm (zv BX.out (.cells #[.int .u8 ((yW i.K).toNat:Int),.int .u8 32,.int .u8 ((yW i.lo).toNat:Int)] 5));have hB1:=qq hB HK.out.1.size;refine hK.out _ _ ?_ (fun hHeld=>?_)
    ·exact cL9 BX.out
    clear hK K
    (try simp only[Act.put,qa,qb,qc,qf,qe,qd])
    refine wpAnyH_ready (rs:=[8]) (by kernel_rfl) (by simp) ?_;refine AllReadyH.cons rfl (fun K hK=>?_) ?_
    ·rw[if_pos (by rfl)]
     refine U1 _ _ rfl B _ _ rfl HO.out _ _ _ rfl [yW i.K,32,yW i.lo] rfl (fun j u hj=>by rw[Addr.add_mid,Nat.zero_add];exact(zb SB.out j).trans (by simpa[Lib.byteCells]using hj)) hB1 (by(try simp only[qg,qh,qi]);omega) ?_;intro v6 w6 ho hk;have BX:=Hm (hk.blk BX.out (by decide));have HO:=Hm ho;have HK:=Hm (HK.out.trans hk);have hB1:=qq hB HK.out.1.size;clear ho hk;refine hK.out _ _ ?_ (fun hHeld=>?_)
     ·exact cL9 BX.out
     clear hK K
     (try simp only[Act.put,qa,qb,qc,qf,qe,qd])
     refine tK 9 ?_ rfl (by kernel_rfl) (fun _ _ _ h=>h) (by rfl) ?_ (by assumption) ?_;rotate_left
     ·intro w hSw;(try dsimp only at hSw);go_simp;(try with_reducible rfl)
     rotate_left;simp only[Act.put,qa,qb,qc,qf,qe,qd];refine wpAnyH_done (by kernel_rfl) ?_ _;go_wp2;go_ret;exact⟨v6,rfl,by have z:=HO.out;simpa[ql]using z,HK.out⟩
    exact AllReadyH.nil
   exact AllReadyH.nil
  exact AllReadyH.nil
 exact AllReadyH.nil
theorem SI (i:It) (l:Lo) (B:Nat) (bs:List UInt8) (x:Value) (w:World) (hK0:0≤i.K) (hK1:i.K≤999999999) (hnE:i.nE≤2000) (hnF:i.nF≤2000) (hI:Ye B w i l) (hown:Own B w x bs) (hB:B≤w.heap.size) (hP:Ps B w) (hl:bs.length≤300000000):
  Calls Tryz.prog 16 #[x,.agg #[.int .i64 7,.string ⟨i.n.toArray⟩,.slice l.aE i.nE l.cE,.slice l.aF i.nF l.cF,.int .i64 i.K,.int .i64 i.lo,.int .i64 i.hi]] w (App B x w (bs++zG 22++[32]++(Lib.itoa i.K))):=by
 have HO:=Hm (zw hown (zd (Below.refl _ _) (.cells #[.int .i64 7,.string ⟨i.n.toArray⟩,.slice l.aE i.nE l.cE,.slice l.aF i.nF l.cF,.int .i64 i.K,.int .i64 i.lo,.int .i64 i.hi] 38)));have HK:=Hm ((Kb.refl B x w).alloc hB (.cells #[.int .i64 7,.string ⟨i.n.toArray⟩,.slice l.aE i.nE l.cE,.slice l.aF i.nF l.cF,.int .i64 i.K,.int .i64 i.lo,.int .i64 i.hi] 38));have BX:=Hm (zo w (.cells #[.int .i64 7,.string ⟨i.n.toArray⟩,.slice l.aE i.nE l.cE,.slice l.aF i.nF l.cF,.int .i64 i.K,.int .i64 i.lo,.int .i64 i.hi] 38));have HP:=Hm hP;have HI:=Hm hI;have hB1:=qq hB HK.out.1.size;have htl:=tw_len 22;have ht:=(hP.on HK.out.1).t.now.t 22 (by omega);obtain⟨TW,hTW⟩:∃TW,TW=zG 22:=⟨_,rfl⟩;rw[←hTW]at htl ht ⊢;clear hTW;clear hown hP hI;go_enter Tryz.func16,Tryz.ntmps16
 go_wp2_with (at_builtin;refine zQ rfl _ _ rfl B _ _ rfl HO.out TW rfl hB1 (by(try simp only[qg,qh,qi]);omega) ?_);intro v2 w2 ho hk;have BX:=Hm (hk.blk BX.out (by decide));have HO:=Hm ho;have HK:=Hm (HK.out.trans hk);have hB1:=qq hB HK.out.1.size;clear ho hk;clear ht;refine Hid.out ?_;refine Lib.hid ?_;go_wp2_with (at_builtin;refine zX rfl _ _ rfl B _ _ rfl (zw HO.out (zd (Below.refl _ _) _)) _ _ rfl 32 (zb (zo _ _) 0) (by simp;omega) (by(try simp only[qg,qh,qi]);omega) ?_);intro v3 w3 ho hk;have BX:=Hm (hk.blk (zv BX.out _) (by decide));have HO:=Hm ho;have HK:=Hm ((HK.out.alloc hB1 _).trans hk);have hB1:=qq hB HK.out.1.size;clear ho hk;refine Hid.out ?_;refine Lib.hid ?_
 have y0:=zb BX.out 0;simp only[qm,qn,qo]at y0;have y4:=zb BX.out 4;simp only[qm,qn,qo]at y4;go_wp2_with fail;refine(Yt B i.K (by omega) (by omega) _ _ _ HO.out hB1 (by(try simp only[qg,qh,qi]);omega) (HP.out.on HK.out.1).p).mono ?_;rintro e w6 ⟨v6,rfl,ho,hk⟩;have BX:=Hm (hk.blk BX.out (by decide));have HO:=Hm ho;have HK:=Hm (HK.out.trans hk);have hB1:=qq hB HK.out.1.size;clear ho hk;clear y4;go_wp2;go_ret;exact⟨v6,rfl,by have z:=HO.out;simpa[ql]using z,HK.out⟩
theorem SH (i:It) (l:Lo) (B:Nat) (bs:List UInt8) (x:Value) (w:World) (tE:Tr) (hE:stk i.E i.nE=some [tE]) (hl0:-999999999≤i.lo) (hl1:i.lo≤999999999) (hh0:-999999999≤i.hi) (hh1:i.hi≤999999999) (hnE:i.nE≤2000) (hnF:i.nF≤2000) (hI:Ye B w i l) (hown:Own B w x bs) (hB:B≤w.heap.size) (hP:Ps B w) (hl:bs.length≤300000000):
  Calls Tryz.prog 16 #[x,.agg #[.int .i64 8,.string ⟨i.n.toArray⟩,.slice l.aE i.nE l.cE,.slice l.aF i.nF l.cF,.int .i64 i.K,.int .i64 i.lo,.int .i64 i.hi]] w (App B x w (bs++zG 23++[32]++(tE.txt++y8 i))):=by
 have htE:=yt hE;have HtE:=Hm hE;clear hE;have HO:=Hm (zw hown (zd (Below.refl _ _) (.cells #[.int .i64 8,.string ⟨i.n.toArray⟩,.slice l.aE i.nE l.cE,.slice l.aF i.nF l.cF,.int .i64 i.K,.int .i64 i.lo,.int .i64 i.hi] 38)));have HK:=Hm ((Kb.refl B x w).alloc hB (.cells #[.int .i64 8,.string ⟨i.n.toArray⟩,.slice l.aE i.nE l.cE,.slice l.aF i.nF l.cF,.int .i64 i.K,.int .i64 i.lo,.int .i64 i.hi] 38));have BX:=Hm (zo w (.cells #[.int .i64 8,.string ⟨i.n.toArray⟩,.slice l.aE i.nE l.cE,.slice l.aF i.nF l.cF,.int .i64 i.K,.int .i64 i.lo,.int .i64 i.hi] 38));have HP:=Hm hP;have HI:=Hm hI;have hB1:=qq hB HK.out.1.size;have htl:=tw_len 23;have ht:=(hP.on HK.out.1).t.now.t 23 (by omega);obtain⟨TW,hTW⟩:∃TW,TW=zG 23:=⟨_,rfl⟩;rw[←hTW]at htl ht ⊢;clear hTW
 clear hown hP hI;go_enter Tryz.func16,Tryz.ntmps16;go_wp2_with (at_builtin;refine zQ rfl _ _ rfl B _ _ rfl HO.out TW rfl hB1 (by(try simp only[qg,qh,qi]);omega) ?_);intro v2 w2 ho hk;have BX:=Hm (hk.blk BX.out (by decide));have HO:=Hm ho;have HK:=Hm (HK.out.trans hk);have hB1:=qq hB HK.out.1.size;clear ho hk;clear ht;refine Hid.out ?_;refine Lib.hid ?_;go_wp2_with (at_builtin;refine zX rfl _ _ rfl B _ _ rfl (zw HO.out (zd (Below.refl _ _) _)) _ _ rfl 32 (zb (zo _ _) 0) (by simp;omega) (by(try simp only[qg,qh,qi]);omega) ?_);intro v3 w3 ho hk;have BX:=Hm (hk.blk (zv BX.out _) (by decide));have HO:=Hm ho;have HK:=Hm ((HK.out.alloc hB1 _).trans hk);have hB1:=qq hB HK.out.1.size
 clear ho hk;refine Hid.out ?_;refine Lib.hid ?_;have y0:=zb BX.out 0;simp only[qm,qn,qo]at y0;go_upto_region 18 with fail;have HOx:=HO;have HO:=Hm (zw HO.out (Below.refl _ _).drew);have HK:=Hm HK.out.drew;have BX:Hid (w3.drew.heap[w.heap.size]? =some (.cells #[.int .i64 8,.string ⟨i.n.toArray⟩,.slice l.aE i.nE l.cE,.slice l.aF i.nF l.cF,.int .i64 i.K,.int .i64 i.lo,.int .i64 i.hi] 38)):=BX
 refine wp_region_held_drew (S:=(fun w'=>w'.cell? ⟨w.heap.size,0,none⟩=some (.int .i64 8)∧w'.cell? ⟨w.heap.size,1,none⟩=some (.string ⟨i.n.toArray⟩)∧w'.cell? ⟨w.heap.size,2,none⟩=some (.slice l.aE i.nE l.cE)∧w'.cell? ⟨w.heap.size,3,none⟩=some (.slice l.aF i.nF l.cF)∧w'.cell? ⟨w.heap.size,4,none⟩=some (.int .i64 i.K)∧w'.cell? ⟨w.heap.size,5,none⟩=some (.int .i64 i.lo)∧w'.cell? ⟨w.heap.size,6,none⟩=some (.int .i64 i.hi))) (by kernel_rfl) ?_ (fun hHeld=>?_)
 ·exact cL9 BX.out
 refine tK 0 ?_ rfl (by kernel_rfl) (fun _ _ _ h=>h) (by rfl) ?_ (by assumption) ?_;rotate_left
 ·intro w hSw;(try dsimp only at hSw);go_simp;(try with_reducible rfl)
 rotate_left;simp only[Act.put,qa,qb,qc,qf,qe,qd];refine tK 1 ?_ rfl (by kernel_rfl) (fun _ _ _ h=>h) (by rfl) ?_ (by assumption) ?_;rotate_left
 ·intro w hSw;(try dsimp only at hSw);go_simp;(try with_reducible rfl)
 rotate_left;simp only[Act.put,qa,qb,qc,qf,qe,qd];refine tK 2 ?_ rfl (by kernel_rfl) (fun _ _ _ h=>h) (by rfl) ?_ (by assumption) ?_;rotate_left
 ·intro w hSw;(try dsimp only at hSw);go_simp;(try with_reducible rfl)
 rotate_left;simp only[Act.put,qa,qb,qc,qf,qe,qd];refine tK 4 ?_ rfl (by kernel_rfl) (fun _ _ _ h=>h) (by rfl) ?_ (by assumption) ?_;rotate_left
 ·intro w hSw;(try dsimp only at hSw);go_simp;(try with_reducible rfl)
 rotate_left;simp only[Act.put,qa,qb,qc,qf,qe,qd];refine wpAnyH_ready (rs:=[3]) (by kernel_rfl) (by simp) ?_;refine AllReadyH.cons rfl (fun K hK=>?_) ?_
 ·go_simp
  refine(yK i.E l.aE i.nE l.cE B _ _ _ tE HtE.out (HI.out.on HK.out.1).now.1 (by omega) HO.out hB1 (HP.out.on HK.out.1) (by(try simp only[qg,qh,qi]);omega)).mono ?_;rintro e w5 ⟨v5,rfl,ho,hk⟩;have BX:=Hm (hk.blk BX.out (by decide));have HO:=Hm ho;have HK:=Hm (HK.out.trans hk);have hB1:=qq hB HK.out.1.size;clear ho hk;refine hK.out _ _ ?_ (fun hHeld=>?_)
  ·exact cL9 BX.out
  clear hK K
  (try simp only[Act.put,qa,qb,qc,qf,qe,qd])
  refine wpAnyH_ready (rs:=[5]) (by kernel_rfl) (by simp) ?_;refine AllReadyH.cons rfl (fun K hK=>?_) ?_
  ·go_simp
   refine(Xa {i with k:=8} l B _ _ _ (by simp only;omega) (by simp only;omega) (by simp only;omega) (by simp only;omega) HO.out hB1 (HP.out.on HK.out.1) (by(try simp only[qg,qh,qi]);omega)).mono ?_;rintro e w9 ⟨v9,rfl,ho,hk⟩;have BX:=Hm (hk.blk BX.out (by decide));have HO:=Hm ho;have HK:=Hm (HK.out.trans hk);have hB1:=qq hB HK.out.1.size;clear ho hk;have HSP:Hid (y8 {i with k:=8}=y8 i):=rfl;rw[HSP.out]at HO;refine hK.out _ _ ?_ (fun hHeld=>?_)
   ·exact cL9 BX.out
   clear hK K
   (try simp only[Act.put,qa,qb,qc,qf,qe,qd])
   refine tK 6 ?_ rfl (by kernel_rfl) (fun _ _ _ h=>h) (by rfl) ?_ (by assumption) ?_;rotate_left
   ·intro w hSw;(try dsimp only at hSw);go_simp;(try with_reducible rfl)
   rotate_left;simp only[Act.put,qa,qb,qc,qf,qe,qd];refine wpAnyH_done (by kernel_rfl) ?_ _;go_wp2;go_ret;exact⟨v9,rfl,by have z:=HO.out;simpa[ql]using z,HK.out⟩
  exact AllReadyH.nil
 exact AllReadyH.nil
theorem SG (i:It) (l:Lo) (B:Nat) (bs:List UInt8) (x:Value) (w:World) (tE:Tr) (hE:stk i.E i.nE=some [tE]) (hK0:0≤i.K) (hK1:i.K≤999999999) (hnE:i.nE≤2000) (hnF:i.nF≤2000) (hI:Ye B w i l) (hown:Own B w x bs) (hB:B≤w.heap.size) (hP:Ps B w) (hl:bs.length≤300000000):
  Calls Tryz.prog 16 #[x,.agg #[.int .i64 9,.string ⟨i.n.toArray⟩,.slice l.aE i.nE l.cE,.slice l.aF i.nF l.cF,.int .i64 i.K,.int .i64 i.lo,.int .i64 i.hi]] w (App B x w (bs++zG 24++[32]++(tE.txt++[32,109,111,115,116]++[32]++Lib.itoa i.K))):=by
 have htE:=yt hE;have HtE:=Hm hE;clear hE;have hKl:=xg (show -999999999≤i.K by omega) (show i.K≤999999999 by omega);have HO:=Hm (zw hown (zd (Below.refl _ _) (.cells #[.int .i64 9,.string ⟨i.n.toArray⟩,.slice l.aE i.nE l.cE,.slice l.aF i.nF l.cF,.int .i64 i.K,.int .i64 i.lo,.int .i64 i.hi] 38)));have HK:=Hm ((Kb.refl B x w).alloc hB (.cells #[.int .i64 9,.string ⟨i.n.toArray⟩,.slice l.aE i.nE l.cE,.slice l.aF i.nF l.cF,.int .i64 i.K,.int .i64 i.lo,.int .i64 i.hi] 38));have BX:=Hm (zo w (.cells #[.int .i64 9,.string ⟨i.n.toArray⟩,.slice l.aE i.nE l.cE,.slice l.aF i.nF l.cF,.int .i64 i.K,.int .i64 i.lo,.int .i64 i.hi] 38));have HP:=Hm hP;have HI:=Hm hI;have hB1:=qq hB HK.out.1.size;have htl:=tw_len 24;have ht:=(hP.on HK.out.1).t.now.t 24 (by omega)
 obtain⟨TW,hTW⟩:∃TW,TW=zG 24:=⟨_,rfl⟩;rw[←hTW]at htl ht ⊢;clear hTW;clear hown hP hI;go_enter Tryz.func16,Tryz.ntmps16;go_wp2_with (at_builtin;refine zQ rfl _ _ rfl B _ _ rfl HO.out TW rfl hB1 (by(try simp only[qg,qh,qi]);omega) ?_);intro v2 w2 ho hk;have BX:=Hm (hk.blk BX.out (by decide));have HO:=Hm ho;have HK:=Hm (HK.out.trans hk);have hB1:=qq hB HK.out.1.size;clear ho hk;clear ht;refine Hid.out ?_;refine Lib.hid ?_;go_wp2_with (at_builtin;refine zX rfl _ _ rfl B _ _ rfl (zw HO.out (zd (Below.refl _ _) _)) _ _ rfl 32 (zb (zo _ _) 0) (by simp;omega) (by(try simp only[qg,qh,qi]);omega) ?_);intro v3 w3 ho hk;have BX:=Hm (hk.blk (zv BX.out _) (by decide));have HO:=Hm ho
 have HK:=Hm ((HK.out.alloc hB1 _).trans hk);have hB1:=qq hB HK.out.1.size;clear ho hk;refine Hid.out ?_;refine Lib.hid ?_;have y0:=zb BX.out 0;simp only[qm,qn,qo]at y0;go_upto_region 20 with fail;have HOx:=HO;have HO:=Hm (zw HO.out (Below.refl _ _).drew);have HK:=Hm HK.out.drew;have BX:Hid (w3.drew.heap[w.heap.size]? =some (.cells #[.int .i64 9,.string ⟨i.n.toArray⟩,.slice l.aE i.nE l.cE,.slice l.aF i.nF l.cF,.int .i64 i.K,.int .i64 i.lo,.int .i64 i.hi] 38)):=BX
 refine wp_region_held_drew (S:=(fun w'=>w'.cell? ⟨w.heap.size,0,none⟩=some (.int .i64 9)∧w'.cell? ⟨w.heap.size,1,none⟩=some (.string ⟨i.n.toArray⟩)∧w'.cell? ⟨w.heap.size,2,none⟩=some (.slice l.aE i.nE l.cE)∧w'.cell? ⟨w.heap.size,3,none⟩=some (.slice l.aF i.nF l.cF)∧w'.cell? ⟨w.heap.size,4,none⟩=some (.int .i64 i.K)∧w'.cell? ⟨w.heap.size,5,none⟩=some (.int .i64 i.lo)∧w'.cell? ⟨w.heap.size,6,none⟩=some (.int .i64 i.hi))) (by kernel_rfl) ?_ (fun hHeld=>?_)
 ·exact cL9 BX.out
 refine tK 0 ?_ rfl (by kernel_rfl) (fun _ _ _ h=>h) (by rfl) ?_ (by assumption) ?_;rotate_left
 ·intro w hSw;(try dsimp only at hSw);go_simp;(try with_reducible rfl)
 rotate_left;simp only[Act.put,qa,qb,qc,qf,qe,qd];refine tK 1 ?_ rfl (by kernel_rfl) (fun _ _ _ h=>h) (by rfl) ?_ (by assumption) ?_;rotate_left
 ·intro w hSw;(try dsimp only at hSw);go_simp;(try with_reducible rfl)
 rotate_left;simp only[Act.put,qa,qb,qc,qf,qe,qd];refine tK 2 ?_ rfl (by kernel_rfl) (fun _ _ _ h=>h) (by rfl) ?_ (by assumption) ?_;rotate_left
 ·intro w hSw;(try dsimp only at hSw);go_simp;(try with_reducible rfl)
 rotate_left;simp only[Act.put,qa,qb,qc,qf,qe,qd];refine tK 5 ?_ rfl (by kernel_rfl) (fun _ _ _ h=>h) (by rfl) ?_ (by assumption) ?_;rotate_left
 ·intro w hSw;(try dsimp only at hSw);go_simp;(try with_reducible rfl)
 rotate_left;simp only[Act.put,qa,qb,qc,qf,qe,qd];refine tK 6 ?_ rfl (by kernel_rfl) (fun _ _ _ h=>h) (by rfl) ?_ (by assumption) ?_;rotate_left
 ·intro w hSw;(try dsimp only at hSw);go_simp;(try with_reducible rfl)
 rotate_left;simp only[Act.put,qa,qb,qc,qf,qe,qd];refine wpAnyH_ready (rs:=[3,7]) (by kernel_rfl) (by simp) ?_;refine AllReadyH.cons rfl (fun K hK=>?_) ?_
 ·go_simp
  refine(yK i.E l.aE i.nE l.cE B _ _ _ tE HtE.out (HI.out.on HK.out.1).now.1 (by omega) HO.out hB1 (HP.out.on HK.out.1) (by(try simp only[qg,qh,qi]);omega)).mono ?_;rintro e w5 ⟨v5,rfl,ho,hk⟩
  (try have SB:=Hm (hk.blk SB.out (by decide)))
  have BX:=Hm (hk.blk BX.out (by decide));have HO:=Hm ho;have HK:=Hm (HK.out.trans hk);have hB1:=qq hB HK.out.1.size;clear ho hk;refine hK.out _ _ ?_ (fun hHeld=>?_)
  ·exact cL9 BX.out
  clear hK K
  (try simp only[Act.put,qa,qb,qc,qf,qe,qd])
  refine wpAnyH_ready (rs:=[4,7]) (by kernel_rfl) (by simp) ?_;refine AllReadyH.cons rfl (fun K hK=>?_) ?_
  ·rw[if_pos (by rfl)]
   refine xA _ _ rfl B _ _ rfl HO.out [32,109,111,115,116] rfl hB1 (by(try simp only[qg,qh,qi]);omega) ?_;intro v6 w6 ho hk
   (try have SB:=Hm (hk.blk SB.out (by decide)))
   have BX:=Hm (hk.blk BX.out (by decide));have HO:=Hm ho;have HK:=Hm (HK.out.trans hk);have hB1:=qq hB HK.out.1.size;clear ho hk;refine hK.out _ _ ?_ (fun hHeld=>?_)
   ·exact cL9 BX.out
   clear hK K
   (try simp only[Act.put,qa,qb,qc,qf,qe,qd])
   refine wpAnyH_ready (rs:=[7]) (by kernel_rfl) (by simp) ?_;refine AllReadyH.cons rfl (fun K hK=>?_) ?_
   ·go_simp
    have SB:=Hm (xE HK.out (.cells #[.int .i64 i.K] 2));have HO:=Hm (zw HO.out (zd (Below.refl _ _) (.cells #[.int .i64 i.K] 2)));have HK:=Hm (HK.out.alloc hB1 (.cells #[.int .i64 i.K] 2));have BX:=Hm (zv BX.out (.cells #[.int .i64 i.K] 2));have hB1:=qq hB HK.out.1.size;refine hK.out _ _ ?_ (fun hHeld=>?_)
    ·exact cL9 BX.out
    clear hK K
    (try simp only[Act.put,qa,qb,qc,qf,qe,qd])
    refine wpAnyH_ready (rs:=[8]) (by kernel_rfl) (by simp) ?_;refine AllReadyH.cons rfl (fun K hK=>?_) ?_
    ·go_simp
     refine(yL i.K _ _ B _ _ _ _ (by omega) (by omega) SB.out HO.out hB1 (HP.out.on HK.out.1) (by(try simp only[qg,qh,qi]);omega)).mono ?_;rintro e w7 ⟨v7,rfl,ho,hk⟩;have BX:=Hm (hk.blk BX.out (by decide));have HO:=Hm ho;have HK:=Hm (HK.out.trans hk);have hB1:=qq hB HK.out.1.size;clear ho hk;refine hK.out _ _ ?_ (fun hHeld=>?_)
     ·exact cL9 BX.out
     clear hK K
     (try simp only[Act.put,qa,qb,qc,qf,qe,qd])
     refine tK 9 ?_ rfl (by kernel_rfl) (fun _ _ _ h=>h) (by rfl) ?_ (by assumption) ?_;rotate_left
     ·intro w hSw;(try dsimp only at hSw);go_simp;(try with_reducible rfl)
     rotate_left;simp only[Act.put,qa,qb,qc,qf,qe,qd];refine wpAnyH_done (by kernel_rfl) ?_ _;go_wp2;go_ret;exact⟨v7,rfl,by have z:=HO.out;simpa[ql]using z,HK.out⟩
    exact AllReadyH.nil
   exact AllReadyH.nil
  refine AllReadyH.cons rfl (fun K hK=>?_) ?_
  ·go_simp
   have SB:=Hm (xE HK.out (.cells #[.int .i64 i.K] 2));have HO:=Hm (zw HO.out (zd (Below.refl _ _) (.cells #[.int .i64 i.K] 2)));have HK:=Hm (HK.out.alloc hB1 (.cells #[.int .i64 i.K] 2));have BX:=Hm (zv BX.out (.cells #[.int .i64 i.K] 2));have hB1:=qq hB HK.out.1.size;refine hK.out _ _ ?_ (fun hHeld=>?_)
   ·exact cL9 BX.out
   clear hK K
   (try simp only[Act.put,qa,qb,qc,qf,qe,qd])
   refine wpAnyH_ready (rs:=[4]) (by kernel_rfl) (by simp) ?_;refine AllReadyH.cons rfl (fun K hK=>?_) ?_
   ·rw[if_pos (by rfl)]
    refine xA _ _ rfl B _ _ rfl HO.out [32,109,111,115,116] rfl hB1 (by(try simp only[qg,qh,qi]);omega) ?_;intro v6 w6 ho hk
    (try have SB:=Hm (hk.blk SB.out (by decide)))
    have BX:=Hm (hk.blk BX.out (by decide));have HO:=Hm ho;have HK:=Hm (HK.out.trans hk);have hB1:=qq hB HK.out.1.size;clear ho hk;refine hK.out _ _ ?_ (fun hHeld=>?_)
    ·exact cL9 BX.out
    clear hK K
    (try simp only[Act.put,qa,qb,qc,qf,qe,qd])
    refine wpAnyH_ready (rs:=[8]) (by kernel_rfl) (by simp) ?_;refine AllReadyH.cons rfl (fun K hK=>?_) ?_
    ·go_simp
     refine(yL i.K _ _ B _ _ _ _ (by omega) (by omega) SB.out HO.out hB1 (HP.out.on HK.out.1) (by(try simp only[qg,qh,qi]);omega)).mono ?_;rintro e w7 ⟨v7,rfl,ho,hk⟩;have BX:=Hm (hk.blk BX.out (by decide));have HO:=Hm ho;have HK:=Hm (HK.out.trans hk);have hB1:=qq hB HK.out.1.size;clear ho hk;refine hK.out _ _ ?_ (fun hHeld=>?_)
     ·exact cL9 BX.out
     clear hK K
     (try simp only[Act.put,qa,qb,qc,qf,qe,qd])
     refine tK 9 ?_ rfl (by kernel_rfl) (fun _ _ _ h=>h) (by rfl) ?_ (by assumption) ?_;rotate_left
     ·intro w hSw;(try dsimp only at hSw);go_simp;(try with_reducible rfl)
     rotate_left;simp only[Act.put,qa,qb,qc,qf,qe,qd];refine wpAnyH_done (by kernel_rfl) ?_ _;go_wp2;go_ret;exact⟨v7,rfl,by have z:=HO.out;simpa[ql]using z,HK.out⟩
    exact AllReadyH.nil
   exact AllReadyH.nil
  exact AllReadyH.nil
 refine AllReadyH.cons rfl (fun K hK=>?_) ?_
 ·go_simp
  have SB:=Hm (xE HK.out (.cells #[.int .i64 i.K] 2));have HO:=Hm (zw HO.out (zd (Below.refl _ _) (.cells #[.int .i64 i.K] 2)));have HK:=Hm (HK.out.alloc hB1 (.cells #[.int .i64 i.K] 2));have BX:=Hm (zv BX.out (.cells #[.int .i64 i.K] 2));have hB1:=qq hB HK.out.1.size;refine hK.out _ _ ?_ (fun hHeld=>?_)
  ·exact cL9 BX.out
  clear hK K
  (try simp only[Act.put,qa,qb,qc,qf,qe,qd])
  refine wpAnyH_ready (rs:=[3]) (by kernel_rfl) (by simp) ?_;refine AllReadyH.cons rfl (fun K hK=>?_) ?_
  ·go_simp
   refine(yK i.E l.aE i.nE l.cE B _ _ _ tE HtE.out (HI.out.on HK.out.1).now.1 (by omega) HO.out hB1 (HP.out.on HK.out.1) (by(try simp only[qg,qh,qi]);omega)).mono ?_;rintro e w5 ⟨v5,rfl,ho,hk⟩
   (try have SB:=Hm (hk.blk SB.out (by decide)))
   have BX:=Hm (hk.blk BX.out (by decide));have HO:=Hm ho;have HK:=Hm (HK.out.trans hk);have hB1:=qq hB HK.out.1.size;clear ho hk;refine hK.out _ _ ?_ (fun hHeld=>?_)
   ·exact cL9 BX.out
   clear hK K
   (try simp only[Act.put,qa,qb,qc,qf,qe,qd])
   refine wpAnyH_ready (rs:=[4]) (by kernel_rfl) (by simp) ?_;refine AllReadyH.cons rfl (fun K hK=>?_) ?_
   ·rw[if_pos (by rfl)]
    refine xA _ _ rfl B _ _ rfl HO.out [32,109,111,115,116] rfl hB1 (by(try simp only[qg,qh,qi]);omega) ?_;intro v6 w6 ho hk
    (try have SB:=Hm (hk.blk SB.out (by decide)))
    have BX:=Hm (hk.blk BX.out (by decide));have HO:=Hm ho;have HK:=Hm (HK.out.trans hk);have hB1:=qq hB HK.out.1.size;clear ho hk;refine hK.out _ _ ?_ (fun hHeld=>?_)
    ·exact cL9 BX.out
    clear hK K
    (try simp only[Act.put,qa,qb,qc,qf,qe,qd])
    refine wpAnyH_ready (rs:=[8]) (by kernel_rfl) (by simp) ?_;refine AllReadyH.cons rfl (fun K hK=>?_) ?_
    ·go_simp
     refine(yL i.K _ _ B _ _ _ _ (by omega) (by omega) SB.out HO.out hB1 (HP.out.on HK.out.1) (by(try simp only[qg,qh,qi]);omega)).mono ?_;rintro e w7 ⟨v7,rfl,ho,hk⟩;have BX:=Hm (hk.blk BX.out (by decide));have HO:=Hm ho;have HK:=Hm (HK.out.trans hk);have hB1:=qq hB HK.out.1.size;clear ho hk;refine hK.out _ _ ?_ (fun hHeld=>?_)
     ·exact cL9 BX.out
     clear hK K
     (try simp only[Act.put,qa,qb,qc,qf,qe,qd])
     refine tK 9 ?_ rfl (by kernel_rfl) (fun _ _ _ h=>h) (by rfl) ?_ (by assumption) ?_;rotate_left
     ·intro w hSw;(try dsimp only at hSw);go_simp;(try with_reducible rfl)
     rotate_left;simp only[Act.put,qa,qb,qc,qf,qe,qd];refine wpAnyH_done (by kernel_rfl) ?_ _;go_wp2;go_ret;exact⟨v7,rfl,by have z:=HO.out;simpa[ql]using z,HK.out⟩
    exact AllReadyH.nil
   exact AllReadyH.nil
  exact AllReadyH.nil
 exact AllReadyH.nil
end Go.Proofs.YtbkajklninmhiaaGreatDoor.Syn
