import Derived.Test.YtbdldkpifanaiaaDoorCr39
set_option maxHeartbeats 6400000
set_option maxRecDepth 1000000
set_option linter.unusedVariables false
set_option linter.unusedSimpArgs false
open List renaming set_cons_succ → qc, length_nil → qi, getElem?_toArray → qk, getElem?_cons_zero → ql, getElem?_cons_succ → qm
namespace Go.Proofs.YtbdldkpifanaiaaDoor.Cd
open Go Go.RowKit Mem Syn
theorem x8 (x:Is) (r:List Is):isC (x::r)=.int .i64 x.p::.int .i64 x.a::.int .i64 x.b::.int .i64 x.c::isC r:=by simp[isC,Is.cells]
theorem WL:∀(L:List Is) (i:Nat) (y:Is),((((isC L).set (i*4) (.int .i64 y.p)).set (i*4+1) (.int .i64 y.a)).set (i*4+2) (.int .i64 y.b)).set (i*4+3) (.int .i64 y.c)=isC (L.set i y)
 |[],i,y=>by simp[isC]
 |x::r,0,y=>by simp[x8]
 |x::r,i+1,y=>by
  have ih:=WL r i y;rw[x8,qc,x8];rw[show(i+1)*4=i*4+1+1+1+1 by omega,show i*4+1+1+1+1+1=(i*4+1)+1+1+1+1 by omega,show i*4+1+1+1+1+2=(i*4+2)+1+1+1+1 by omega,show i*4+1+1+1+1+3=(i*4+3)+1+1+1+1 by omega];simp only[qc];rw[ih]
theorem take_set (l:List Value) (n i:Nat) (v:Value):(l.set i v).take n=(l.take n).set i v:=by
 rw[List.take_set]
theorem OI.setAt {B g n c i:Nat} {w:World} {L:List Is} (h:OI B w (.slice (some ⟨g,0,Option.none⟩) n c) L) (y:Is):
  OI B ((((w.setCell ⟨g,i*4,Option.none⟩ (.int .i64 y.p)).setCell ⟨g,i*4+1,Option.none⟩ (.int .i64 y.a)).setCell ⟨g,i*4+2,Option.none⟩ (.int .i64 y.b)).setCell ⟨g,i*4+3,Option.none⟩ (.int .i64 y.c)) (.slice (some ⟨g,0,Option.none⟩) n c) (L.set i y):=by
 have hl:(L.set i y).length=L.length:=List.length_set;refine⟨by rw[xO],?_⟩;rcases h.2 with⟨h1,h2⟩|⟨g',cap,cur,h1,h2,h3,h4,h5,h6,h7⟩
 ·cases h1
 ·have e1:=h1
  injection h1 with q1 q2 q3;injection q1 with q1;injection q1 with q1;subst q1;rw[hl];refine Or.inr ⟨g,cap,(((cur.setIfInBounds (i*4) (.int .i64 y.p)).setIfInBounds (i*4+1) (.int .i64 y.a)).setIfInBounds (i*4+2) (.int .i64 y.b)).setIfInBounds (i*4+3) (.int .i64 y.c),e1,h2,?_,h4,h5,by simpa using h6,?_⟩
  ·exact zk (zk (zk (zk h3 _ _) _ _) _ _) _ _
  ·simp only[Array.toList_setIfInBounds,List.take_set]
   rw[h7];exact WL L i y
end Go.Proofs.YtbdldkpifanaiaaDoor.Cd
namespace Go.Proofs.YtbdldkpifanaiaaDoor.Cd
open Go Go.RowKit Mem Syn Par Dq Draw
attribute [local go_sem ↓] Go.wp_at_zero Go.wp_at_succ
variable {B g:Nat} {w0 w w':World} {bs:List UInt8} {D:Sr} {s s':DS} {x0:Nat} {cs0:Array Value}
theorem OI.setOth {B':Nat} {v:Value} {L:List Is} (h:OI B' w v L) {x i:Nat} {u:Value} (hne:∀y,v.ownBlock=some y→y≠x):OI B' (w.setCell ⟨x,i,Option.none⟩ u) v L:=by
 refine⟨h.1,?_⟩;rcases h.2 with h0|⟨y,cap,cur,h1,h2,h3,h4⟩
 ·exact Or.inl h0
 ·exact Or.inr ⟨y,cap,cur,h1,h2,zd h3 (hne y (by rw[h1];rfl)) _,h4⟩
theorem Um:∀(L:List Is) (i:Nat),i<L.length→(isC L)[i*4]? =some (.int .i64 (L.getD i ⟨0,0,0,0⟩).p)∧(isC L)[i*4+1]? =some (.int .i64 (L.getD i ⟨0,0,0,0⟩).a)∧(isC L)[i*4+2]? =some (.int .i64 (L.getD i ⟨0,0,0,0⟩).b)∧(isC L)[i*4+3]? =some (.int .i64 (L.getD i ⟨0,0,0,0⟩).c)
 |[],i,h=>by cases h
 |x::r,0,h=>by simp[x8]
 |x::r,i+1,h=>by
  have ih:=Um r i (by simpa using h);rw[x8];rw[show(i+1)*4=i*4+1+1+1+1 by omega,show i*4+1+1+1+1+1=(i*4+1)+1+1+1+1 by omega,show i*4+1+1+1+1+2=(i*4+2)+1+1+1+1 by omega,show i*4+1+1+1+1+3=(i*4+3)+1+1+1+1 by omega];simp only[qm,List.getD_cons_succ];exact ih
theorem OI.own_le {B' x c n:Nat} {L:List Is} (h:OI B' w (.slice (some ⟨x,0,Option.none⟩) n c) L):B'≤x:=by
 rcases h.2 with⟨h1,h2⟩|⟨g',cap,cur,h1,h2,h3,h4,h5,h6,h7⟩
 ·cases h1
 ·injection h1 with q1 q2 q3
  injection q1 with q1;injection q1 with q1;subst q1;exact h2
theorem OI.own_lt {B':Nat} {v:Value} {L:List Is} (h:OI B' w v L):∀z,v.ownBlock=some z→z<w.heap.size:=by
 intro z hz;rcases h.2 with⟨h1,h2⟩|⟨g',cap,cur,h1,h2,h3,h4⟩
 ·rw[h1]at hz;cases hz
 ·rw[h1]at hz
  have hz':some g'=some z:=hz;injection hz' with hz';rw[←hz'];exact zu h3
theorem zJ {B' x c n:Nat} {L:List Is} (h:OI B' w (.slice (some ⟨x,0,Option.none⟩) n c) L) (q:Nat):w.frozen? ⟨x,q,Option.none⟩=false:=by
 rcases h.2 with⟨h1,h2⟩|⟨g',cap,cur,h1,h2,h3,h4,h5,h6,h7⟩
 ·cases h1
 ·injection h1 with q1 q2 q3
  injection q1 with q1;injection q1 with q1;subst q1;exact zb h3 q
theorem zX {B' n c i:Nat} {a:Option Addr} {L:List Is} (h:OI B' w (.slice a n c) L) (hi:i<L.length):∃gb,a=some ⟨gb,0,Option.none⟩∧w.cell? ⟨gb,i*4,Option.none⟩=some (.int .i64 (L.getD i ⟨0,0,0,0⟩).p)∧w.cell? ⟨gb,i*4+1,Option.none⟩=some (.int .i64 (L.getD i ⟨0,0,0,0⟩).a)∧w.cell? ⟨gb,i*4+2,Option.none⟩=some (.int .i64 (L.getD i ⟨0,0,0,0⟩).b)∧w.cell? ⟨gb,i*4+3,Option.none⟩=some (.int .i64 (L.getD i ⟨0,0,0,0⟩).c):=by
 rcases h.2 with⟨h1,h2⟩|⟨g',cap,cur,h1,h2,h3,h4,h5,h6,h7⟩
 ·have hl:=xO L
  omega
 ·injection h1 with q1 q2 q3
  have hr:=h.rd;obtain⟨a',c',e1,e2,e3⟩:=hr;injection e1 with p1 p2 p3;subst p1;rcases e3 with⟨n1,n2,n3⟩|⟨g2,off,n1,n2⟩
  ·rw[n3]at hi;cases hi
  ·rw[q1]at n1
   injection n1 with n1;injection n1 with n1 n1';subst n1;subst n1';have hc:=Um L i hi;refine⟨g',q1,?_,?_,?_,?_⟩
   ·have:=n2 _ _ hc.1;rwa[Nat.zero_add]at this
   ·have:=n2 _ _ hc.2.1;rwa[Nat.zero_add]at this
   ·have:=n2 _ _ hc.2.2.1;rwa[Nat.zero_add]at this
   ·have:=n2 _ _ hc.2.2.2;rwa[Nat.zero_add]at this
theorem spl5 (K:Kd) (v1 v2 v3:Value) (C0:Cu B g w0 w bs D s) (hq0:w0.heap.size≤x0) (hql:w.heap[x0]? =some (.cells cs0 25)) (h1:OI w0.heap.size w v1 K.L1) (h2:OI w0.heap.size w v2 K.L2) (h3:OI w0.heap.size w v3 K.L3) (hk:D.bel s 14=(5,s')) (hl2:K.L2.length≤1000000):
  Calls Tryd.prog 29 #[.pointer (some ⟨g,0,none⟩),.agg #[.int .i64 K.R,.int .i64 K.S,v1,v2,v3]] w (SplP B g w0 bs D x0 cs0 (zZ D K s)):=by
 obtain⟨R,S,L1,L2,L3⟩:=K;dsimp only at h1 h2 h3 hl2 ⊢;obtain⟨a1,c1,rfl⟩:=h1.shape;obtain⟨a2,c2,rfl⟩:=h2.shape;obtain⟨a3,c3,rfl⟩:=h3.shape;obtain⟨n1,hn1⟩:∃n,n=L1.length:=⟨_,rfl⟩;obtain⟨n2,hn2⟩:∃n,n=L2.length:=⟨_,rfl⟩;obtain⟨n3,hn3⟩:∃n,n=L3.length:=⟨_,rfl⟩;rw[←hn1]at h1 ⊢;rw[←hn2]at h2 ⊢;rw[←hn3]at h3 ⊢;have HK:=Hm hk;have HLL:=Hm hl2;clear hl2;have hws:=C0.size;have hqn:=zu hql;obtain⟨W1,hW1⟩:∃W,W=(w.alloc (.cells #[.int .i64 R,.int .i64 S,.slice a1 n1 c1,.slice a2 n2 c2,.slice a3 n3 c3] 25)).alloc (.cells #[.int .i64 0,.int .i64 0,.slice none 0 0,.slice none 0 0,.slice none 0 0] 25):=⟨_,rfl⟩;have bw:Below w.heap.size w W1:=by rw[hW1];exact zf (zf (Below.refl _ _) _) _
 have X1:Hid (W1.heap[w.heap.size]? =some (.cells #[.int .i64 R,.int .i64 S,.slice a1 n1 c1,.slice a2 n2 c2,.slice a3 n3 c3] 25)):=by rw[hW1];exact zh (zi _ _) _
 have Y1:Hid (W1.heap[w.heap.size+1]? =some (.cells #[.int .i64 0,.int .i64 0,.slice none 0 0,.slice none 0 0,.slice none 0 0] 25)):=by rw[hW1];exact zx _ _ _
 have Q1:Hid (W1.heap[x0]? =some (.cells cs0 25)):=by rw[hW1];exact zh (zh hql _) _
 have C1:=Hm (C0.below bw);have O1:=Hm (h1.kept bw);have O2:=Hm (h2.kept bw);have O3:=Hm (h3.kept bw);have HN:=Hm (And.intro hn1 (And.intro hn2 hn3));clear h1 h2 h3 bw C0 hk hql hn1 hn2 hn3;obtain⟨RR,hRR⟩:∃r,r=zZ D ⟨R,S,L1,L2,L3⟩ s:=⟨_,rfl⟩;rw[←hRR];have HRR:=Hm hRR;clear hRR;go_enter Tryd.func29,Tryd.ntmps29;go_upto_region 1 with fail;rw[←hW1];clear hW1;go_wp2_with (go_at_call 22;refine(zQ C1.out 14 (by omega) (by omega)).mono ?_);rintro e w2 ⟨k,s1,hx,-,rfl,hc,hgb⟩;rw[HK.out]at hx;obtain⟨rfl,rfl⟩:=Prod.mk.inj hx;have X2:=Hm (Cu.blk C1.out (by omega) X1.out hgb);have Y2:=Hm (Cu.blk C1.out (by omega) Y1.out hgb);have Q2:=Hm (Cu.blk C1.out (by omega) Q1.out hgb);have O1:=Hm (OI.cur O1.out C1.out hgb);have O2:=Hm (OI.cur O2.out C1.out hgb)
 have O3:=Hm (OI.cur O3.out C1.out hgb);have C2:=Hm hc;clear hc hgb hx C1 X1 Y1 Q1;refine Hid.out ?_;refine Lib.hid ?_;have HL2:n2≤1000000:=by rw[HN.out.2.1];exact HLL.out
 have e3:=za (zh X2.out (.cells #[] 60)) 3;simp only[qk,ql,qm]at e3;have hz2:=C2.out.size;have bn:Below w2.heap.size w2 (w2.alloc (.cells #[] 60)):=zf (Below.refl _ _) _;have ON:Hid (OI w0.heap.size (w2.alloc (.cells #[] 60)) (.slice (some ⟨w2.heap.size,0,none⟩) 0 0) []):=(OI.nil w2).mono hz2;have RS:=Hm (O2.out.rd.below bn);have hxw:w.heap.size+1<w2.heap.size:=zu Y2.out;have hsL:([]:List Is).length+L2.length≤10000000:=by have:=HLL.out;simp only[qi];omega
 have hsB:w0.heap.size≤(w2.alloc (.cells #[] 60)).heap.size:=by simp;omega
 clear bn;go_wp2_with (at_builtin;refine z7 rfl _ _ rfl w0.heap.size _ _ _ _ rfl ON.out rfl RS.out hsL hsB ?_);intro v6 w6 ho6 hg6 hb6;have hza:(w2.alloc (.cells #[] 60)).heap.size=w2.heap.size+1:=by simp
 rw[←hza]at hb6;have X6:=Hm (zl hg6 ON.out (zh X2.out (.cells #[] 60)) (by decide));have Y6:=Hm (zl hg6 ON.out (zh Y2.out (.cells #[] 60)) (by decide));have Q6:=Hm (zl hg6 ON.out (zh Q2.out (.cells #[] 60)) (by decide));have bn:Below w2.heap.size w2 (w2.alloc (.cells #[] 60)):=zf (Below.refl _ _) _;have A1:=Hm ((Apt.new O1.out (OI.nil w2)).app (O1.out.kept bn) hb6);have A2:=Hm ((Apt.new O2.out (OI.nil w2)).app (O2.out.kept bn) hb6);have A3:=Hm ((Apt.new O3.out (OI.nil w2)).app (O3.out.kept bn) hb6);have O1:=Hm ((O1.out.kept bn).keepA ON.out (Apt.new O1.out (OI.nil w2)) hg6);have O2:=Hm ((O2.out.kept bn).keepA ON.out (Apt.new O2.out (OI.nil w2)) hg6);have O3:=Hm ((O3.out.kept bn).keepA ON.out (Apt.new O3.out (OI.nil w2)) hg6)
 have C6:=Hm (Cu.app (C2.out.al (.cells #[] 60)) ON.out (by decide) hg6);obtain⟨a6,c6,hv6⟩:=ho6.shape;rw[←HN.out.2.1]at hv6;subst hv6
 have hgb6:Hid (∀y,(Value.slice a6 n2 c6).ownBlock=some y→w.heap.size+1<y):=fun y hy=>by
  rcases hb6 with h|h
  ·rw[h]at hy
   have hy':some w2.heap.size=some y:=hy;injection hy' with hy';omega
  ·rw[h,hza]at hy
   injection hy with hy;omega
 have O6:=Hm ho6;clear hza hsL hsB bn ho6 hg6 hb6 ON RS e3 C2 X2 Y2 Q2;refine Hid.out ?_;refine Lib.hid ?_;by_cases hn0:n2=0
 ·have f0:((n2:Int)==0)=true:=by simp[hn0]
  have HFIN:Hid (RR=(⟨R,S,L1,L2,L3⟩,s')):=by unfold Hid;rw[HRR.out];simp only[zZ,HK.out];simp[←HN.out.2.1,hn0]
  clear hn0;have e0:=za X6.out 0;have e1:=za X6.out 1;have e2:=za X6.out 2;have e3:=za X6.out 3;have e4:=za X6.out 4;have g0:=za Y6.out 0;have g1:=za Y6.out 1;have g2:=za Y6.out 2;have g3:=za Y6.out 3;have g4:=za Y6.out 4;have f0:=zb Y6.out 0;have f1:=zb Y6.out 1;have f2:=zb Y6.out 2;have f3:=zb Y6.out 3;have f4:=zb Y6.out 4;simp only[qk,ql,qm]at e0 e1 e2 e3 e4 g0 g1 g2 g3 g4;go_wp2;obtain⟨Z,hZ,RZ,CZ,OZ⟩:=zN Y6.out (.int .i64 (R)) (.int .i64 (S)) (.slice a1 n1 c1) (.slice a2 n2 c2) (.slice a3 n3 c3) C6.out (by omega);rw[hZ];have z0:=za RZ 0;have z1:=za RZ 1;have z2:=za RZ 2;have z3:=za RZ 3;have z4:=za RZ 4
  simp only[qk,ql,qm]at z0 z1 z2 z3 z4;refine bodyPost_ret (v:=.agg #[.int .i64 (R),.int .i64 (S),.slice a1 n1 c1,.slice a2 n2 c2,.slice a3 n3 c3]) (by simp[results,Tryd.results29,go_sem,z0,z1,z2,z3,z4];try rfl) rfl ?_;rw[HFIN.out];exact .mk _ _ _ rfl (OZ _ _ _ O1.out) (OZ _ _ _ O2.out) (OZ _ _ _ O3.out) CZ (by rw[←hZ];exact zd (zd (zd (zd (zd Q6.out (show x0≠w.heap.size+1 by omega) _) (show x0≠w.heap.size+1 by omega) _) (show x0≠w.heap.size+1 by omega) _) (show x0≠w.heap.size+1 by omega) _) (show x0≠w.heap.size+1 by omega) _)
 ·have f0:((n2:Int)==0)=false:=by simp;omega
  have hn1:(n2:Int)≤1000000:=by omega
  go_wp2_with (go_at_call 22;refine(zQ C6.out n2 (by omega) (by omega)).mono ?_);rintro e w7 ⟨i,s2,hx,hi,rfl,hc,hgb⟩;have X7:=Hm (Cu.blk C6.out (by omega) X6.out hgb);have Y7:=Hm (Cu.blk C6.out (by omega) Y6.out hgb);have Q7:=Hm (Cu.blk C6.out (by omega) Q6.out hgb);have O1:=Hm (OI.cur O1.out C6.out hgb);have O3:=Hm (OI.cur O3.out C6.out hgb);have O7:=Hm (OI.cur O6.out C6.out hgb);have C7:=Hm hc;have HI:=Hm hx;clear hc hgb hx C6 X6 Y6 Q6 O6 O2;refine Hid.out ?_;refine Lib.hid ?_;obtain⟨gb,hgb,b0,b1,b2,b3⟩:=zX O7.out (by rw[←HN.out.2.1];exact hi);subst hgb;have hgb7:=hgb6.out gb rfl;clear hgb6;obtain⟨y,hy⟩:∃y,y=L2.getD i ⟨0,0,0,0⟩:=⟨_,rfl⟩;rw[←hy]at b0 b1 b2 b3;have HY:=Hm hy;clear hy;have hi0:(0:Int)≤(i:Int):=by omega
  have hi1:(i:Int)<(n2:Int):=by omega
  go_upto_region 40 with fail;obtain⟨w8,hw8⟩:∃W,W=w7.alloc (.cells #[.int .i64 (y.p),.int .i64 (wrap64 (y.a+1)),.int .i64 (y.b),.int .i64 (y.c)] 60):=⟨_,rfl⟩;rw[←hw8];have bn:Below w7.heap.size w7 w8:=by rw[hw8];exact zf (Below.refl _ _) _
  have YB:Hid (w8.heap[w7.heap.size]? =some (.cells #[.int .i64 (y.p),.int .i64 (wrap64 (y.a+1)),.int .i64 (y.b),.int .i64 (y.c)] 60)):=by unfold Hid;rw[hw8];exact zi _ _
  have QB:Hid (w8.heap[w7.heap.size]? =some (.cells #[.int .i64 (y.p),.int .i64 (wrap64 (y.a+1)),.int .i64 (y.b),.int .i64 (y.c)] 60)):=by unfold Hid;rw[hw8];exact zi _ _
  have X8:=Hm (ze X7.out bn);have Y8:=Hm (ze Y7.out bn);have Q8:=Hm (ze Q7.out bn);have C8:=Hm (C7.out.below bn);have O1:=Hm (O1.out.kept bn);have O3:=Hm (O3.out.kept bn);have O8:=Hm (O7.out.kept bn);clear bn hw8 X7 Y7 Q7 C7 O7 b0 b1 b2 b3;have hiL:i<L2.length:=by rw[←HN.out.2.1];exact hi
  obtain⟨gb',hg',d0,d1,d2,d3⟩:=zX O8.out hiL;injection hg' with hg';injection hg' with hg';subst hg';have hgB:=OI.own_le O8.out;have y0:=za YB.out 0;have y1:=za YB.out 1;have y2:=za YB.out 2;have y3:=za YB.out 3;simp only[qk,ql,qm]at y0 y1 y2 y3;have r0:=zJ O8.out (i*4);have r1:=zJ O8.out (i*4+1);have r2:=zJ O8.out (i*4+2);have r3:=zJ O8.out (i*4+3);go_upto_region 41 with fail;obtain⟨w9,hw9⟩:∃W,W=(((w8.setCell ⟨gb,i*4,none⟩ (.int .i64 (y.p))).setCell ⟨gb,i*4+1,none⟩ (.int .i64 (wrap64 (y.a+1)))).setCell ⟨gb,i*4+2,none⟩ (.int .i64 (y.b))).setCell ⟨gb,i*4+3,none⟩ (.int .i64 (y.c)):=⟨_,rfl⟩;rw[←hw9]
  have X9:Hid (w9.heap[w.heap.size]? =some (.cells #[.int .i64 R,.int .i64 S,.slice a1 n1 c1,.slice a2 n2 c2,.slice a3 n3 c3] 25)):=by
   have hne:w.heap.size≠gb:=by omega
   unfold Hid;rw[hw9];exact zd (zd (zd (zd X8.out hne _) hne _) hne _) hne _
  have Y9:Hid (w9.heap[w.heap.size+1]? =some (.cells #[.int .i64 0,.int .i64 0,.slice none 0 0,.slice none 0 0,.slice none 0 0] 25)):=by
   have hne:w.heap.size+1≠gb:=by omega
   unfold Hid;rw[hw9];exact zd (zd (zd (zd Y8.out hne _) hne _) hne _) hne _
  have Q9:Hid (w9.heap[x0]? =some (.cells cs0 25)):=by
   have hne:x0≠gb:=by omega
   unfold Hid;rw[hw9];exact zd (zd (zd (zd Q8.out hne _) hne _) hne _) hne _
  have C9:Hid (Cu B g w0 w9 bs D s2):=by rw[hw9];exact Cu.set (Cu.set (Cu.set (Cu.set C8.out hgB) hgB) hgB) hgB
  have O9:Hid (OI w0.heap.size w9 (.slice (some ⟨gb,0,none⟩) n2 c6) (L2.set i ⟨y.p,wrap64 (y.a+1),y.b,y.c⟩)):=by rw[hw9];exact OI.setAt O8.out ⟨y.p,wrap64 (y.a+1),y.b,y.c⟩
  have O1:Hid (OI w0.heap.size w9 (.slice a1 n1 c1) L1):=by
   have hne:∀z,(Value.slice a1 n1 c1).ownBlock=some z→z≠gb:=fun z hz h=>A1.out z hz (by rw[h];rfl)
   rw[hw9];exact(((O1.out.setOth hne).setOth hne).setOth hne).setOth hne
  have O3:Hid (OI w0.heap.size w9 (.slice a3 n3 c3) L3):=by
   have hne:∀z,(Value.slice a3 n3 c3).ownBlock=some z→z≠gb:=fun z hz h=>A3.out z hz (by rw[h];rfl)
   rw[hw9];exact(((O3.out.setOth hne).setOth hne).setOth hne).setOth hne
  clear hw9 X8 Y8 Q8 C8 O8 YB QB y0 y1 y2 y3 r0 r1 r2 r3 d0 d1 d2 d3;have e3:=za X9.out 3;simp only[qk,ql,qm]at e3;have r3:=zb X9.out 3;go_upto_region 42 with fail;obtain⟨Z1,hZ1⟩:∃Z,Z=w9.setCell ⟨w.heap.size,3,none⟩ (.slice (some ⟨gb,0,none⟩) n2 c6):=⟨_,rfl⟩;rw[←hZ1];have X3:Hid (Z1.heap[w.heap.size]? =some (.cells #[.int .i64 R,.int .i64 S,.slice a1 n1 c1,.slice (some ⟨gb,0,none⟩) n2 c6,.slice a3 n3 c3] 25)):=by unfold Hid;rw[hZ1];have:=zk X9.out 3 (.slice (some ⟨gb,0,none⟩) n2 c6);simpa using this
  have Y3:Hid (Z1.heap[w.heap.size+1]? =some (.cells #[.int .i64 0,.int .i64 0,.slice none 0 0,.slice none 0 0,.slice none 0 0] 25)):=by rw[hZ1];exact zd Y9.out (show w.heap.size+1≠w.heap.size by omega) _
  have Q3:Hid (Z1.heap[x0]? =some (.cells cs0 25)):=by rw[hZ1];exact zd Q9.out (show x0≠w.heap.size by omega) _
  have C3:Hid (Cu B g w0 Z1 bs D s2):=by rw[hZ1];exact Cu.set C9.out (by omega)
  have OA:Hid (OI w0.heap.size Z1 (.slice a1 n1 c1) L1):=by rw[hZ1];exact zo O1.out X9.out (by decide)
  have OB:Hid (OI w0.heap.size Z1 (.slice (some ⟨gb,0,none⟩) n2 c6) (L2.set i ⟨y.p,wrap64 (y.a+1),y.b,y.c⟩)):=by rw[hZ1];exact zo O9.out X9.out (by decide)
  have O3:Hid (OI w0.heap.size Z1 (.slice a3 n3 c3) L3):=by rw[hZ1];exact zo O3.out X9.out (by decide)
  clear hZ1 e3 r3 X9 Y9 Q9 C9 O9 O1
  have HFIN:Hid (RR=(⟨R,S,L1,L2.set i ⟨y.p,wrap64 (y.a+1),y.b,y.c⟩,L3⟩,s2)):=by
   unfold Hid;rw[HRR.out];simp only[zZ,HK.out];have hl:=HN.out.2.1;simp only[←hl,HI.out,←HY.out];simp[Ya,hn0]
  have e0:=za X3.out 0;have e1:=za X3.out 1;have e2:=za X3.out 2;have e3:=za X3.out 3;have e4:=za X3.out 4;have g0:=za Y3.out 0;have g1:=za Y3.out 1;have g2:=za Y3.out 2;have g3:=za Y3.out 3;have g4:=za Y3.out 4;have f0:=zb Y3.out 0;have f1:=zb Y3.out 1;have f2:=zb Y3.out 2;have f3:=zb Y3.out 3;have f4:=zb Y3.out 4;simp only[qk,ql,qm]at e0 e1 e2 e3 e4 g0 g1 g2 g3 g4;go_wp2;obtain⟨Z,hZ,RZ,CZ,OZ⟩:=zN Y3.out (.int .i64 (R)) (.int .i64 (S)) (.slice a1 n1 c1) (.slice (some ⟨gb,0,none⟩) n2 c6) (.slice a3 n3 c3) C3.out (by omega);rw[hZ];have z0:=za RZ 0;have z1:=za RZ 1;have z2:=za RZ 2;have z3:=za RZ 3;have z4:=za RZ 4
  simp only[qk,ql,qm]at z0 z1 z2 z3 z4;refine bodyPost_ret (v:=.agg #[.int .i64 (R),.int .i64 (S),.slice a1 n1 c1,.slice (some ⟨gb,0,none⟩) n2 c6,.slice a3 n3 c3]) (by simp[results,Tryd.results29,go_sem,z0,z1,z2,z3,z4];try rfl) rfl ?_;rw[HFIN.out];exact .mk _ _ _ rfl (OZ _ _ _ OA.out) (OZ _ _ _ OB.out) (OZ _ _ _ O3.out) CZ (by rw[←hZ];exact zd (zd (zd (zd (zd Q3.out (show x0≠w.heap.size+1 by omega) _) (show x0≠w.heap.size+1 by omega) _) (show x0≠w.heap.size+1 by omega) _) (show x0≠w.heap.size+1 by omega) _) (show x0≠w.heap.size+1 by omega) _)
end Go.Proofs.YtbdldkpifanaiaaDoor.Cd
