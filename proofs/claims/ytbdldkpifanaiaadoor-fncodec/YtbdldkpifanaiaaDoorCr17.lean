import Derived.Test.YtbdldkpifanaiaaDoorCr16
set_option maxHeartbeats 3200000
set_option maxRecDepth 100000
set_option linter.unusedVariables false
set_option linter.unusedSimpArgs false
open List renaming setIfInBounds_toArray → qa, set_cons_zero → qb, set_cons_succ → qc, getElem_cons_succ → qd, getElem_cons_zero → qe, getElem_toArray → qf, length_append → qg, length_cons → qh, append_assoc → qj
open Nat renaming le_refl → qn, le_trans → qo
namespace Go.Proofs.YtbdldkpifanaiaaDoor.Dec
open Go Go.RowKit Mem ValC Enc
attribute [local go_sem ↓] Go.wp_at_zero Go.wp_at_succ
theorem insS (p a b c:Int) (w:World):Calls Tryd.prog 39 #[.int .i64 p,.int .i64 a,.int .i64 b,.int .i64 c] w fun e w'=>e=.returned (.agg #[.int .i64 p,.int .i64 a,.int .i64 b,.int .i64 c])∧Below w.heap.size w w':=by
 go_enter Tryd.func39,Tryd.ntmps39;go_wp2;go_returns;exact⟨rfl,by go_grown⟩
theorem Wh (L:List Is) (k:Nat) (hlt:k<L.length):(L.take (k+1)).flatMap Is.cells=(L.take k).flatMap Is.cells++(L.getD k ⟨0,0,0,0⟩).cells:=by
 have:L.take (k+1)=L.take k++[L.getD k ⟨0,0,0,0⟩]:=by
  rw[List.take_add_one,List.getElem?_eq_getElem hlt]
  congr 1
  simp[List.getD,List.getElem?_eq_getElem hlt]
 rw[this,List.flatMap_append];simp
theorem Vw (q j:Nat) (h:q+j≤1000000):IntKind.i64.wrap ((q:Int)+(j:Int))=((q+j:Nat):Int):=by
 rw[IntKind.wrap_i64];omega
theorem yJ (L:List Is) (N:Nat) (a:Option Addr) (c:Nat) (w:World) (hN:N=4*L.length) (hs:zq w a L.length 4 (fun i=>(L.getD i ⟨0,0,0,0⟩).cells)) (hl:L.length≤16384):
  Calls Tryd.prog 25 #[.slice a N c] w fun e w'=>∃v,e=.returned v∧w'.ownsRow w.heap.size 60 4 v L.length (L.flatMap Is.cells)∧Below w.heap.size w w':=by
 obtain⟨i0,hi,hz0,hz1,hz2⟩:=info_parts WM;have HS:=Hm hs;clear hs;go_enter Tryd.func25,Tryd.ntmps25;go_wp2;go_loopw [3,4] (fun v i wr=>∃k q:Nat,k≤L.length∧Hid (q=4*k)∧i=.int .i64 (q:Int)∧Hid (wr.ownsRow w.heap.size 60 4 v k ((L.take k).flatMap Is.cells))∧Hid (Below w.heap.size w wr)) (fun _ i _=>N- (intOf i).toNat)
 case atStart=>
  refine⟨0,0,Nat.zero_le _,rfl,rfl,?_,?_⟩
  ·exact World.ownsRow_made w (base:=w.heap.size) (e:=60) (size:=4) #[] 0 (by simp) (by unfold maxLen;omega) (by simp)
  ·unfold Hid;go_grown
 case round=>
  obtain⟨k,q,hk,hq,rfl,ho,hb⟩:=hrel;have hqv:=hq.out;have hqb:q≤65536:=by omega
  have hNb:N≤65536:=by omega
  have hsz:=hb.out.size;obtain⟨an,cn,hv⟩:=zF ho.out;rw[hv]at ho ⊢;clear hv;by_cases hlt:k<L.length
  ·rcases HS.out with h0|⟨g,off,rfl,h0⟩
   ·omega
   obtain⟨c0,c1,c2,c3⟩:=Is.at (h0 k hlt);clear h0;obtain⟨x,hx⟩:∃x,x=L.getD k ⟨0,0,0,0⟩:=⟨_,rfl⟩;rw[←hx]at c0 c1 c2 c3
   have hst:Hid ((L.take (k+1)).flatMap Is.cells=(L.take k).flatMap Is.cells++x.cells):=by
    unfold Hid;rw[hx];exact Wh L k hlt
   clear hx;rw[show off+k*4=off+q by omega]at c0;obtain⟨q1,hq1⟩:∃q1,q1=q+1:=⟨_,rfl⟩;obtain⟨q2,hq2⟩:∃q2,q2=q+2:=⟨_,rfl⟩;obtain⟨q3,hq3⟩:∃q3,q3=q+3:=⟨_,rfl⟩;rw[show off+k*4+1=off+q1 by omega]at c1;rw[show off+k*4+2=off+q2 by omega]at c2;rw[show off+k*4+3=off+q3 by omega]at c3;have s1:IntKind.i64.wrap ((q:Int)+1)=(q1:Int):=by rw[hq1];exact Vw q 1 (by omega)
   have s2:IntKind.i64.wrap ((q:Int)+2)=(q2:Int):=by rw[hq2];exact Vw q 2 (by omega)
   have s3:IntKind.i64.wrap ((q:Int)+3)=(q3:Int):=by rw[hq3];exact Vw q 3 (by omega)
   have KC:=Hm (And.intro c0 (And.intro c1 (And.intro c2 c3)));have e0:=zw hb.out c0;have e1:=zw hb.out c1;have e2:=zw hb.out c2;have e3:=zw hb.out c3;have u0:(0:Int)≤(q:Int):=by omega
   have u4:(q:Int)+4≤(N:Int):=by omega
   have v0:(q:Int)<(N:Int):=by omega
   have v1:(q1:Int)<(N:Int):=by omega
   have v2:(q2:Int)<(N:Int):=by omega
   have v3:(q3:Int)<(N:Int):=by omega
   have x1:(0:Int)≤(q1:Int):=by omega
   have y1:q1<N:=by omega
   have x2:(0:Int)≤(q2:Int):=by omega
   have y2:q2<N:=by omega
   have x3:(0:Int)≤(q3:Int):=by omega
   have y3:q3<N:=by omega
   have hqN:q+4≤N:=by omega
   have HNN:=Hm hN;have HQ:=Hm hqv;clear hqv c0 c1 c2 c3 hN hq1 hq2 hq3;go_upto_region 5 with fail;refine wp_region_held_drew (S:=(fun w'=>w'.cell? ⟨g,off+q,none⟩=some (.int .i64 x.p)∧w'.cell? ⟨g,off+q1,none⟩=some (.int .i64 x.a)∧w'.cell? ⟨g,off+q2,none⟩=some (.int .i64 x.b)∧w'.cell? ⟨g,off+q3,none⟩=some (.int .i64 x.c))) (by kernel_rfl) ?_ (fun hHeld=>?_)
   ·go_keep
   refine tK 0 ?_ rfl (by kernel_rfl) (fun _ _ _ h=>h) (by rfl) ?_ (by assumption) ?_;rotate_left
   ·intro w hSw;(try dsimp only at hSw);go_simp;(try with_reducible rfl)
   rotate_left;simp only[Act.put,qa,qb,qc,qf,qe,qd];refine tK 1 ?_ rfl (by kernel_rfl) (fun _ _ _ h=>h) (by rfl) ?_ (by assumption) ?_;rotate_left
   ·intro w hSw;(try dsimp only at hSw);go_simp;(try with_reducible rfl)
   rotate_left;simp only[Act.put,qa,qb,qc,qf,qe,qd];refine tK 2 ?_ rfl (by kernel_rfl) (fun _ _ _ h=>h) (by rfl) ?_ (by assumption) ?_;rotate_left
   ·intro w hSw;(try dsimp only at hSw);go_simp;(try with_reducible rfl)
   rotate_left;simp only[Act.put,qa,qb,qc,qf,qe,qd];refine tK 3 ?_ rfl (by kernel_rfl) (fun _ _ _ h=>h) (by rfl) ?_ (by assumption) ?_;rotate_left
   ·intro w hSw;(try dsimp only at hSw);go_simp;(try with_reducible rfl)
   rotate_left;simp only[Act.put,qa,qb,qc,qf,qe,qd];refine tK 4 ?_ rfl (by kernel_rfl) (fun _ _ _ h=>h) (by rfl) ?_ (by assumption) ?_;rotate_left
   ·intro w hSw;(try dsimp only at hSw);go_simp;(try with_reducible rfl)
   rotate_left;simp only[Act.put,qa,qb,qc,qf,qe,qd];refine tK 5 ?_ rfl (by kernel_rfl) (fun _ _ _ h=>h) (by rfl) ?_ (by assumption) ?_;rotate_left
   ·intro w hSw;(try dsimp only at hSw);go_simp;(try with_reducible rfl)
   rotate_left;simp only[Act.put,qa,qb,qc,qf,qe,qd];refine tK 6 ?_ rfl (by kernel_rfl) (fun _ _ _ h=>h) (by rfl) ?_ (by assumption) ?_;rotate_left
   ·intro w hSw;(try dsimp only at hSw);go_simp;(try with_reducible rfl)
   rotate_left;simp only[Act.put,qa,qb,qc,qf,qe,qd];refine tK 7 ?_ rfl (by kernel_rfl) (fun _ _ _ h=>h) (by rfl) ?_ (by assumption) ?_;rotate_left
   ·intro w hSw;(try dsimp only at hSw);go_simp;(try with_reducible rfl)
   rotate_left;simp only[Act.put,qa,qb,qc,qf,qe,qd];refine tK 8 ?_ rfl (by kernel_rfl) (fun _ _ _ h=>h) (by rfl) ?_ (by assumption) ?_;rotate_left
   ·intro w hSw;(try dsimp only at hSw);go_simp;(try with_reducible rfl)
   rotate_left;simp only[Act.put,qa,qb,qc,qf,qe,qd];refine tK 9 ?_ rfl (by kernel_rfl) (fun _ _ _ h=>h) (by rfl) ?_ (by assumption) ?_;rotate_left
   ·intro w hSw;(try dsimp only at hSw);go_simp;(try with_reducible rfl)
   rotate_left;simp only[Act.put,qa,qb,qc,qf,qe,qd];refine tK 10 ?_ rfl (by kernel_rfl) (fun _ _ _ h=>h) (by rfl) ?_ (by assumption) ?_;rotate_left
   ·intro w hSw;(try dsimp only at hSw);go_simp;(try with_reducible rfl)
   rotate_left;simp only[Act.put,qa,qb,qc,qf,qe,qd];refine tK 11 ?_ rfl (by kernel_rfl) (fun _ _ _ h=>h) (by rfl) ?_ (by assumption) ?_;rotate_left
   ·intro w hSw;(try dsimp only at hSw);go_simp;(try with_reducible rfl)
   rotate_left;simp only[Act.put,qa,qb,qc,qf,qe,qd];refine tK 12 ?_ rfl (by kernel_rfl) (fun _ _ _ h=>h) (by rfl) ?_ (by assumption) ?_;rotate_left
   ·intro w hSw;(try dsimp only at hSw);go_simp;(try with_reducible rfl)
   rotate_left;simp only[Act.put,qa,qb,qc,qf,qe,qd];refine tK 13 ?_ rfl (by kernel_rfl) (fun _ _ _ h=>h) (by rfl) ?_ (by assumption) ?_;rotate_left
   ·intro w hSw;(try dsimp only at hSw);go_simp;(try with_reducible rfl)
   rotate_left;simp only[Act.put,qa,qb,qc,qf,qe,qd];refine tK 14 ?_ rfl (by kernel_rfl) (fun _ _ _ h=>h) (by rfl) ?_ (by assumption) ?_;rotate_left
   ·intro w hSw;(try dsimp only at hSw);go_simp;(try with_reducible rfl)
   rotate_left;simp only[Act.put,qa,qb,qc,qf,qe,qd];refine tK 15 ?_ rfl (by kernel_rfl) (fun _ _ _ h=>h) (by rfl) ?_ (by assumption) ?_;rotate_left
   ·intro w hSw;(try dsimp only at hSw);go_simp;(try with_reducible rfl)
   rotate_left;simp only[Act.put,qa,qb,qc,qf,qe,qd];refine tK 16 ?_ rfl (by kernel_rfl) (fun _ _ _ h=>h) (by rfl) ?_ (by assumption) ?_;rotate_left
   ·intro w hSw;(try dsimp only at hSw);go_simp;(try with_reducible rfl)
   rotate_left;simp only[Act.put,qa,qb,qc,qf,qe,qd];refine tK 17 ?_ rfl (by kernel_rfl) (fun _ _ _ h=>h) (by rfl) ?_ (by assumption) ?_;rotate_left
   ·intro w hSw;(try dsimp only at hSw);go_simp;(try with_reducible rfl)
   rotate_left;simp only[Act.put,qa,qb,qc,qf,qe,qd];refine tK 18 ?_ rfl (by kernel_rfl) (fun _ _ _ h=>h) (by rfl) ?_ (by assumption) ?_;rotate_left
   ·intro w hSw;(try dsimp only at hSw);go_simp;(try with_reducible rfl)
   rotate_left;simp only[Act.put,qa,qb,qc,qf,qe,qd];refine tK 19 ?_ rfl (by kernel_rfl) (fun _ _ _ h=>h) (by rfl) ?_ (by assumption) ?_;rotate_left
   ·intro w hSw;(try dsimp only at hSw);go_simp;(try with_reducible rfl)
   rotate_left;simp only[Act.put,qa,qb,qc,qf,qe,qd];refine wpAnyH_ready (rs:=[20]) (by kernel_rfl) (by simp) ?_;refine AllReadyH.cons rfl (fun K hK=>?_) ?_
   ·go_simp
    refine(insS x.p x.a x.b x.c _).mono ?_;rintro e w1 ⟨rfl,hb1⟩;have hb1':Below w.heap.size w w1:=zg (zg hb.out (Below.refl _ _).drew) hb1;have O1:Hid (w1.ownsRow w.heap.size 60 4 (.slice an k cn) k ((L.take k).flatMap Is.cells)):=z9 (z9 ho.out (Below.refl _ _).drew) hb1;have HB1:=Hm hb1';have hs1:=hb1'.size;clear hb1 hb1';refine hK.out _ _ ?_ (fun hHeld=>?_)
    ·exact⟨zw HB1.out KC.out.1,zw HB1.out KC.out.2.1,zw HB1.out KC.out.2.2.1,zw HB1.out KC.out.2.2.2⟩
    clear hK K
    (try simp only[Act.put,qa,qb,qc,qf,qe,qd])
    refine wpAnyH_ready (rs:=[21]) (by kernel_rfl) (by simp) ?_;refine AllReadyH.cons rfl (fun K hK=>?_) ?_
    ·go_simp
     refine hK.out _ _ ?_ (fun hHeld=>?_)
     ·go_keep
     clear hK K
     (try simp only[Act.put,qa,qb,qc,qf,qe,qd])
     refine wpAnyH_ready (rs:=[22]) (by kernel_rfl) (by simp) ?_;refine AllReadyH.cons rfl (fun K hK=>?_) ?_
     ·rw[if_pos (by rfl)]
      refine wp_append_own _ _ _ 23 rfl w.heap.size 60 i0 (.agg #[.int .i64 0,.int .i64 0,.int .i64 0,.int .i64 0]) 4 32 Tryd.underlying23 hi hz0 hz1 hz2 rfl (by decide) _ _ _ rfl (O1.out.alloc _) ⟨w1.heap.size,0,none⟩ 1 1 x.cells rfl rfl (cells_of_blk (zi _ _)) (by intro u hu;simp only[Is.cells,List.mem_cons,List.not_mem_nil,or_false]at hu;rcases hu with rfl|rfl|rfl|rfl<;>rfl) (by unfold maxLen;omega) (by omega) (by simp;omega) ?_;intro v4 w4 hown4 hgrow4 _;have HB5:Hid (Below w.heap.size w w4):=(zf HB1.out _).grown hgrow4 (by simp;omega) (fun j hj=>(O1.out.lt j hj).1);have HO5:Hid (w4.ownsRow w.heap.size 60 4 v4 (k+1) ((L.take (k+1)).flatMap Is.cells)):=by unfold Hid;rw[hst.out];exact hown4
      have f0:=zw HB5.out KC.out.1;have f1:=zw HB5.out KC.out.2.1;have f2:=zw HB5.out KC.out.2.2.1;have f3:=zw HB5.out KC.out.2.2.2;clear hown4 hgrow4;refine hK.out _ _ ?_ (fun hHeld=>?_)
      ·exact⟨f0,f1,f2,f3⟩
      clear hK K
      (try simp only[Act.put,qa,qb,qc,qf,qe,qd])
      refine wpAnyH_ready (rs:=[23]) (by kernel_rfl) (by simp) ?_;refine AllReadyH.cons rfl (fun K hK=>?_) ?_
      ·go_simp
       refine hK.out _ _ ?_ (fun hHeld=>?_)
       ·exact⟨f0,f1,f2,f3⟩
       clear hK K
       (try simp only[Act.put,qa,qb,qc,qf,qe,qd])
       refine wpAnyH_done (by kernel_rfl) ?_ _;go_wp2;refine⟨⟨k+1,q+4,by omega,by have:=HQ.out;show q+4=4*(k+1);omega,by first|go_num|omega,HO5,HB5⟩,by simp[intOf];omega⟩
      exact AllReadyH.nil
     exact AllReadyH.nil
    exact AllReadyH.nil
   exact AllReadyH.nil
  ·have u4:decide ((q:Int)+4≤(N:Int))=false:=by simp;omega
   have u5:decide (q+4≤N)=false:=by simp;omega
   have u6:N<q+4:=by omega
   obtain rfl:k=L.length:=by omega
   clear hqv;go_wp2;go_ret;refine⟨_,rfl,?_,hb.out⟩;have:=ho.out;rwa[List.take_length]at this
end Go.Proofs.YtbdldkpifanaiaaDoor.Dec
namespace Go.Proofs.YtbdldkpifanaiaaDoor.Cd
open Go Go.RowKit Mem Syn
attribute [local go_sem ↓] Go.wp_at_zero Go.wp_at_succ
def isC (L:List Is):List Value:=L.flatMap Is.cells
theorem xO (L:List Is):(isC L).length=L.length*4:=by
 induction L with
 |nil=>rfl
 |cons x r ih=>unfold isC at*;rw[List.flatMap_cons,qg,ih,Is.len,qh];omega
theorem ym (L:List Is):∀u∈isC L,u.oneCell'=true:=fun u hu=>by
 unfold isC at hu;obtain⟨x,-,h⟩:=List.mem_flatMap.1 hu;simp[Is.cells]at h;rcases h with rfl|rfl|rfl|rfl<;>rfl
theorem Xs (L M:List Is):isC (L++M)=isC L++isC M:=by simp[isC]
def OI (B:Nat) (w:World) (v:Value) (L:List Is):Prop:=w.ownsRow B 60 4 v L.length (isC L)
def RdL (w:World) (v:Value) (L:List Is):Prop:=
 ∃a c,v=.slice a L.length c∧L.length≤c∧((a=none∧c=0∧L=[])∨∃g off,a=some ⟨g,off,none⟩∧∀j u,(isC L)[j]? =some u→w.cell? ⟨g,off+j,none⟩=some u)
theorem RdL.below {w w':World} {v:Value} {L:List Is} (h:RdL w v L) (hb:Below w.heap.size w w'):RdL w' v L:=by
 obtain⟨a,c,h1,hc,h2⟩:=h;refine⟨a,c,h1,hc,?_⟩;rcases h2 with h2|⟨g,off,ha,h2⟩
 ·exact Or.inl h2
 ·exact Or.inr ⟨g,off,ha,fun j u hu=>zw hb (h2 j u hu)⟩
theorem OI.kept {B:Nat} {w w':World} {v:Value} {L:List Is} (h:OI B w v L) (hb:Below w.heap.size w w'):OI B w' v L:=yj h hb
theorem OI.rd {B:Nat} {w:World} {v:Value} {L:List Is} (h:OI B w v L):RdL w v L:=by
 rcases h.2 with⟨h1,h2⟩|⟨g,cap,cur,h1,h2,h3,h4,h5,h6,h7⟩
 ·obtain rfl:L=[]:=List.eq_nil_of_length_eq_zero h2
  exact⟨none,0,h1,qn _,Or.inl ⟨rfl,rfl,rfl⟩⟩
 ·refine⟨_,_,h1,h4,Or.inr ⟨g,0,rfl,fun j u hu=>?_⟩⟩
  rw[Nat.zero_add,za h3 j];rw[←h7,List.getElem?_take]at hu
  split at hu
  ·rw[←Array.getElem?_toList];exact hu
  ·cases hu
theorem OI.lt {B:Nat} {w:World} {v:Value} {L:List Is} (h:OI B w v L):∀g,v.ownBlock=some g→B≤g∧g<w.heap.size:=World.ownsRow.lt h
theorem OI.nil (w:World):OI w.heap.size (w.alloc (.cells #[] 60)) (.slice (some ⟨w.heap.size,0,none⟩) 0 0) []:=
 ⟨rfl,Or.inr ⟨w.heap.size,0,#[],rfl,qn _,zi _ _,qn _,by unfold maxLen;omega,by simp,by simp[isC]⟩⟩
theorem OI.one (w:World) (x:Is):OI w.heap.size (w.alloc (.cells x.cells.toArray 60)) (.slice (some ⟨w.heap.size,0,none⟩) 1 1) [x]:=by
 refine⟨rfl,Or.inr ⟨w.heap.size,1,x.cells.toArray,rfl,qn _,zi _ _,qn _,by unfold maxLen;omega,rfl,?_⟩⟩;simp[isC,Is.cells]
theorem OI.mono {B B':Nat} {w:World} {v:Value} {L:List Is} (h:OI B w v L) (hB:B'≤B):OI B' w v L:=by
 refine⟨h.1,?_⟩;rcases h.2 with h0|⟨g,cap,cur,h1,h2,h3⟩
 ·exact Or.inl h0
 ·exact Or.inr ⟨g,cap,cur,h1,qo hB h2,h3⟩
def catL (LL:Nat→List Is):Nat→List Is
 |0=>[]
 |k+1=>catL LL k++LL k
theorem XY {LL:Nat→List Is} {N M:Nat} (h:∀i,i<N→(LL i).length≤M):∀k,k≤N→(catL LL k).length≤k*M
 |0,_=>by simp[catL]
 |k+1,hk=>by
  have:=XY h k (by omega);have:=h k (by omega);rw[catL,qg,Nat.succ_mul];omega
theorem yI:(Tryd.prog.info? 60).map (fun i=>(i.zero,i.size,i.bytes))=some (some (.agg #[.int .i64 0,.int .i64 0,.int .i64 0,.int .i64 0]),4,32):=by kernel_rfl
theorem seqG (g N cap:Nat) (vv:Nat→Value) (LL:Nat→List Is) (w:World) (hN:N≤10) (hc:∀i,i<N→w.cell? ⟨g,i,none⟩=some (vv i)) (hs:∀i,i<N→RdL w (vv i) (LL i)) (hl:∀i,i<N→(LL i).length≤1000000):
  Calls Tryd.prog 37 #[.slice (some ⟨g,0,none⟩) N cap] w fun e w'=>∃v,e=.returned v∧OI w.heap.size w' v (catL LL N)∧Below w.heap.size w w':=by
 obtain⟨i0,hi,hz0,hz1,hz2⟩:=info_parts yI;have HC:=Hm hc;have HS:=Hm hs;have HL:=Hm hl;clear hc hs hl;go_enter Tryd.func37,Tryd.ntmps37;go_wp2;go_loopw [3,4] (fun v i wr=>∃k:Nat,k≤N∧i=.int .i64 k∧Hid (OI w.heap.size wr v (catL LL k))∧Hid (Below w.heap.size w wr)) (fun _ i _=>N- (intOf i).toNat)
 case atStart=>exact⟨0,Nat.zero_le _,rfl,OI.nil w,by unfold Hid;go_grown⟩
 case round=>
  obtain⟨k,hk,rfl,ho,hb⟩:=hrel;have htl:=XY HL.out k hk;have htl2:(catL LL k).length≤10000000:=qo htl (by omega);clear htl;have hsz:=hb.out.size;obtain⟨a0,c0,hv,hc0⟩:=ya ho.out;rw[hv]at ho ⊢;clear hv;have HO:Hid (wr.ownsRow w.heap.size 60 4 (.slice a0 (catL LL k).length c0) (catL LL k).length (isC (catL LL k))):=ho.out;by_cases hlt:k<N
  ·have hck:=zw hb.out (HC.out k hlt)
   have hnk:=HL.out k hlt;obtain⟨a1,c1,hv1,hc1,hr1⟩:=(HS.out k hlt).below hb.out;rw[hv1]at hck;clear hv1;have k0:(0:Int)≤(k:Int):=by omega
   have k1:(k:Int)<(N:Int):=by omega
   have hcat:Hid (catL LL (k+1)=catL LL k++LL k):=rfl;obtain⟨m,hm⟩:∃m,m=(LL k).length:=⟨_,rfl⟩;obtain⟨q,hq⟩:∃q,q=(catL LL k).length:=⟨_,rfl⟩;rw[←hm]at hck hnk hc1;rw[←hq]at HO htl2 hc0 ⊢;have HM:=Hm hm;have HQ:=Hm hq;clear hm hq ho;rcases hr1 with⟨rfl,rfl,h0⟩|⟨g1,off1,rfl,hcl⟩
   ·obtain rfl:m=0:=by omega
    have ho2:Hid (OI w.heap.size wr (.slice a0 q c0) (catL LL (k+1))):=by
     unfold Hid OI;rw[hcat.out,h0,List.append_nil,←HQ.out];exact HO.out
    clear hcat h0;go_wp2_with (at_builtin;refine wpList_append_own_none rfl _ _ 23 rfl w.heap.size 60 i0 4 Tryd.underlying23 hi _ _ _ rfl HO.out rfl ?_);exact⟨⟨k+1,by omega,by go_num,ho2,hb⟩,by simp[intOf];omega⟩
   ·have HCL:=Hm hcl
    clear hcl;go_wp2_with (at_builtin;refine wpList_append_own _ rfl _ _ 23 rfl w.heap.size 60 i0 (.agg #[.int .i64 0,.int .i64 0,.int .i64 0,.int .i64 0]) 4 32 Tryd.underlying23 hi hz0 hz1 hz2 rfl (by decide) _ _ _ rfl HO.out ⟨g1,off1,none⟩ m c1 (isC (LL k)) rfl (by rw[xO,←HM.out]) (fun j u hu=>by rw[Addr.add_mid];exact HCL.out j u hu) (ym _) (by unfold maxLen;omega) (by omega) hsz ?_);intro v2 w2 hown2 hgrow _;have hb2:Hid (Below w.heap.size w w2):=hb.out.grown hgrow hsz (fun j hj=>(HO.out.lt j hj).1)
    have ho2:Hid (OI w.heap.size w2 v2 (catL LL (k+1))):=by
     unfold Hid OI;rw[hcat.out,qg,Xs,←HM.out,←HQ.out];exact hown2
    clear hown2 hgrow hcat;refine Hid.out ?_;refine Lib.hid ?_;go_wp2;exact⟨⟨k+1,by omega,by go_num,ho2,hb2⟩,by simp[intOf];omega⟩
  ·obtain rfl:N=k:=by omega
   go_wp2;go_ret;exact⟨_,rfl,ho.out,hb.out⟩
theorem yp (p a b c:Int) (w:World):Calls Tryd.prog 58 #[.int .i64 p,.int .i64 a,.int .i64 b,.int .i64 c] w fun e w'=>∃v,e=.returned v∧OI w.heap.size w' v [⟨p,a,b,c⟩]∧Below w.heap.size w w':=by
 go_enter Tryd.func58,Tryd.ntmps58;go_wp2_with (go_at_call 39;refine(Dec.insS p a b c _).mono ?_);rintro e w1 ⟨rfl,hb⟩;have HB:=Hm hb;have hsz:=hb.size;clear hb;go_wp2;go_ret;exact⟨_,rfl,(OI.one w1 ⟨p,a,b,c⟩).mono hsz,zf HB.out _⟩
def pf:Tr→List Po
 |.leaf o=>[o]
 |.pre o a=>pf a++[o]
 |.bin o a b=>pf a++pf b++[o]
 |.two o a b=>pf a++pf b++[o]
 |.three o a b c=>pf a++pf b++pf c++[o]
theorem pf_mk {o:Po} {l:List Tr} (h:l.length≤3):pf (mk o l)=l.flatMap pf++[o]:=by
 match l,h with
 |[],_=>rfl
 |[a],_=>simp[mk,pf]
 |[a,b],_=>simp only[mk];split<;>simp[pf]
 |[a,b,c],_=>simp[mk,pf]
theorem stk_pf {E:Nat→Po}:∀{n:Nat} {s:List Tr},stk E n=some s→s.flatMap pf=(List.range n).map E∧∀i,i<n→opB (E i)=true:=by
 intro n
 induction n with
 |zero=>intro s h;simp[stk]at h;subst h;exact⟨rfl,fun i hi=>by omega⟩
 |succ n ih=>
  intro s h;simp only[stk]at h;obtain⟨s0,hs0,h⟩:=Option.bind_eq_some_iff.1 h
  split at h
  ·rename_i hc
   have h:=Option.some.inj h;obtain⟨h1,h2⟩:=ih hs0;have h3:=Wc (E n);refine⟨?_,fun i hi=>?_⟩
   ·rw[←h,List.flatMap_append,List.flatMap_cons,List.flatMap_nil,List.append_nil,pf_mk (by rw[List.length_drop];omega),←qj,←List.flatMap_append,List.take_append_drop,h1,List.range_succ,List.map_append]
    rfl
   ·by_cases e:i=n
    ·rw[e];exact hc.1
    ·exact h2 i (by omega)
  ·cases h
theorem Zw {E:Nat→Po} {n:Nat} {t:Tr} (h:stk E n=some [t]):pf t=(List.range n).map E∧(∀o∈pf t,opB o=true)∧t.wf:=by
 obtain⟨h1,h2⟩:=stk_pf h;simp only[List.flatMap_cons,List.flatMap_nil,List.append_nil]at h1;refine⟨h1,fun o ho=>?_,(Xq h).1 t (by simp)⟩;rw[h1]at ho;obtain⟨i,hi,rfl⟩:=List.mem_map.1 ho;exact h2 i (List.mem_range.1 hi)
def wgt:List Po→Int
 |[]=>0
 |o::r=>(ar o:Int) -1+wgt r
theorem yM (a b:List Po):wgt (a++b)=wgt a+wgt b:=by
 induction a with
 |nil=>simp[wgt]
 |cons o r ih=>rw[List.cons_append,wgt,wgt,ih];omega
theorem wgt_bd (a:List Po):-(a.length:Int)≤wgt a∧wgt a≤2*a.length:=by
 induction a with
 |nil=>simp[wgt]
 |cons o r ih=>have:=Wc o;rw[wgt,qh];omega
def Sf (c:Int) (L:List Po):Prop:=∀k,k≤L.length→c≤wgt (L.drop k)
theorem Sf.app {a b:Int} {A B:List Po} (h1:Sf a A) (h2:Sf b B) (hb:b≤a+wgt B):Sf b (A++B):=fun k hk=>by
 rw[List.drop_append];by_cases h:k≤A.length
 ·rw[show k-A.length=0 by omega,List.drop_zero,yM]
  have:=h1 k h;omega
 ·rw[List.drop_eq_nil_of_le (by omega),List.nil_append]
  exact h2 _ (by rw[qg]at hk;omega)
structure Pz (L:List Po):Prop where
 s:wgt L=-1
 p:∀k,0<k→k≤L.length→0≤wgt (L.drop k)
 z:0<L.length
theorem Pz.sf {L:List Po} (h:Pz L):Sf (-1) L:=fun k hk=>by
 by_cases e:k=0
 ·subst e;rw[List.drop_zero,h.s];exact Int.le_refl _
 ·have:=h.p k (by omega) hk;omega
theorem Pz.step {A B:List Po} (h:Pz A) (hB:∀k,k≤B.length→0≤wgt (B.drop k)) {k:Nat} (h0:0<k) (hk:k≤(A++B).length):0≤wgt ((A++B).drop k):=by
 rw[List.drop_append];by_cases e:k≤A.length
 ·rw[show k-A.length=0 by omega,List.drop_zero,yM]
  have h1:=h.p k h0 e;have h2:=hB 0 (by omega);rw[List.drop_zero]at h2;omega
 ·rw[List.drop_eq_nil_of_le (by omega),List.nil_append]
  exact hB _ (by rw[qg]at hk;omega)
theorem Ye {o:Po} {c:Int} (h:(ar o:Int) -1=c) (h0:0≤c):∀k,k≤[o].length→0≤wgt ([o].drop k):=fun k hk=>by
 have:k=0∨k=1:=by simp at hk;omega
 rcases this with rfl|rfl
 ·simp[wgt];omega
 ·simp[wgt]
theorem Yg {A B:List Po} {n:Int} (h:Pz A) (hB:∀k,k≤B.length→0≤wgt (B.drop k)) (hw:wgt B=n) (hn:1≤n):∀k,k≤(A++B).length→0≤wgt ((A++B).drop k):=fun k hk=>by
 by_cases e:k=0
 ·subst e;rw[List.drop_zero,yM,h.s,hw];omega
 ·exact h.step hB (by omega) hk
theorem xg {t:Tr} (h:t.wf):Pz (pf t):=by
 induction t with
 |leaf o=>
  have e:ar o=0:=by simp only[Tr.wf]at h;unfold ar;rw[if_neg (by omega),if_neg (by omega),if_neg (by omega)]
  refine⟨by simp[pf,wgt,e],fun k h0 hk=>?_,by simp[pf]⟩;simp only[pf,List.length_singleton]at hk;obtain rfl:k=1:=by omega
  simp[pf,wgt]
 |pre o a ih=>
  have e:ar o=1:=by simp only[Tr.wf]at h;unfold ar;rw[if_pos (by omega)]
  have ha:=ih h.2;exact⟨by rw[pf,yM,ha.s];simp[wgt,e],fun k h0 hk=>ha.step (Ye (c:=0) (by rw[e];rfl) (by omega)) h0 hk,by simp[pf]⟩
 |bin o a b iha ihb=>
  have e:ar o=2:=by simp only[Tr.wf]at h;unfold ar;rw[if_neg (by omega),if_pos (by omega)]
  have ha:=iha h.2.1;have hb:=ihb h.2.2;refine⟨by rw[pf,yM,yM,ha.s,hb.s];simp[wgt,e],fun k h0 hk=>?_,by simp[pf];omega⟩;rw[pf,qj]at hk ⊢;exact ha.step (Yg hb (Ye (c:=1) (by rw[e];rfl) (by omega)) (n:=1) (by simp[wgt,e]) (by omega)) h0 hk
 |two o a b iha ihb=>
  have e:ar o=2:=by simp only[Tr.wf]at h;unfold ar;rw[if_neg (by omega),if_neg (by omega),if_pos (by omega),if_neg (by omega)]
  have ha:=iha h.2.1;have hb:=ihb h.2.2;refine⟨by rw[pf,yM,yM,ha.s,hb.s];simp[wgt,e],fun k h0 hk=>?_,by simp[pf];omega⟩;rw[pf,qj]at hk ⊢;exact ha.step (Yg hb (Ye (c:=1) (by rw[e];rfl) (by omega)) (n:=1) (by simp[wgt,e]) (by omega)) h0 hk
 |three o a b c iha ihb ihc=>
  have e:ar o=3:=by simp only[Tr.wf]at h;unfold ar;rw[if_neg (by omega),if_neg (by omega),if_pos (by omega),if_pos (by omega)]
  have ha:=iha h.2.1;have hb:=ihb h.2.2.1;have hc:=ihc h.2.2.2;have h1:=Yg hc (Ye (c:=2) (by rw[e];rfl) (by omega)) (n:=2) (by simp[wgt,e]) (by omega);have w1:wgt (pf c++[o])=1:=by rw[yM,hc.s];simp[wgt,e]
  refine⟨by rw[pf,yM,yM,yM,ha.s,hb.s,hc.s];simp[wgt,e],fun k h0 hk=>?_,by simp[pf];omega⟩;rw[pf,qj,qj]at hk ⊢;exact ha.step (Yg hb h1 w1 (by omega)) h0 hk
def RdP (w:World) (b off:Nat) (L:List Po):Prop:=∀i,i<L.length→w.cell? ⟨b,off+i*3,none⟩=some (.int .i64 (L.getD i ⟨0,0,[]⟩).k)∧w.cell? ⟨b,off+i*3+1,none⟩=some (.int .i64 (L.getD i ⟨0,0,[]⟩).v)∧w.cell? ⟨b,off+i*3+2,none⟩=some (.string ⟨(L.getD i ⟨0,0,[]⟩).n.toArray⟩)
theorem RdP.below {w w':World} {b off:Nat} {L:List Po} (h:RdP w b off L) (hb:Below w.heap.size w w'):RdP w' b off L:=fun i hi=>⟨zw hb (h i hi).1,zw hb (h i hi).2.1,zw hb (h i hi).2.2⟩
theorem RdP.left {w:World} {b off:Nat} {A B:List Po} (h:RdP w b off (A++B)):RdP w b off A:=fun i hi=>by
 have:=h i (by rw[qg];omega);have e:(A++B).getD i ⟨0,0,[]⟩=A.getD i ⟨0,0,[]⟩:=by simp[List.getD_eq_getElem?_getD,List.getElem?_append_left hi]
 rw[e]at this;exact this
theorem RdP.right {w:World} {b off n:Nat} {A B:List Po} (h:RdP w b off (A++B)) (hn:n=A.length):RdP w b (off+n*3) B:=fun i hi=>by
 have:=h (n+i) (by rw[qg];omega);have e:(A++B).getD (n+i) ⟨0,0,[]⟩=B.getD i ⟨0,0,[]⟩:=by rw[List.getD_eq_getElem?_getD,List.getElem?_append_right (by omega),show n+i-A.length=i by omega,List.getD_eq_getElem?_getD]
 rw[e,show off+(n+i)*3=off+n*3+i*3 by omega]at this;exact this
theorem Xb (R A B:List Po) (b off n cap:Nat) (w:World) (hR:R=A++B) (hB:Pz B) (hr:RdP w b off R) (hop:∀o∈R,opB o=true) (hn:n=R.length) (hl:n≤1000000):
  Calls Tryd.prog 62 #[.slice (some ⟨b,off,none⟩) n cap] w fun e w'=>e=.returned (.int .i64 (A.length:Int))∧Below w.heap.size w w':=by
 have HR:=Hm hr;have HP:=Hm hop
 have HE:Hid (∀k,A.length<k→k≤n→0≤wgt (R.drop k)):=fun k h0 hk=>by
  rw[hR,List.drop_append,List.drop_eq_nil_of_le (by omega),List.nil_append];exact hB.p _ (by omega) (by rw[hn,hR,qg]at hk;omega)
 have HZ:Hid (wgt (R.drop A.length)=-1):=by unfold Hid;rw[hR,List.drop_left];exact hB.s
 have hAn:A.length≤n:=by rw[hn,hR,qg];omega
 have HN:=Hm hn
 have HB:Hid (∀k,k≤n→-(1000000:Int)≤wgt (R.drop k)∧wgt (R.drop k)≤2000000):=fun k hk=>by
  have:=wgt_bd (R.drop k);have h2:(R.drop k).length≤n:=by rw[List.length_drop];omega
  omega
 have HS:Hid (∀k,k<n→wgt (R.drop k)=(ar (R.getD k ⟨0,0,[]⟩):Int) -1+wgt (R.drop (k+1))∧opB (R.getD k ⟨0,0,[]⟩)=true):=fun k hk=>by
  have hk':k<R.length:=by omega
  have e:R.getD k ⟨0,0,[]⟩=R[k]:=by simp[List.getD_eq_getElem?_getD,List.getElem?_eq_getElem hk']
  rw[e];refine⟨?_,hop _ (List.getElem_mem _)⟩;rw[List.drop_eq_getElem_cons hk',wgt]
 obtain⟨q,hq⟩:∃q,q=A.length:=⟨_,rfl⟩;rw[←hq]at HE HZ hAn ⊢;clear hr hop hR hB hn hq;go_enter Tryd.func62,Tryd.ntmps62;go_wp2;go_loopw [3,4] (fun nd i wr=>∃k:Nat,q≤k∧k≤n∧i=.int .i64 (k:Int)∧nd=.int .i64 (1+wgt (R.drop k))∧Hid (Below w.heap.size w wr)) (fun _ i _=>(intOf i).toNat)
 case atStart=>
  refine⟨n,hAn,qn _,rfl,?_,Below.refl _ _⟩;rw[HN.out,List.drop_length];rfl
 case round=>
  obtain⟨k,hqk,hkn,rfl,rfl,hb⟩:=hrel;by_cases hlt:q<k
  ·obtain⟨j,rfl⟩:∃j,k=j+1:=⟨k-1,by omega⟩
   obtain⟨c0,c1,c2⟩:=HR.out.below hb.out j (by rw[←HN.out];omega);obtain⟨hs,ho⟩:=HS.out j (by omega);have hge:=HE.out (j+1) hlt hkn;have hbd:=HB.out (j+1) hkn;have hbd2:=HB.out j (by omega);obtain⟨o,hoo⟩:∃o,o=R.getD j ⟨0,0,[]⟩:=⟨_,rfl⟩;rw[←hoo]at c0 c1 c2 hs ho;clear hoo;have AR:Hid (∀W,Calls Tryd.prog 72 #[.agg #[.int .i64 o.k,.int .i64 o.v,.string ⟨o.n.toArray⟩]] W fun e w'=>e=.returned (.int .i64 (ar o:Int))∧Below W.heap.size W w'):=fun W=>Wy o W ho
   have ha3:=Wc o;obtain⟨m,hm⟩:∃m,m=ar o:=⟨_,rfl⟩;rw[←hm]at AR hs ha3;clear hm ho;obtain⟨W,hW⟩:∃x,x=wgt (R.drop (j+1)):=⟨_,rfl⟩;rw[←hW]at hs hge hbd ⊢;clear hW;have HSS:=Hm hs;clear hs;have t1:(0:Int)<1+W:=by omega
   have t2:IntKind.i64.wrap ((j+1:Nat) -1:Int)=(j:Int):=by rw[show((j+1:Nat) -1:Int)=(j:Int) by omega];exact wrap_small _ (by omega) (by omega)
   have t2':IntKind.i64.wrap ((j:Int)+1-1)=(j:Int):=by rw[show(j:Int)+1-1=(j:Int) by omega];exact wrap_small _ (by omega) (by omega)
   have t3:IntKind.i64.wrap (1+W-1)=W:=by rw[show 1+W-1=W by omega];exact wrap_small _ (by omega) (by omega)
   have t4:IntKind.i64.wrap (W+(m:Int))=W+m:=wrap_small _ (by omega) (by omega);have k0:(0:Int)≤(j:Int):=by omega
   have k1:(j:Int)<(n:Int):=by omega
   go_wp2_with (go_at_call 72;refine(AR.out _).mono ?_);rintro e w1 ⟨rfl,hb1⟩;have B1:=Hm (zg hb.out hb1);clear hb1 hb c0 c1 c2;go_wp2;exact⟨⟨j,by omega,by omega,rfl,by rw[HSS.out,show(1:Int)+((m:Int) -1+W)=W+m by omega],B1⟩,by simp[intOf]⟩
  ·obtain rfl:k=q:=by omega
   have hz:=HZ.out;rw[hz];go_wp2;go_ret;exact⟨rfl,hb.out⟩
end Go.Proofs.YtbdldkpifanaiaaDoor.Cd
