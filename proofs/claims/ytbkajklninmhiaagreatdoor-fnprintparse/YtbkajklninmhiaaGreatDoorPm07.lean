import Derived.Test.YtbkajklninmhiaaGreatDoorPm06
import Derived.Deep.DeepCutAuto
set_option maxHeartbeats 3200000
set_option maxRecDepth 1000000
set_option linter.unusedVariables false
set_option linter.unusedSimpArgs false
open List renaming setIfInBounds_toArray → qa, set_cons_zero → qb, set_cons_succ → qc, getElem_cons_succ → qd, getElem_cons_zero → qe, getElem_toArray → qf
open Nat renaming le_refl → qp
namespace Go.Proofs.YtbkajklninmhiaaGreatDoor.Par
open Go Go.RowKit Mem Syn Parse
attribute [local go_sem ↓] Go.wp_at_zero Go.wp_at_succ
theorem tw_len {k:Nat} (h:k<14):(zG k).length≤2:=by
 have:∀m:Fin 14,(zG m.val).length≤2:=by decide
 exact this ⟨k,h⟩
theorem TZ (w:World) (s:List UInt8):Rd (Lib.bytesWorld w 5 ⟨s.toArray⟩) (some ⟨w.heap.size,0,none⟩) s:=fun j hj=>by
 refine⟨w.heap.size,0,rfl,?_⟩;have:=Lib.bytesWorld_cell w 5 ⟨s.toArray⟩ j (show j<s.toArray.size by simpa using hj);rw[Nat.zero_add,this];simp[List.getD_eq_getElem?_getD,hj]
theorem Ta {l:List UInt8} {j L r:Nat} (hj:j<11) (h:Zl l (3+j) (11-j) L=r):Zl l (3+(j+1)) (11- (j+1)) (if (zG L).length<(zG (3+j)).length∧(zG (3+j)).isPrefixOf l=true then 3+j else L)=r:=by
 rw[show 11-j=(11- (j+1))+1 by omega,Zl]at h;exact h
theorem Ur (B b g q:Nat) (c:Nat) (t:List UInt8) (z:Pz) (w:World) (h:Px B b (some ⟨g,q,none⟩) c t z w) (hs:z.s<t.length) (l:List UInt8) (hl:l=t.drop z.s):
  Calls Tryz.prog 128 #[.pointer (some ⟨b,0,none⟩)] w fun e w'=>
   (yB l≠0→e=.returned (.agg #[.int .i64 (yB l:Int),.int .i64 (z.s:Int),.string ⟨#[]⟩,.int .i64 0])∧Px B b (some ⟨g,q,none⟩) c t ⟨z.s+(zG (yB l)).length,z.k,z.o,z.d⟩ w')∧(yB l=0→e=.panicked (flV 2 z.s))∧w.grownBy w' (some b):=by
 have hsm:=h.sm;have hlt:=h.lt;obtain⟨W1,hW1⟩:∃W,W=w.alloc (.cells #[.int .i64 0,.int .i64 0,.string ⟨#[]⟩,.int .i64 0] 48):=⟨_,rfl⟩;have A1:Hid (Below w.heap.size w W1):=by rw[hW1];exact zd (Below.refl _ _) _
 have R1:Hid (W1.heap[w.heap.size]? =some (.cells #[.int .i64 0,.int .i64 0,.string ⟨#[]⟩,.int .i64 0] 48)):=by rw[hW1];exact zo _ _
 have P1:=Hm (h.below A1.out)
 have hcl:t.length≤c:=by
  obtain⟨p,c',e,hc,hp,hr⟩:=h.txt.rd;injection e with e1 e2 e3;omega
 have HR:Hid (Rd W1 (some ⟨g,q+z.s,none⟩) l):=by
  obtain⟨p,c',e,hc,hp,hr⟩:=P1.out.txt.rd;injection e with e1 e2 e3;subst e1;have:=hr.drop z.s;rw[←hl]at this;exact this
 have HLL:Hid (t.length-z.s=l.length):=by unfold Hid;rw[hl,List.length_drop]
 have hsy:yB l≠0→z.s+(zG (yB l)).length≤t.length:=fun hne=>by
  cases hd:l with
  |nil=>rw[hd]at hne;exact absurd rfl hne
  |cons x r=>
   rw[hd]at hne;have:=Us hne;rw[←hd,hl,List.length_drop]at this;rw[←hd,hl];omega
 have HF:=Hm (Rr l);obtain⟨M,hM⟩:∃M,M=yB l:=⟨_,rfl⟩;have hM14:M<14:=by rw[hM];exact Xh l
 rw[←hM]at HF hsy ⊢;obtain⟨n,hnn⟩:∃n,n=t.length:=⟨_,rfl⟩;have HN:=Hm hnn;rw[←hnn]at hs hsm hcl HLL hsy;clear hl h hM hnn;go_enter Tryz.func128,Tryz.ntmps128;go_wp2_with fail;rw[←hW1];clear hW1;go_loopw [3,4] (fun lo k wr=>∃j L:Nat,j≤11∧L<14∧lo=.int .i64 (L:Int)∧k=.int .i64 ((3+j:Nat):Int)∧Hid (Zl l (3+j) (11-j) L=M)∧Hid (Below W1.heap.size W1 wr)) (fun _ k _=>14- (intOf k).toNat)
 case atStart=>exact⟨0,0,by omega,by omega,rfl,rfl,HF,Below.refl _ _⟩
 case round=>
  obtain⟨j,L,hj,hL,rfl,rfl,hf,hb⟩:=hrel;have P2:=Hm (P1.out.below hb.out);have y0:wr.cell? ⟨0,L,none⟩=some (.string ⟨(zG L).toArray⟩):=P2.out.tw L (by omega);have z0:(0:Int)≤(L:Int):=by omega
  have z1:(L:Int)<50:=by omega
  by_cases hj11:j<11
  ·have k1:((3+j:Nat):Int)≤13:=by omega
   obtain⟨m,hm⟩:∃m,m=3+j:=⟨_,rfl⟩;rw[←hm]at k1 ⊢;have y1:wr.cell? ⟨0,m,none⟩=some (.string ⟨(zG m).toArray⟩):=P2.out.tw m (by omega);have z2:(0:Int)≤(m:Int):=by omega
   have z3:(m:Int)<50:=by omega
   have hf':=Hm (Ta hj11 hf.out);rw[←hm]at hf';have lm:=tw_len (k:=m) (by omega);have lL:=tw_len (k:=L) hL;have HM:=Hm hm;clear hm hf;by_cases hlen:(zG L).length<(zG m).length
   ·have k2:(((zG L).length:Nat):Int)<(((zG m).length:Nat):Int):=by omega
    have x0:wr.cell? ⟨b,0,none⟩=some (.slice (some ⟨g,q,none⟩) n c):=by rw[zb P2.out.blk 0];rw[HN.out];rfl
    have x1:wr.cell? ⟨b,1,none⟩=some (.int .i64 (z.s:Int)):=by rw[zb P2.out.blk 1];rfl
    have HS:Hid ((fun w'=>w'.cell? ⟨b,0,none⟩=some (.slice (some ⟨g,q,none⟩) n c)∧w'.cell? ⟨b,1,none⟩=some (.int .i64 (z.s:Int))∧w'.cell? ⟨0,L,none⟩=some (.string ⟨(zG L).toArray⟩)) wr):=⟨x0,x1,y0⟩;have c1:¬c=z.s:=by omega
    have c2:(z.s:Int)≤(n:Int):=by omega
    have c3:(0:Int)≤(z.s:Int):=by omega
    clear x0 x1;have HXB:Hid (Below wr.heap.size wr (Lib.bytesWorld wr.drew 5 ⟨(zG m).toArray⟩)):=zn (Below.refl _ _).drew (Joins.below_bytesWorld _ _ _ _ (qp _));have HCP:=Hm (prefI g (q+z.s) wr.heap.size 0 l (zG m) (n-z.s) (zG m).length (c-z.s) (grownCap wr.drew (zG m).length 0 5) (Lib.bytesWorld wr.drew 5 ⟨(zG m).toArray⟩) HLL.out rfl (by omega) ((HR.out.below hb.out).below HXB.out) (TZ wr.drew (zG m)) (by omega))
    cases hp:(zG m).isPrefixOf l with
    |true=>
     rw[if_pos ⟨hlen,hp⟩]at hf';go_upto_region 6 with fail;clear y0;refine wp_region_held_drew (S:=(fun w'=>w'.cell? ⟨b,0,none⟩=some (.slice (some ⟨g,q,none⟩) n c)∧w'.cell? ⟨b,1,none⟩=some (.int .i64 (z.s:Int))∧w'.cell? ⟨0,L,none⟩=some (.string ⟨(zG L).toArray⟩))) (by kernel_rfl) ?_ (fun hHeld=>?_)
     ·exact HS.out
     refine tK 0 ?_ rfl (by kernel_rfl) (fun _ _ _ h=>h) (by rfl) ?_ (by assumption) ?_;rotate_left
     ·intro w hSw;(try dsimp only at hSw);go_simp;(try with_reducible rfl)
     rotate_left;simp only[Act.put,qa,qb,qc,qf,qe,qd];refine tK 1 ?_ rfl (by kernel_rfl) (fun _ _ _ h=>h) (by rfl) ?_ (by assumption) ?_;rotate_left
     ·intro w hSw;(try dsimp only at hSw);go_simp;(try with_reducible rfl)
     rotate_left;simp only[Act.put,qa,qb,qc,qf,qe,qd];refine tK 2 ?_ rfl (by kernel_rfl) (fun _ _ _ h=>h) (by rfl) ?_ (by assumption) ?_;rotate_left
     ·intro w hSw;(try dsimp only at hSw);go_simp;(try with_reducible rfl)
     rotate_left;simp only[Act.put,qa,qb,qc,qf,qe,qd];refine tK 3 ?_ rfl (by kernel_rfl) (fun _ _ _ h=>h) (by rfl) ?_ (by assumption) ?_;rotate_left
     ·intro w hSw;(try dsimp only at hSw);go_simp;(try with_reducible rfl)
     rotate_left;simp only[Act.put,qa,qb,qc,qf,qe,qd];refine tK 4 ?_ rfl (by kernel_rfl) (fun _ _ _ h=>h) (by rfl) ?_ (by assumption) ?_;rotate_left
     ·intro w hSw;(try dsimp only at hSw);go_simp;(try with_reducible rfl)
     rotate_left;simp only[Act.put,qa,qb,qc,qf,qe,qd];refine tK 5 ?_ rfl (by kernel_rfl) (fun _ _ _ h=>h) (by rfl) ?_ (by assumption) ?_;rotate_left
     ·intro w hSw;(try dsimp only at hSw);go_simp;(try with_reducible rfl)
     rotate_left;simp only[Act.put,qa,qb,qc,qf,qe,qd];refine tK 6 ?_ rfl (by kernel_rfl) (fun _ _ _ h=>h) (by rfl) ?_ (by assumption) ?_;rotate_left
     ·intro w hSw;(try dsimp only at hSw);go_simp;(try with_reducible rfl)
     rotate_left;simp only[Act.put,qa,qb,qc,qf,qe,qd];refine tK 7 ?_ rfl (by kernel_rfl) (fun _ _ _ h=>h) (by rfl) ?_ (by assumption) ?_;rotate_left
     ·intro w hSw;(try dsimp only at hSw);go_simp;(try with_reducible rfl)
     rotate_left;simp only[Act.put,qa,qb,qc,qf,qe,qd];refine tK 8 ?_ rfl (by kernel_rfl) (fun _ _ _ h=>h) (by rfl) ?_ (by assumption) ?_;rotate_left
     ·intro w hSw;(try dsimp only at hSw);go_simp;(try with_reducible rfl)
     rotate_left;simp only[Act.put,qa,qb,qc,qf,qe,qd];refine tK 9 ?_ rfl (by kernel_rfl) (fun _ _ _ h=>h) (by rfl) ?_ (by assumption) ?_;rotate_left
     ·intro w hSw;(try dsimp only at hSw);go_simp;(try with_reducible rfl)
     rotate_left;simp only[Act.put,qa,qb,qc,qf,qe,qd];refine tK 10 ?_ rfl (by kernel_rfl) (fun _ _ _ h=>h) (by rfl) ?_ (by assumption) ?_;rotate_left
     ·intro w hSw;(try dsimp only at hSw);go_simp;(try with_reducible rfl)
     rotate_left;simp only[Act.put,qa,qb,qc,qf,qe,qd];refine tK 11 ?_ rfl (by kernel_rfl) (fun _ _ _ h=>h) (by rfl) ?_ (by assumption) ?_;rotate_left
     ·intro w hSw;(try dsimp only at hSw);go_simp;(try with_reducible rfl)
     rotate_left;simp only[Act.put,qa,qb,qc,qf,qe,qd];refine tK 12 ?_ rfl (by kernel_rfl) (fun _ _ _ h=>h) (by rfl) ?_ (by assumption) ?_;rotate_left
     ·intro w hSw;(try dsimp only at hSw);go_simp;(try with_reducible rfl)
     rotate_left;simp only[Act.put,qa,qb,qc,qf,qe,qd];refine tK 13 ?_ rfl (by kernel_rfl) (fun _ _ _ h=>h) (by rfl) ?_ (by assumption) ?_;rotate_left
     ·intro w hSw;(try dsimp only at hSw);go_simp;(try with_reducible rfl)
     rotate_left;simp only[Act.put,qa,qb,qc,qf,qe,qd];refine tK 14 ?_ rfl (by kernel_rfl) (fun _ _ _ h=>h) (by rfl) ?_ (by assumption) ?_;rotate_left
     ·intro w hSw;(try dsimp only at hSw);go_simp;(try with_reducible rfl)
     rotate_left;simp only[Act.put,qa,qb,qc,qf,qe,qd];refine tK 15 ?_ rfl (by kernel_rfl) (fun _ _ _ h=>h) (by rfl) ?_ (by assumption) ?_;rotate_left
     ·intro w hSw;(try dsimp only at hSw);go_simp;(try with_reducible rfl)
     rotate_left;simp only[Act.put,qa,qb,qc,qf,qe,qd];refine tK 16 ?_ rfl (by kernel_rfl) (fun _ _ _ h=>h) (by rfl) ?_ (by assumption) ?_;rotate_left
     ·intro w hSw;(try dsimp only at hSw);go_simp;(try with_reducible rfl)
     rotate_left;simp only[Act.put,qa,qb,qc,qf,qe,qd];refine tK 17 ?_ rfl (by kernel_rfl) (fun _ _ _ h=>h) (by rfl) ?_ (by assumption) ?_;rotate_left
     ·intro w hSw;(try dsimp only at hSw);go_simp;(try with_reducible rfl)
     rotate_left;simp only[Act.put,qa,qb,qc,qf,qe,qd];refine wpAnyH_ready (rs:=[18]) (by kernel_rfl) (by simp) ?_;refine AllReadyH.cons rfl (fun K hK=>?_) ?_
     ·go_simp
      rw[Lib.run_convert_string_bytes (P:=Tryz.prog) _ 9 22 5 _ Tryz.underlying9 Tryz.underlying22 Tryz.underlying5];go_simp;refine hK.out _ _ ?_ (fun hHeld=>?_)
      ·exact⟨zB HXB.out HS.out.1,zB HXB.out HS.out.2.1,zB HXB.out HS.out.2.2⟩
      clear hK K
      (try simp only[Act.put,qa,qb,qc,qf,qe,qd])
      refine wpAnyH_ready (rs:=[19]) (by kernel_rfl) (by simp) ?_;refine AllReadyH.cons rfl (fun K hK=>?_) ?_
      ·go_simp
       refine HCP.out.mono ?_;rintro e w' ⟨rfl,rfl⟩;rw[hp];refine hK.out _ _ ?_ (fun hHeld=>?_)
       ·exact⟨zB HXB.out HS.out.1,zB HXB.out HS.out.2.1,zB HXB.out HS.out.2.2⟩
       clear hK K
       (try simp only[Act.put,qa,qb,qc,qf,qe,qd])
       refine tK 20 ?_ rfl (by kernel_rfl) (fun _ _ _ h=>h) (by rfl) ?_ (by assumption) ?_;rotate_left
       ·intro w hSw;(try dsimp only at hSw);go_simp;(try with_reducible rfl)
       rotate_left;simp only[Act.put,qa,qb,qc,qf,qe,qd];refine wpAnyH_done (by kernel_rfl) ?_ _;go_wp2_with fail;exact⟨⟨j+1,m,by omega,by omega,rfl,by rw[HM.out];go_num,hf',zn hb.out HXB.out⟩,by simp[intOf];omega⟩
      exact AllReadyH.nil
     exact AllReadyH.nil
    |false=>
     rw[if_neg (fun h=>by rw[hp]at h;cases h.2)]at hf';go_upto_region 6 with fail;clear y0;refine wp_region_held_drew (S:=(fun w'=>w'.cell? ⟨b,0,none⟩=some (.slice (some ⟨g,q,none⟩) n c)∧w'.cell? ⟨b,1,none⟩=some (.int .i64 (z.s:Int))∧w'.cell? ⟨0,L,none⟩=some (.string ⟨(zG L).toArray⟩))) (by kernel_rfl) ?_ (fun hHeld=>?_)
     ·exact HS.out
     refine tK 0 ?_ rfl (by kernel_rfl) (fun _ _ _ h=>h) (by rfl) ?_ (by assumption) ?_;rotate_left
     ·intro w hSw;(try dsimp only at hSw);go_simp;(try with_reducible rfl)
     rotate_left;simp only[Act.put,qa,qb,qc,qf,qe,qd];refine tK 1 ?_ rfl (by kernel_rfl) (fun _ _ _ h=>h) (by rfl) ?_ (by assumption) ?_;rotate_left
     ·intro w hSw;(try dsimp only at hSw);go_simp;(try with_reducible rfl)
     rotate_left;simp only[Act.put,qa,qb,qc,qf,qe,qd];refine tK 2 ?_ rfl (by kernel_rfl) (fun _ _ _ h=>h) (by rfl) ?_ (by assumption) ?_;rotate_left
     ·intro w hSw;(try dsimp only at hSw);go_simp;(try with_reducible rfl)
     rotate_left;simp only[Act.put,qa,qb,qc,qf,qe,qd];refine tK 3 ?_ rfl (by kernel_rfl) (fun _ _ _ h=>h) (by rfl) ?_ (by assumption) ?_;rotate_left
     ·intro w hSw;(try dsimp only at hSw);go_simp;(try with_reducible rfl)
     rotate_left;simp only[Act.put,qa,qb,qc,qf,qe,qd];refine tK 4 ?_ rfl (by kernel_rfl) (fun _ _ _ h=>h) (by rfl) ?_ (by assumption) ?_;rotate_left
     ·intro w hSw;(try dsimp only at hSw);go_simp;(try with_reducible rfl)
     rotate_left;simp only[Act.put,qa,qb,qc,qf,qe,qd];refine tK 5 ?_ rfl (by kernel_rfl) (fun _ _ _ h=>h) (by rfl) ?_ (by assumption) ?_;rotate_left
     ·intro w hSw;(try dsimp only at hSw);go_simp;(try with_reducible rfl)
     rotate_left;simp only[Act.put,qa,qb,qc,qf,qe,qd];refine tK 6 ?_ rfl (by kernel_rfl) (fun _ _ _ h=>h) (by rfl) ?_ (by assumption) ?_;rotate_left
     ·intro w hSw;(try dsimp only at hSw);go_simp;(try with_reducible rfl)
     rotate_left;simp only[Act.put,qa,qb,qc,qf,qe,qd];refine tK 7 ?_ rfl (by kernel_rfl) (fun _ _ _ h=>h) (by rfl) ?_ (by assumption) ?_;rotate_left
     ·intro w hSw;(try dsimp only at hSw);go_simp;(try with_reducible rfl)
     rotate_left;simp only[Act.put,qa,qb,qc,qf,qe,qd];refine tK 8 ?_ rfl (by kernel_rfl) (fun _ _ _ h=>h) (by rfl) ?_ (by assumption) ?_;rotate_left
     ·intro w hSw;(try dsimp only at hSw);go_simp;(try with_reducible rfl)
     rotate_left;simp only[Act.put,qa,qb,qc,qf,qe,qd];refine tK 9 ?_ rfl (by kernel_rfl) (fun _ _ _ h=>h) (by rfl) ?_ (by assumption) ?_;rotate_left
     ·intro w hSw;(try dsimp only at hSw);go_simp;(try with_reducible rfl)
     rotate_left;simp only[Act.put,qa,qb,qc,qf,qe,qd];refine tK 10 ?_ rfl (by kernel_rfl) (fun _ _ _ h=>h) (by rfl) ?_ (by assumption) ?_;rotate_left
     ·intro w hSw;(try dsimp only at hSw);go_simp;(try with_reducible rfl)
     rotate_left;simp only[Act.put,qa,qb,qc,qf,qe,qd];refine tK 11 ?_ rfl (by kernel_rfl) (fun _ _ _ h=>h) (by rfl) ?_ (by assumption) ?_;rotate_left
     ·intro w hSw;(try dsimp only at hSw);go_simp;(try with_reducible rfl)
     rotate_left;simp only[Act.put,qa,qb,qc,qf,qe,qd];refine tK 12 ?_ rfl (by kernel_rfl) (fun _ _ _ h=>h) (by rfl) ?_ (by assumption) ?_;rotate_left
     ·intro w hSw;(try dsimp only at hSw);go_simp;(try with_reducible rfl)
     rotate_left;simp only[Act.put,qa,qb,qc,qf,qe,qd];refine tK 13 ?_ rfl (by kernel_rfl) (fun _ _ _ h=>h) (by rfl) ?_ (by assumption) ?_;rotate_left
     ·intro w hSw;(try dsimp only at hSw);go_simp;(try with_reducible rfl)
     rotate_left;simp only[Act.put,qa,qb,qc,qf,qe,qd];refine tK 14 ?_ rfl (by kernel_rfl) (fun _ _ _ h=>h) (by rfl) ?_ (by assumption) ?_;rotate_left
     ·intro w hSw;(try dsimp only at hSw);go_simp;(try with_reducible rfl)
     rotate_left;simp only[Act.put,qa,qb,qc,qf,qe,qd];refine tK 15 ?_ rfl (by kernel_rfl) (fun _ _ _ h=>h) (by rfl) ?_ (by assumption) ?_;rotate_left
     ·intro w hSw;(try dsimp only at hSw);go_simp;(try with_reducible rfl)
     rotate_left;simp only[Act.put,qa,qb,qc,qf,qe,qd];refine tK 16 ?_ rfl (by kernel_rfl) (fun _ _ _ h=>h) (by rfl) ?_ (by assumption) ?_;rotate_left
     ·intro w hSw;(try dsimp only at hSw);go_simp;(try with_reducible rfl)
     rotate_left;simp only[Act.put,qa,qb,qc,qf,qe,qd];refine tK 17 ?_ rfl (by kernel_rfl) (fun _ _ _ h=>h) (by rfl) ?_ (by assumption) ?_;rotate_left
     ·intro w hSw;(try dsimp only at hSw);go_simp;(try with_reducible rfl)
     rotate_left;simp only[Act.put,qa,qb,qc,qf,qe,qd];refine wpAnyH_ready (rs:=[18]) (by kernel_rfl) (by simp) ?_;refine AllReadyH.cons rfl (fun K hK=>?_) ?_
     ·go_simp
      rw[Lib.run_convert_string_bytes (P:=Tryz.prog) _ 9 22 5 _ Tryz.underlying9 Tryz.underlying22 Tryz.underlying5];go_simp;refine hK.out _ _ ?_ (fun hHeld=>?_)
      ·exact⟨zB HXB.out HS.out.1,zB HXB.out HS.out.2.1,zB HXB.out HS.out.2.2⟩
      clear hK K
      (try simp only[Act.put,qa,qb,qc,qf,qe,qd])
      refine wpAnyH_ready (rs:=[19]) (by kernel_rfl) (by simp) ?_;refine AllReadyH.cons rfl (fun K hK=>?_) ?_
      ·go_simp
       refine HCP.out.mono ?_;rintro e w' ⟨rfl,rfl⟩;rw[hp];refine hK.out _ _ ?_ (fun hHeld=>?_)
       ·exact⟨zB HXB.out HS.out.1,zB HXB.out HS.out.2.1,zB HXB.out HS.out.2.2⟩
       clear hK K
       (try simp only[Act.put,qa,qb,qc,qf,qe,qd])
       refine tK 20 ?_ rfl (by kernel_rfl) (fun _ _ _ h=>h) (by rfl) ?_ (by assumption) ?_;rotate_left
       ·intro w hSw;(try dsimp only at hSw);go_simp;(try with_reducible rfl)
       rotate_left;simp only[Act.put,qa,qb,qc,qf,qe,qd];refine wpAnyH_done (by kernel_rfl) ?_ _;go_wp2_with fail;exact⟨⟨j+1,L,by omega,by omega,rfl,by rw[HM.out];go_num,hf',zn hb.out HXB.out⟩,by simp[intOf];omega⟩
      exact AllReadyH.nil
     exact AllReadyH.nil
   ·have k2:decide ((((zG L).length:Nat):Int)<(((zG m).length:Nat):Int))=false:=by simp;omega
    rw[if_neg (fun h=>hlen h.1)]at hf';go_wp2_with fail;go_region;go_wp2_with fail;exact⟨⟨j+1,L,by omega,by omega,rfl,by rw[HM.out];go_num,hf',hb.out.drew⟩,by simp[intOf];omega⟩
  ·have hj':j=11:=by omega
   obtain⟨m,hm⟩:∃m,m=3+j:=⟨_,rfl⟩;rw[←hm];have k1:decide ((m:Int)≤13)=false:=by simp;omega
   have hLM:Hid (L=M):=by
    have:=hf.out;rw[hj']at this;exact this
   have R2:=Hm (zg R1.out hb.out);have A2:=Hm (zn A1.out hb.out);clear hj' hf hm hj11 hj;by_cases h0:L=0
   ·have k2:((L:Int)==0)=true:=by simp[h0]
    have HL0:Hid (M=0):=by rw[←hLM.out];exact h0
    clear h0;go_wp2_with (go_at_call 148;go_must (refine(VR B b _ c t z _ P2.out 2).mono ?_;rintro e w3 ⟨rfl,hb3⟩));exact⟨rfl,fun h=>absurd HL0.out h,fun _=>rfl,zD (zn A2.out hb3)⟩
   ·have k2:((L:Int)==0)=false:=by simp[h0]
    have HL0:Hid (M≠0):=by unfold Hid;rw[←hLM.out];exact h0
    have hsl:z.s+(zG L).length≤t.length:=by have:=hsy HL0.out;rw[←hLM.out,HN.out]at this;exact this
    go_wp2_with (go_at_call 149;go_must (refine(Tw B b _ c t z _ P2.out ⟨L,0,[],0⟩ 0 (zG L).length hsl).mono ?_;rintro e w3 ⟨rfl,p3,g3⟩;have P3:=Hm p3;have R3:=Hm (zl R2.out g3 (by omega));have G3:=Hm (zi (zD A2.out) g3);clear p3 g3;have r0:=(zb R3.out 0).trans rfl;have r1:=(zb R3.out 1).trans rfl;have r2:=(zb R3.out 2).trans rfl;have r3:=(zb R3.out 3).trans rfl;have q0:=zc R3.out 0;have q1:=zc R3.out 1;have q2:=zc R3.out 2;have q3:=zc R3.out 3));refine bodyPost_ret (by simp[results,Tryz.results128,go_sem,r0,r1,r2,r3];try rfl) rfl ?_;rw[←hLM.out];have hBb:=P3.out.hB
    exact⟨fun _=>⟨rfl,(((P3.out.other (by omega) (by omega)).other (by omega) (by omega)).other (by omega) (by omega)).other (by omega) (by omega)⟩,fun h=>absurd h h0,zr (zr (zr (zr G3.out (qp _)) (qp _)) (qp _)) (qp _)⟩
end Go.Proofs.YtbkajklninmhiaaGreatDoor.Par
