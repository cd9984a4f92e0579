import Derived.Test.YtbkajklninmhiaaGreatDoorPm11
import Derived.Great.BuildSlice
set_option maxHeartbeats 3200000
set_option maxRecDepth 1000000
set_option linter.unusedVariables false
set_option linter.unusedSimpArgs false
open List renaming setIfInBounds_toArray → qa, set_cons_zero → qb, set_cons_succ → qc, getElem_cons_succ → qd, getElem_cons_zero → qe, getElem_toArray → qf, length_append → qg
open Nat renaming le_refl → qp, le_trans → qq
namespace Go.Proofs.YtbkajklninmhiaaGreatDoor.Par
open Go Go.RowKit Mem Syn Parse
attribute [local go_sem ↓] Go.wp_at_zero Go.wp_at_succ
structure Lp (B b:Nat) (a:Option Addr) (c:Nat) (t:List UInt8) (w:World) (d:Nat) (lv:Value) (l:Tr) (i o:Nat) (wr:World):Prop where
 nq:Nq wr (Nw w.heap.size) lv l
 ps:PS B b a c t i o d wr
 gb:w.grownBy wr (some b)
 ho:o≤2000
theorem Lp.grow {B b:Nat} {a:Option Addr} {c:Nat} {t:List UInt8} {w:World} {d:Nat} {lv:Value} {l:Tr} {i o:Nat} {wr:World} (h:Lp B b a c t w d lv l i o wr) (hlt:b<w.heap.size) {w':World} {i' o':Nat} (g:wr.grownBy w' (some b)) (p:PS B b a c t i' o' d w') (ho:o'≤2000):Lp B b a c t w d lv l i' o' w':=
 ⟨h.nq.keep (Zr g hlt),p,zi h.gb g,ho⟩
theorem Lp.below {B b:Nat} {a:Option Addr} {c:Nat} {t:List UInt8} {w:World} {d:Nat} {lv:Value} {l:Tr} {i o:Nat} {wr:World} (h:Lp B b a c t w d lv l i o wr) {w':World} (hb:Below wr.heap.size wr w'):Lp B b a c t w d lv l i o w':=
 ⟨h.nq.keep (yu hb),Px.below h.ps hb,zi h.gb (zD hb),h.ho⟩
theorem exC (B b:Nat) (a:Option Addr) (c:Nat) (t:List UInt8) (f:Nat) (H:∀f',f'≤f→Cs B b a c t f') (s i o d:Nat) (w:World) (h1:1≤s) (h6:s≤6) (h:PS B b a c t i o d w) (ho:o≤2000) (hd:d≤64) (hn:ex (tkT t) (f+1) s i o d≠.out):
  Calls Tryz.prog 130 #[.pointer (some ⟨b,0,none⟩),.int .i64 (s:Int)] w fun e w'=>Res (ex (tkT t) (f+1) s i o d) (EP B b a c t w d) e w'∧w.grownBy w' (some b):=by
 have HC:=Hm H;have hlt:=Px.lt h;rw[ex]at hn ⊢;have P0:=Hm h;clear H h;by_cases hs:s=6
 ·rw[if_pos hs]at hn ⊢
  have k1:((s:Int)==6)=true:=by simp;omega
  clear hs;go_enter Tryz.func130,Tryz.ntmps130;go_wp2_with fail;refine((HC.out f (qp _)).un i o d w P0.out ho hd hn).mono ?_;rintro e w1 ⟨p,g⟩
  cases hr:un (tkT t) f i o d with
  |out=>exact absurd hr hn
  |bad cc aa=>rw[hr]at p;have p:e=.panicked (flV cc aa):=p;subst p;exact⟨rfl,(by rw[hr];exact rfl),g⟩
  |ok x=>
   rw[hr]at p;obtain⟨v,rfl,q,p,hx⟩:=p;have HQ:Hid (EP B b a c t w d x (.returned v) w1):=⟨v,rfl,q,p,hx⟩;have HR:=Hm hr;have HG:=Hm g;clear q p hx hr g;go_wp2;go_ret;exact⟨(by rw[HR.out];exact HQ.out),HG.out⟩
 ·rw[if_neg hs]at hn ⊢
  have k1:((s:Int)==6)=false:=by simp;omega
  have HN:=Hm hn;have hs5:s≤5:=by omega
  clear hs hn;go_enter Tryz.func130,Tryz.ntmps130;have hn1:ex (tkT t) f (s+1) i o d≠.out:=fun e=>HN.out (by simp only[e];rfl)
  have es:IntKind.i64.wrap ((s:Int)+1)=((s+1:Nat):Int):=by rw[IntKind.wrap_i64];omega
  go_wp2_with fail;refine((HC.out f (qp _)).ex (s+1) i o d w (by omega) (by omega) P0.out ho hd hn1).mono ?_;rintro e w1 ⟨p,g⟩
  cases hr1:ex (tkT t) f (s+1) i o d with
  |out=>rw[hr1]at p;exact p.elim
  |bad cc aa=>
   have HR1:=Hm hr1;rw[hr1]at p;have p:e=.panicked (flV cc aa):=p;subst p;exact⟨rfl,(by simp only[HR1.out,zj,zx];exact rfl),zi (World.grownBy.refl _ _) g⟩
  |ok x1=>
   have HR1:=Hm hr1;rw[hr1]at p;obtain⟨v,rfl,q,p1,hx⟩:=p;have P1:=Hm p1;have GG1:=Hm g;have G1:=Hm (zi (World.grownBy.refl _ _) g);obtain⟨TT,uu,rfl⟩:=q.form;have L1:Hid (Lp B b a c t w d (.iface TT uu) x1.1 x1.2.1 x1.2.2 w1):=⟨q,p1,g,hx⟩;clear q;clear p1 g hr1;obtain⟨RL,hRL⟩:∃R,R=lp (tkT t) f s x1.1 x1.2.1 x1.2.2 d:=⟨_,rfl⟩;have HRL:=Hm hRL.symm;have hRn:Hid (RL≠.out):=fun e=>HN.out (by simp only[HR1.out,HRL.out,zj,e])
   clear hRL;go_wp2_with fail;go_loopg [5] f (fun gk lv wr=>∃(L:Tr) (j o:Nat),gk≤f∧(∃T0 u0,lv=.iface T0 u0)∧Hid (Lp B b a c t w d lv L j o wr)∧Hid (lp (tkT t) gk s L j o d=RL))
   case atStart=>exact⟨x1.1,x1.2.1,x1.2.2,qp _,⟨_,_,rfl⟩,L1,HRL⟩
   case round=>
    obtain⟨L,j,o',hgk,⟨T0,u0,rfl⟩,hlp,hlo⟩:=hrel
    cases gk with
    |zero=>exact absurd (hlo.out.symm.trans (by rw[lp])) hRn.out
    |succ gk=>
     cases hat:atB (tkT t) s j with
     |true=>
      by_cases hs3:s=3
      ·have e1:Hid (lp (tkT t) (gk+1) s L j o' d=(cnt (tkT t) j o').bnd fun o1=>(adv (tkT t) j).bnd fun j1=>(ex (tkT t) gk (s+1) j1 o1 d).bnd fun x=>.ok (.bin (bo (tkT t j).k) L x.1,x.2.1,x.2.2)):=by
        unfold Hid;rw[lp,if_pos hat];simp only[hs3,if_true,if_false]
       have EQ:Hid (∀F:Nat→Nat→Rs (Tr×Nat×Nat),((cnt (tkT t) j o').bnd fun o1=>(adv (tkT t) j).bnd fun j1=>F j1 o1)=((Zk (tkT t) j o').bnd fun y=>F y.1 y.2)):=fun F=>(ZX (tkT t) j o' F).symm
       have CA:=Hm (Uf B b a c t j o' d wr hlp.out.ps s);rw[hat]at CA;have y2:=Px.c2 hlp.out.ps;dsimp only at y2;obtain⟨kk,hkk⟩:∃k,k=(tkT t j).k:=⟨_,rfl⟩;rw[←hkk]at y2 e1;have hk51:kk≤51:=by rw[hkk];exact X5 t j
       obtain⟨KV,hKV⟩:∃z,z=(kk:Int) -8:=⟨_,rfl⟩;have e9:IntKind.i64.wrap ((kk:Int) -8)=KV:=by rw[IntKind.wrap_i64];omega
       have HKV:=Hm hKV;have k3:((s:Int)==3)=true:=by simp;omega
       have HS3:=Hm hs3;clear hkk hKV hat hs3;go_wp2_with fail;refine CA.out.mono ?_;rintro e wq ⟨rfl,hbq⟩;have LQ:=Hm (hlp.out.below hbq);have z2:=zB hbq y2;have hqs:w.heap.size≤wq.heap.size:=LQ.out.gb.size;obtain⟨W2,hW2⟩:∃W,W=wq.alloc (.cells #[.int .i64 9,.int .i64 KV,.string ⟨#[]⟩] 88):=⟨_,rfl⟩;have A2:Hid (Below wq.heap.size wq W2):=by rw[hW2];exact zd (Below.refl _ _) _
       have O2:Hid (W2.heap[wq.heap.size]? =some (.cells #[.int .i64 9,.int .i64 KV,.string ⟨#[]⟩] 88)):=by rw[hW2];exact zo _ _
       have L2:=Hm (LQ.out.below A2.out);have G2:=Hm L2.out.gb;clear hbq y2 LQ;go_wp2_with fail;rw[←hW2];clear hW2 z2;refine(ZW B b a c t j o' d W2 L2.out.ps L2.out.ho).mono ?_;rintro e w3 ⟨p,g⟩
       cases hr3:Zk (tkT t) j o' with
       |out=>rw[hr3]at p;exact p.elim
       |bad cc aa=>
        have HR3:=Hm hr3;rw[hr3]at p;have p:e=.panicked (flV cc aa):=p;subst p;exact⟨rfl,(by simp only[HR1.out,HRL.out,hlo.out.symm,e1.out,EQ.out,HR3.out,zj,zx];exact rfl),zi (G2.out) g⟩
       |ok x3=>
        have HR3:=Hm hr3;rw[hr3]at p;obtain⟨rfl,p3⟩:=p;have P3:=Hm p3;have GG3:=Hm g;have G3:=Hm (zi (G2.out) g);clear p3 g hr3;have hx3:=YQ HR3.out L2.out.ho;have L3:=Hm (L2.out.grow hlt GG3.out P3.out hx3);have O3:=Hm (zl O2.out GG3.out (by omega));have HSS:Hid ((fun w'=>w'.cell? ⟨wq.heap.size,0,none⟩=some (.int .i64 9)∧w'.cell? ⟨wq.heap.size,1,none⟩=some (.int .i64 KV)∧w'.cell? ⟨wq.heap.size,2,none⟩=some (.string ⟨#[]⟩)) w3):=⟨(zb O3.out 0).trans rfl,(zb O3.out 1).trans rfl,(zb O3.out 2).trans rfl⟩;have D3:Hid (Below w3.heap.size w3 w3.drew):=(Below.refl _ _).drew;have L4:=Hm (L3.out.below D3.out);have hn5:ex (tkT t) gk (s+1) x3.1 x3.2 d≠.out:=fun e=>hRn.out (by rw[←hlo.out,e1.out,EQ.out,HR3.out,zj,e];rfl)
        have CE:=Hm ((HC.out gk (by omega)).ex (s+1) x3.1 x3.2 d w3.drew (by omega) (by omega) L4.out.ps hx3 hd hn5);have es:IntKind.i64.wrap ((s:Int)+1)=((s+1:Nat):Int):=by rw[IntKind.wrap_i64];omega
        have HSC:Hid (w.heap.size≤w3.drew.heap.size):=L4.out.gb.size;go_upto_region 7 with fail;refine wp_region_held_drew (S:=(fun w'=>w'.cell? ⟨wq.heap.size,0,none⟩=some (.int .i64 9)∧w'.cell? ⟨wq.heap.size,1,none⟩=some (.int .i64 KV)∧w'.cell? ⟨wq.heap.size,2,none⟩=some (.string ⟨#[]⟩))) (by kernel_rfl) ?_ (fun hHeld=>?_)
        ·exact HSS.out
        refine tK 0 ?_ rfl (by kernel_rfl) (fun _ _ _ h=>h) (by rfl) ?_ (by assumption) ?_;rotate_left
        ·intro w hSw;(try dsimp only at hSw);go_simp;(try with_reducible rfl)
        rotate_left;simp only[Act.put,qa,qb,qc,qf,qe,qd];refine tK 1 ?_ rfl (by kernel_rfl) (fun _ _ _ h=>h) (by rfl) ?_ (by assumption) ?_;rotate_left
        ·intro w hSw;(try dsimp only at hSw);go_simp;(try with_reducible rfl)
        rotate_left;simp only[Act.put,qa,qb,qc,qf,qe,qd];refine tK 2 ?_ rfl (by kernel_rfl) (fun _ _ _ h=>h) (by rfl) ?_ (by assumption) ?_;rotate_left
        ·intro w hSw;(try dsimp only at hSw);go_simp;(try with_reducible rfl)
        rotate_left;simp only[Act.put,qa,qb,qc,qf,qe,qd];refine tK 3 ?_ rfl (by kernel_rfl) (fun _ _ _ h=>h) (by rfl) ?_ (by assumption) ?_;rotate_left
        ·intro w hSw;(try dsimp only at hSw);go_simp;(try with_reducible rfl)
        rotate_left;simp only[Act.put,qa,qb,qc,qf,qe,qd];refine tK 4 ?_ rfl (by kernel_rfl) (fun _ _ _ h=>h) (by rfl) ?_ (by assumption) ?_;rotate_left
        ·intro w hSw;(try dsimp only at hSw);go_simp;(try with_reducible rfl)
        rotate_left;simp only[Act.put,qa,qb,qc,qf,qe,qd];refine wpAnyH_ready (rs:=[5]) (by kernel_rfl) (by simp) ?_;refine AllReadyH.cons rfl (fun K hK=>?_) ?_
        ·go_simp
         refine CE.out.mono ?_;rintro e w5 ⟨p,g⟩
         cases hr5:ex (tkT t) gk (s+1) x3.1 x3.2 d with
         |out=>exact absurd hr5 hn5
         |bad cc aa=>
          have HR5:=Hm hr5;rw[hr5]at p;have p:e=.panicked (flV cc aa):=p;subst p;exact⟨rfl,(by simp only[HR1.out,HRL.out,hlo.out.symm,e1.out,EQ.out,HR3.out,HR5.out,zj,zx];exact rfl),zi L4.out.gb g⟩
         |ok x5=>
          have HR5:=Hm hr5;rw[hr5]at p;obtain⟨v5,rfl,q5,p5,hx5⟩:=p;obtain⟨T5,u5,rfl⟩:=q5.form;have L5:Hid (Lp B b a c t w d (.iface 171 (.agg #[.int .i64 9,.int .i64 KV,.string ⟨#[]⟩,.iface T0 u0,.iface T5 u5])) (.bin (bo kk) L x5.1) x5.2.1 x5.2.2 w5):=⟨by rw[HKV.out];exact .bin (bo kk) _ _ _ _ (L4.out.nq.keep (Zr g hlt)) (q5.mono (fun x _ hh=>qq HSC.out hh)),p5,zi L4.out.gb g,hx5⟩
          have HS5:Hid ((fun w'=>w'.cell? ⟨wq.heap.size,0,none⟩=some (.int .i64 9)∧w'.cell? ⟨wq.heap.size,1,none⟩=some (.int .i64 KV)∧w'.cell? ⟨wq.heap.size,2,none⟩=some (.string ⟨#[]⟩)) w5):=⟨(zb (zl (zg O3.out D3.out) g (by omega)) 0).trans rfl,(zb (zl (zg O3.out D3.out) g (by omega)) 1).trans rfl,(zb (zl (zg O3.out D3.out) g (by omega)) 2).trans rfl⟩;clear q5 p5 g hr5;refine hK.out _ _ ?_ (fun hHeld=>?_)
          ·exact HS5.out
          clear hK K
          (try simp only[Act.put,qa,qb,qc,qf,qe,qd])
          refine tK 6 ?_ rfl (by kernel_rfl) (fun _ _ _ h=>h) (by rfl) ?_ (by assumption) ?_;rotate_left
          ·intro w hSw;(try dsimp only at hSw);go_simp;(try with_reducible rfl)
          rotate_left;simp only[Act.put,qa,qb,qc,qf,qe,qd];refine tK 7 ?_ rfl (by kernel_rfl) (fun _ _ _ h=>h) (by rfl) ?_ (by assumption) ?_;rotate_left
          ·intro w hSw;(try dsimp only at hSw);go_simp;(try with_reducible rfl)
          rotate_left;simp only[Act.put,qa,qb,qc,qf,qe,qd];refine tK 8 ?_ rfl (by kernel_rfl) (fun _ _ _ h=>h) (by rfl) ?_ (by assumption) ?_;rotate_left
          ·intro w hSw;(try dsimp only at hSw);go_simp;(try with_reducible rfl)
          rotate_left;simp only[Act.put,qa,qb,qc,qf,qe,qd];refine wpAnyH_done (by kernel_rfl) ?_ _;have hR:Hid (RL=.ok (.bin (bo kk) L x5.1,x5.2.1,x5.2.2)):=by unfold Hid;rw[←hlo.out,e1.out,EQ.out,HR3.out,zj,HR5.out,zj]
          have HQ:Hid (EP B b a c t w d (.bin (bo kk) L x5.1,x5.2.1,x5.2.2) (.returned (.iface 171 (.agg #[.int .i64 9,.int .i64 KV,.string ⟨#[]⟩,.iface T0 u0,.iface T5 u5]))) w5):=⟨_,rfl,L5.out.nq,L5.out.ps,L5.out.ho⟩;go_wp2;go_ret;exact⟨(by simp only[HR1.out,HRL.out,hR.out,zj];exact HQ.out),L5.out.gb⟩
        exact AllReadyH.nil
      ·have e1:Hid (lp (tkT t) (gk+1) s L j o' d=(cnt (tkT t) j o').bnd fun o1=>(adv (tkT t) j).bnd fun j1=>(ex (tkT t) gk (s+1) j1 o1 d).bnd fun x=>lp (tkT t) gk s (.bin (bo (tkT t j).k) L x.1) x.2.1 x.2.2 d):=by
        unfold Hid;rw[lp,if_pos hat];simp only[if_neg hs3]
       have EQ:Hid (∀F:Nat→Nat→Rs (Tr×Nat×Nat),((cnt (tkT t) j o').bnd fun o1=>(adv (tkT t) j).bnd fun j1=>F j1 o1)=((Zk (tkT t) j o').bnd fun y=>F y.1 y.2)):=fun F=>(ZX (tkT t) j o' F).symm
       have CA:=Hm (Uf B b a c t j o' d wr hlp.out.ps s);rw[hat]at CA;have y2:=Px.c2 hlp.out.ps;dsimp only at y2;obtain⟨kk,hkk⟩:∃k,k=(tkT t j).k:=⟨_,rfl⟩;rw[←hkk]at y2 e1;have hk51:kk≤51:=by rw[hkk];exact X5 t j
       obtain⟨KV,hKV⟩:∃z,z=(kk:Int) -8:=⟨_,rfl⟩;have e9:IntKind.i64.wrap ((kk:Int) -8)=KV:=by rw[IntKind.wrap_i64];omega
       have HKV:=Hm hKV;have k3:((s:Int)==3)=false:=by simp;omega
       have HS3:=Hm hs3;clear hkk hKV hat hs3;go_wp2_with fail;refine CA.out.mono ?_;rintro e wq ⟨rfl,hbq⟩;have LQ:=Hm (hlp.out.below hbq);have z2:=zB hbq y2;have hqs:w.heap.size≤wq.heap.size:=LQ.out.gb.size;obtain⟨W2,hW2⟩:∃W,W=wq.alloc (.cells #[.int .i64 9,.int .i64 KV,.string ⟨#[]⟩] 88):=⟨_,rfl⟩;have A2:Hid (Below wq.heap.size wq W2):=by rw[hW2];exact zd (Below.refl _ _) _
       have O2:Hid (W2.heap[wq.heap.size]? =some (.cells #[.int .i64 9,.int .i64 KV,.string ⟨#[]⟩] 88)):=by rw[hW2];exact zo _ _
       have L2:=Hm (LQ.out.below A2.out);have G2:=Hm L2.out.gb;clear hbq y2 LQ;go_wp2_with fail;rw[←hW2];clear hW2 z2;refine(ZW B b a c t j o' d W2 L2.out.ps L2.out.ho).mono ?_;rintro e w3 ⟨p,g⟩
       cases hr3:Zk (tkT t) j o' with
       |out=>rw[hr3]at p;exact p.elim
       |bad cc aa=>
        have HR3:=Hm hr3;rw[hr3]at p;have p:e=.panicked (flV cc aa):=p;subst p;exact⟨rfl,(by simp only[HR1.out,HRL.out,hlo.out.symm,e1.out,EQ.out,HR3.out,zj,zx];exact rfl),zi (G2.out) g⟩
       |ok x3=>
        have HR3:=Hm hr3;rw[hr3]at p;obtain⟨rfl,p3⟩:=p;have P3:=Hm p3;have GG3:=Hm g;have G3:=Hm (zi (G2.out) g);clear p3 g hr3;have hx3:=YQ HR3.out L2.out.ho;have L3:=Hm (L2.out.grow hlt GG3.out P3.out hx3);have O3:=Hm (zl O2.out GG3.out (by omega));have HSS:Hid ((fun w'=>w'.cell? ⟨wq.heap.size,0,none⟩=some (.int .i64 9)∧w'.cell? ⟨wq.heap.size,1,none⟩=some (.int .i64 KV)∧w'.cell? ⟨wq.heap.size,2,none⟩=some (.string ⟨#[]⟩)) w3):=⟨(zb O3.out 0).trans rfl,(zb O3.out 1).trans rfl,(zb O3.out 2).trans rfl⟩;have D3:Hid (Below w3.heap.size w3 w3.drew):=(Below.refl _ _).drew;have L4:=Hm (L3.out.below D3.out);have hn5:ex (tkT t) gk (s+1) x3.1 x3.2 d≠.out:=fun e=>hRn.out (by rw[←hlo.out,e1.out,EQ.out,HR3.out,zj,e];rfl)
        have CE:=Hm ((HC.out gk (by omega)).ex (s+1) x3.1 x3.2 d w3.drew (by omega) (by omega) L4.out.ps hx3 hd hn5);have es:IntKind.i64.wrap ((s:Int)+1)=((s+1:Nat):Int):=by rw[IntKind.wrap_i64];omega
        have HSC:Hid (w.heap.size≤w3.drew.heap.size):=L4.out.gb.size;go_upto_region 7 with fail;refine wp_region_held_drew (S:=(fun w'=>w'.cell? ⟨wq.heap.size,0,none⟩=some (.int .i64 9)∧w'.cell? ⟨wq.heap.size,1,none⟩=some (.int .i64 KV)∧w'.cell? ⟨wq.heap.size,2,none⟩=some (.string ⟨#[]⟩))) (by kernel_rfl) ?_ (fun hHeld=>?_)
        ·exact HSS.out
        refine tK 0 ?_ rfl (by kernel_rfl) (fun _ _ _ h=>h) (by rfl) ?_ (by assumption) ?_;rotate_left
        ·intro w hSw;(try dsimp only at hSw);go_simp;(try with_reducible rfl)
        rotate_left;simp only[Act.put,qa,qb,qc,qf,qe,qd];refine tK 1 ?_ rfl (by kernel_rfl) (fun _ _ _ h=>h) (by rfl) ?_ (by assumption) ?_;rotate_left
        ·intro w hSw;(try dsimp only at hSw);go_simp;(try with_reducible rfl)
        rotate_left;simp only[Act.put,qa,qb,qc,qf,qe,qd];refine tK 2 ?_ rfl (by kernel_rfl) (fun _ _ _ h=>h) (by rfl) ?_ (by assumption) ?_;rotate_left
        ·intro w hSw;(try dsimp only at hSw);go_simp;(try with_reducible rfl)
        rotate_left;simp only[Act.put,qa,qb,qc,qf,qe,qd];refine tK 3 ?_ rfl (by kernel_rfl) (fun _ _ _ h=>h) (by rfl) ?_ (by assumption) ?_;rotate_left
        ·intro w hSw;(try dsimp only at hSw);go_simp;(try with_reducible rfl)
        rotate_left;simp only[Act.put,qa,qb,qc,qf,qe,qd];refine tK 4 ?_ rfl (by kernel_rfl) (fun _ _ _ h=>h) (by rfl) ?_ (by assumption) ?_;rotate_left
        ·intro w hSw;(try dsimp only at hSw);go_simp;(try with_reducible rfl)
        rotate_left;simp only[Act.put,qa,qb,qc,qf,qe,qd];refine wpAnyH_ready (rs:=[5]) (by kernel_rfl) (by simp) ?_;refine AllReadyH.cons rfl (fun K hK=>?_) ?_
        ·go_simp
         refine CE.out.mono ?_;rintro e w5 ⟨p,g⟩
         cases hr5:ex (tkT t) gk (s+1) x3.1 x3.2 d with
         |out=>exact absurd hr5 hn5
         |bad cc aa=>
          have HR5:=Hm hr5;rw[hr5]at p;have p:e=.panicked (flV cc aa):=p;subst p;exact⟨rfl,(by simp only[HR1.out,HRL.out,hlo.out.symm,e1.out,EQ.out,HR3.out,HR5.out,zj,zx];exact rfl),zi L4.out.gb g⟩
         |ok x5=>
          have HR5:=Hm hr5;rw[hr5]at p;obtain⟨v5,rfl,q5,p5,hx5⟩:=p;obtain⟨T5,u5,rfl⟩:=q5.form;have L5:Hid (Lp B b a c t w d (.iface 171 (.agg #[.int .i64 9,.int .i64 KV,.string ⟨#[]⟩,.iface T0 u0,.iface T5 u5])) (.bin (bo kk) L x5.1) x5.2.1 x5.2.2 w5):=⟨by rw[HKV.out];exact .bin (bo kk) _ _ _ _ (L4.out.nq.keep (Zr g hlt)) (q5.mono (fun x _ hh=>qq HSC.out hh)),p5,zi L4.out.gb g,hx5⟩
          have HS5:Hid ((fun w'=>w'.cell? ⟨wq.heap.size,0,none⟩=some (.int .i64 9)∧w'.cell? ⟨wq.heap.size,1,none⟩=some (.int .i64 KV)∧w'.cell? ⟨wq.heap.size,2,none⟩=some (.string ⟨#[]⟩)) w5):=⟨(zb (zl (zg O3.out D3.out) g (by omega)) 0).trans rfl,(zb (zl (zg O3.out D3.out) g (by omega)) 1).trans rfl,(zb (zl (zg O3.out D3.out) g (by omega)) 2).trans rfl⟩;clear q5 p5 g hr5;refine hK.out _ _ ?_ (fun hHeld=>?_)
          ·exact HS5.out
          clear hK K
          (try simp only[Act.put,qa,qb,qc,qf,qe,qd])
          refine tK 6 ?_ rfl (by kernel_rfl) (fun _ _ _ h=>h) (by rfl) ?_ (by assumption) ?_;rotate_left
          ·intro w hSw;(try dsimp only at hSw);go_simp;(try with_reducible rfl)
          rotate_left;simp only[Act.put,qa,qb,qc,qf,qe,qd];refine tK 7 ?_ rfl (by kernel_rfl) (fun _ _ _ h=>h) (by rfl) ?_ (by assumption) ?_;rotate_left
          ·intro w hSw;(try dsimp only at hSw);go_simp;(try with_reducible rfl)
          rotate_left;simp only[Act.put,qa,qb,qc,qf,qe,qd];refine tK 8 ?_ rfl (by kernel_rfl) (fun _ _ _ h=>h) (by rfl) ?_ (by assumption) ?_;rotate_left
          ·intro w hSw;(try dsimp only at hSw);go_simp;(try with_reducible rfl)
          rotate_left;simp only[Act.put,qa,qb,qc,qf,qe,qd];refine wpAnyH_done (by kernel_rfl) ?_ _;have hlo':Hid (lp (tkT t) gk s (.bin (bo kk) L x5.1) x5.2.1 x5.2.2 d=RL):=by unfold Hid;rw[←hlo.out,e1.out,EQ.out,HR3.out,zj,HR5.out,zj]
          go_wp2_with fail
          go_roundg gk
          case measure=>omega
          case rel=>exact⟨.bin (bo kk) L x5.1,x5.2.1,x5.2.2,by omega,⟨_,_,rfl⟩,L5,hlo'⟩
        exact AllReadyH.nil
     |false=>
      have CA:=Hm (Uf B b a c t j o' d wr hlp.out.ps s);rw[hat]at CA
      have hR:Hid (RL=.ok (L,j,o')):=by
       have h1:=hlo.out;rw[lp,if_neg (by rw[hat];simp)]at h1;exact h1.symm
      clear hat;go_wp2_with fail;refine CA.out.mono ?_;rintro e wq ⟨rfl,hbq⟩;have LQ:=Hm (hlp.out.below hbq);clear hbq;have HQ:Hid (EP B b a c t w d (L,j,o') (.returned (.iface T0 u0)) wq):=⟨_,rfl,LQ.out.nq,LQ.out.ps,LQ.out.ho⟩;go_wp2;go_ret;exact⟨(by simp only[HR1.out,HRL.out,hR.out,zj];exact HQ.out),LQ.out.gb⟩
theorem allC (B b:Nat) (a:Option Addr) (c:Nat) (t:List UInt8):∀f,∀f',f'≤f→Cs B b a c t f'
 |0,f',hf=>by
  obtain rfl:f'=0:=by omega
  exact⟨fun s i o d w _ _ _ _ _ hn=>absurd (by rw[ex]) hn,fun i o d w _ _ _ hn=>absurd (by rw[un]) hn,fun i o d w _ _ _ hn=>absurd (by rw[pr]) hn,fun m i o d w _ _ _ _ _ hn=>absurd (by rw[og]) hn⟩
 |f+1,f',hf=>by
  have ih:=allC B b a c t f;by_cases h:f'≤f
  ·exact ih f' h
  ·obtain rfl:f'=f+1:=by omega
   exact⟨fun s i o d w h1 h6 h ho hd hn=>exC B b a c t f ih s i o d w h1 h6 h ho hd hn,fun i o d w h ho hd hn=>unC B b a c t f (ih f (qp _)) i o d w h ho hd hn,fun i o d w h ho hd hn=>prC B b a c t f (ih f (qp _)) i o d w h ho hd hn,fun m i o d w h1 h3 h ho hd hn=>ogC B b a c t f ih m i o d w h1 h3 h ho hd hn⟩
end Go.Proofs.YtbkajklninmhiaaGreatDoor.Par
namespace Go.Proofs.YtbkajklninmhiaaGreatDoor.Par
open Go Syn
variable {T:Nat→Tk}
def Nu (s:Nat):List Ent→Prop
 |[]=>True
 |e::_=>Sb s e=false∧Sb 6 e=false
theorem Nu.dr {s:Nat} {st:List Ent} (h:Nu s st) (out:List Po):dr s st out=(st,out):=by
 cases st with
 |nil=>rfl
 |cons e r=>rw[Par.dr,if_neg (by rw[h.1];simp)]
theorem Nu.bin {s:Nat} {v:Int} {st:List Ent} (h:z9 v=s) (h5:s≤5):Nu (s+1) (⟨3,v,0⟩::st):=by
 refine⟨?_,rfl⟩;unfold Sb
 split
 ·rfl
 ·simp;omega
theorem Nu.opn {s:Nat} {e:Ent} {st:List Ent} (h:4≤e.k):Nu s (e::st):=by
 unfold Nu Sb;constructor
 ·split
  ·simp;omega
  ·simp;omega
 ·simp;omega
theorem Xb.refl (S:MS):Xb T S S:=fun _ h=>h
theorem Xb.trans {S S' S'':MS} (h:Xb T S S') (h':Xb T S' S''):Xb T S S'':=fun R hR=>h R (h' R hR)
theorem Xb.one {S S':MS} (h:stp T S=.inl S'):Xb T S S':=fun R hR=>.go _ _ _ h hR
def pfs (L:List Tr):List Po:=L.flatMap Tr.pf
end Go.Proofs.YtbkajklninmhiaaGreatDoor.Par
namespace Go.Proofs.YtbkajklninmhiaaGreatDoor.Par
open Go Go.RowKit Mem Syn Parse
attribute [local go_sem ↓] Go.wp_at_zero Go.wp_at_succ
theorem Xv {T:Nat→Tk} {i o x:Nat} (h:cnt T i o=.ok x):x=o+1:=by
 unfold cnt at h
 split at h
 ·cases h
 ·injection h with h;omega
theorem yc {α β:Type} {r:Rs α} {F:α→Rs β} {y:β} (h:r.bnd F=.ok y):∃x,r=.ok x∧F x=.ok y:=by
 cases r with
 |out=>cases h
 |bad c a=>cases h
 |ok x=>exact⟨x,rfl,h⟩
theorem Sd (L:List Tr) (t:Tr):(pfs (L++[t])).length=(pfs L).length+t.pf.length:=by simp[pfs]
theorem QH {v:Nat} {L:List Tr} (h:L.length=2∨L.length=3):(Zh v L).pf.length=(pfs L).length+1:=by
 rcases L with _|⟨a,_|⟨b,_|⟨c,_|⟨e,r⟩⟩⟩⟩
 all_goals first|(simp at h;done)|(simp[Zh,Tr.pf,pfs];try omega)|(simp at h;omega)
theorem Se (T:Nat→Tk):∀f,
  (∀s i o d x,ex T f s i o d=.ok x→x.1.pf.length+o=x.2.2)∧
  (∀s l i o d x,lp T f s l i o d=.ok x→x.1.pf.length+o=l.pf.length+x.2.2)∧
  (∀i o d x,un T f i o d=.ok x→x.1.pf.length+o=x.2.2)∧
  (∀i o d x,pr T f i o d=.ok x→x.1.pf.length+o=x.2.2)∧
  (∀m i o d x,og T f m i o d=.ok x→(pfs x.1).length+o=x.2.2)∧
  (∀m L i o d x,ol T f m L i o d=.ok x→(pfs x.1).length+o=(pfs L).length+x.2.2)
 |0=>by
  refine⟨?_,?_,?_,?_,?_,?_⟩
  ·intro s i o d x h;rw[ex]at h;cases h
  ·intro s l i o d x h;rw[lp]at h;cases h
  ·intro i o d x h;rw[un]at h;cases h
  ·intro i o d x h;rw[pr]at h;cases h
  ·intro m i o d x h;rw[og]at h;cases h
  ·intro m L i o d x h;rw[ol]at h;cases h
 |f+1=>by
  obtain⟨hE,hL,hU,hP,hG,hO⟩:=Se T f;refine⟨?_,?_,?_,?_,?_,?_⟩
  ·intro s i o d x h
   rw[ex]at h
   split at h
   ·exact hU i o d x h
   ·obtain⟨y,h1,h2⟩:=yc h
    have:=hE _ _ _ _ _ h1;have:=hL _ _ _ _ _ _ h2;omega
  ·intro s l i o d x h
   rw[lp]at h
   split at h
   ·obtain⟨o1,h1,h⟩:=yc h
    obtain⟨j,h2,h⟩:=yc h;obtain⟨y,h3,h⟩:=yc h;have e1:=Xv h1;have e3:=hE _ _ _ _ _ h3
    split at h
    ·injection h with h
     rw[←h];simp only[Tr.pf,qg,List.length_singleton];omega
    ·have:=hL _ _ _ _ _ _ h
     simp only[Tr.pf,qg,List.length_singleton]at this;omega
   ·injection h with h;rw[←h]
  ·intro i o d x h
   rw[un]at h
   split at h
   ·obtain⟨o1,h1,h⟩:=yc h
    obtain⟨u,h2,h⟩:=yc h;obtain⟨j,h3,h⟩:=yc h;obtain⟨y,h4,h⟩:=yc h;have e1:=Xv h1;have e4:=hU _ _ _ _ h4;injection h with h;rw[←h];simp only[Tr.pf,qg,List.length_singleton];omega
   ·exact hP i o d x h
  ·intro i o d x h
   rw[pr]at h
   split at h
   ·obtain⟨y,h1,h⟩:=yc h
    have:=hG _ _ _ _ _ h1;have hl:=WL h1 (qp _);injection h with h;rw[←h];obtain⟨L,j,oo⟩:=y;obtain⟨a,rfl⟩:=List.length_eq_one_iff.1 hl;simp[pfs]at this ⊢;exact this
   ·split at h
    ·obtain⟨o1,h1,h⟩:=yc h
     obtain⟨j,h2,h⟩:=yc h;obtain⟨y,h3,h⟩:=yc h;have e1:=Xv h1;have e3:=hG _ _ _ _ _ h3;have hl:=WL h3 (by split<;>omega);injection h with h;rw[←h];dsimp only;rw[QH (by rw[hl];split<;>simp)];omega
    ·split at h
     ·obtain⟨o1,h1,h⟩:=yc h
      obtain⟨j,h2,h⟩:=yc h;obtain⟨y,h3,h⟩:=yc h;have e1:=Xv h1;injection h with h;rw[←h];simp only[Tr.pf,List.length_singleton];omega
     ·split at h
      ·cases h
      ·obtain⟨o1,h1,h⟩:=yc h
       obtain⟨j,h2,h⟩:=yc h;have e1:=Xv h1;injection h with h;rw[←h];simp only[Tr.pf,List.length_singleton];omega
  ·intro m i o d x h
   rw[og]at h
   split at h
   ·obtain⟨u,h1,h⟩:=yc h
    obtain⟨j,h2,h⟩:=yc h;obtain⟨y,h3,h⟩:=yc h;obtain⟨z,h4,h⟩:=yc h;obtain⟨k,h5,h⟩:=yc h;have e3:=hE _ _ _ _ _ h3;have e4:=hO _ _ _ _ _ _ h4;injection h with h;rw[←h];simp[pfs]at e4 ⊢;omega
   ·cases h
  ·intro m L i o d x h
   cases m with
   |zero=>rw[ol]at h;injection h with h;rw[←h]
   |succ m=>
    rw[ol]at h;obtain⟨j,h1,h⟩:=yc h;obtain⟨y,h2,h⟩:=yc h;have e2:=hE _ _ _ _ _ h2;have e3:=hO _ _ _ _ _ _ h;rw[Sd]at e3;omega
end Go.Proofs.YtbkajklninmhiaaGreatDoor.Par
