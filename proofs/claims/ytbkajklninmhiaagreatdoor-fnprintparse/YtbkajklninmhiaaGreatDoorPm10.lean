import Derived.Test.YtbkajklninmhiaaGreatDoorPm09
set_option maxHeartbeats 3200000
set_option maxRecDepth 1000000
set_option linter.unusedVariables false
set_option linter.unusedSimpArgs false
open Nat renaming le_trans → qq
namespace Go.Proofs.YtbkajklninmhiaaGreatDoor.Par
open Go Go.RowKit Mem Syn Parse
inductive Nq (w:World) (ok:Nat→Prop):Value→Tr→Prop
 |leaf (o:Po):Nq w ok (.iface 164 (opV o)) (.leaf o)
 |pre (o:Po) (v:Value) (a:Tr) (h:Nq w ok v a):Nq w ok (.iface 167 (.agg #[.int .i64 o.k,.int .i64 o.v,.string ⟨o.n.toArray⟩,v])) (.pre o a)
 |bin (o:Po) (v u:Value) (a b:Tr) (h:Nq w ok v a) (h':Nq w ok u b):Nq w ok (.iface 171 (.agg #[.int .i64 o.k,.int .i64 o.v,.string ⟨o.n.toArray⟩,v,u])) (.bin o a b)
 |two (o:Po) (g c:Nat) (v u:Value) (a b:Tr) (hr:ok g) (hk:Nk w g) (c1:w.cell? ⟨g,0,none⟩=some v) (c2:w.cell? ⟨g,1,none⟩=some u) (h:Nq w ok v a) (h':Nq w ok u b):Nq w ok (.iface 174 (.agg #[.int .i64 o.k,.int .i64 o.v,.string ⟨o.n.toArray⟩,.slice (some ⟨g,0,none⟩) 2 c])) (.two o a b)
 |three (o:Po) (g c:Nat) (v u x:Value) (a b d:Tr) (hr:ok g) (hk:Nk w g) (c1:w.cell? ⟨g,0,none⟩=some v) (c2:w.cell? ⟨g,1,none⟩=some u) (c3:w.cell? ⟨g,2,none⟩=some x) (h:Nq w ok v a) (h':Nq w ok u b) (h'':Nq w ok x d):Nq w ok (.iface 174 (.agg #[.int .i64 o.k,.int .i64 o.v,.string ⟨o.n.toArray⟩,.slice (some ⟨g,0,none⟩) 3 c])) (.three o a b d)
def Kn (ok:Nat→Prop) (w w':World):Prop:=∀g C fr,ok g→w.heap[g]? =some (.cells C 130 fr)→w'.heap[g]? =some (.cells C 130 fr)
theorem Kn.cell {ok:Nat→Prop} {w w':World} (h:Kn ok w w') {g i:Nat} {v:Value} (hg:ok g) (hk:Nk w g) (hc:w.cell? ⟨g,i,none⟩=some v):w'.cell? ⟨g,i,none⟩=some v:=by
 obtain⟨C,fr,hb⟩:=hk;rw[World.cell?_of_block (w:=w) (a:=⟨g,i,none⟩) (by rw[h g C fr hg hb,hb])];exact hc
theorem Kn.nk {ok:Nat→Prop} {w w':World} (h:Kn ok w w') {g:Nat} (hg:ok g) (hk:Nk w g):Nk w' g:=by
 obtain⟨C,fr,hb⟩:=hk;exact⟨C,fr,h g C fr hg hb⟩
theorem Nq.keep {w w':World} {ok:Nat→Prop} {v:Value} {t:Tr} (h:Nq w ok v t) (hk:Kn ok w w'):Nq w' ok v t:=by
 induction h with
 |leaf o=>exact .leaf o
 |pre o v a h ih=>exact .pre o v a ih
 |bin o v u a b h h' ih ih'=>exact .bin o v u a b ih ih'
 |two o g c v u a b hr h0 c1 c2 h h' ih ih'=>exact .two o g c v u a b hr (hk.nk hr h0) (hk.cell hr h0 c1) (hk.cell hr h0 c2) ih ih'
 |three o g c v u x a b d hr h0 c1 c2 c3 h h' h'' ih ih' ih''=>exact .three o g c v u x a b d hr (hk.nk hr h0) (hk.cell hr h0 c1) (hk.cell hr h0 c2) (hk.cell hr h0 c3) ih ih' ih''
theorem Nq.mono {w:World} {ok ok':Nat→Prop} {v:Value} {t:Tr} (h:Nq w ok v t) (hk:∀g,g<w.heap.size→ok g→ok' g):Nq w ok' v t:=by
 induction h with
 |leaf o=>exact .leaf o
 |pre o v a h ih=>exact .pre o v a ih
 |bin o v u a b h h' ih ih'=>exact .bin o v u a b ih ih'
 |two o g c v u a b hr h0 c1 c2 h h' ih ih'=>exact .two o g c v u a b (hk g (lt_of_cell c1) hr) h0 c1 c2 ih ih'
 |three o g c v u x a b d hr h0 c1 c2 c3 h h' h'' ih ih' ih''=>exact .three o g c v u x a b d (hk g (lt_of_cell c1) hr) h0 c1 c2 c3 ih ih' ih''
theorem Nq.one {w:World} {ok:Nat→Prop} {v:Value} {t:Tr} (h:Nq w ok v t):v.oneCell'=true:=by cases h<;>rfl
theorem Nq.form {w:World} {ok:Nat→Prop} {v:Value} {t:Tr} (h:Nq w ok v t):∃T u,v=.iface T u:=by cases h<;>exact⟨_,_,rfl⟩
inductive Nqs (w:World) (ok:Nat→Prop):List Value→List Tr→Prop
 |nil:Nqs w ok [] []
 |cons (v:Value) (t:Tr) (vs:List Value) (ts:List Tr) (h:Nq w ok v t) (hs:Nqs w ok vs ts):Nqs w ok (v::vs) (t::ts)
theorem Nqs.keep {w w':World} {ok:Nat→Prop} {vs:List Value} {ts:List Tr} (h:Nqs w ok vs ts) (hk:Kn ok w w'):Nqs w' ok vs ts:=by
 induction h with
 |nil=>exact .nil
 |cons v t vs ts h hs ih=>exact .cons _ _ _ _ (h.keep hk) ih
theorem Nqs.mono {w:World} {ok ok':Nat→Prop} {vs:List Value} {ts:List Tr} (h:Nqs w ok vs ts) (hk:∀g,g<w.heap.size→ok g→ok' g):Nqs w ok' vs ts:=by
 induction h with
 |nil=>exact .nil
 |cons v t vs ts h hs ih=>exact .cons _ _ _ _ (h.mono hk) ih
theorem Nqs.snoc {w:World} {ok:Nat→Prop} {vs:List Value} {ts:List Tr} {v:Value} {t:Tr} (h:Nqs w ok vs ts) (hv:Nq w ok v t):Nqs w ok (vs++[v]) (ts++[t]):=by
 induction h with
 |nil=>exact .cons _ _ _ _ hv .nil
 |cons v t vs ts h hs ih=>exact .cons _ _ _ _ h ih
theorem Nqs.len {w:World} {ok:Nat→Prop} {vs:List Value} {ts:List Tr} (h:Nqs w ok vs ts):vs.length=ts.length:=by
 induction h with
 |nil=>rfl
 |cons v t vs ts h hs ih=>simp[ih]
def Nw (B:Nat) (g:Nat):Prop:=B≤g
theorem Zr {B b:Nat} {w w':World} (h:w.grownBy w' (some b)) (hb:b<B):Kn (Nw B) w w':=fun g C fr hg hc=>by
 unfold Nw at hg;rw[h.block g (zN hc) (by simp;omega)];exact hc
theorem yu {ok:Nat→Prop} {w w':World} (h:Below w.heap.size w w'):Kn ok w w':=fun g C fr hg hc=>by
 rw[h.block g (zN hc)];exact hc
theorem ZX {α:Type} (T:Nat→Tk) (i o:Nat) (F:Nat→Nat→Rs α):((Zk T i o).bnd fun y=>F y.1 y.2)=(cnt T i o).bnd fun o1=>(adv T i).bnd fun j=>F j o1:=by
 unfold Zk
 cases cnt T i o with
 |out=>rfl
 |bad c a=>rfl
 |ok o1=>
  rw[zj,zj]
  cases adv T i<;>rfl
theorem YX {T:Nat→Tk} {i o x:Nat} (h:cnt T i o=.ok x) (ho:o≤2000):x≤2000:=by
 unfold cnt at h
 split at h
 ·cases h
 ·injection h with h;omega
theorem YQ {T:Nat→Tk} {i o:Nat} {x:Nat×Nat} (h:Zk T i o=.ok x) (ho:o≤2000):x.2≤2000:=by
 unfold Zk at h
 cases hc:cnt T i o with
 |out=>rw[hc]at h;cases h
 |bad c a=>rw[hc]at h;cases h
 |ok o1=>
  rw[hc,zj]at h
  cases ha:adv T i with
  |out=>rw[ha]at h;cases h
  |bad c a=>rw[ha]at h;cases h
  |ok j=>rw[ha,zj]at h;injection h with h;rw[←h];exact YX hc ho
theorem VY {T:Nat→Tk} {i d:Nat} {x:Unit} (h:Yn T i d=.ok x) (hd:d≤64):d+1≤64:=by
 unfold Yn at h
 split at h
 ·cases h
 ·omega
theorem XS {T:Nat→Tk} {i:Nat}:adv T i≠.out:=by unfold adv;split<;>(try split)<;>simp
def EP (B b:Nat) (a:Option Addr) (c:Nat) (t:List UInt8) (w:World) (d:Nat) (x:Tr×Nat×Nat) (e:Ending) (w':World):Prop:=∃v,e=.returned v∧Nq w' (Nw w.heap.size) v x.1∧PS B b a c t x.2.1 x.2.2 d w'∧x.2.2≤2000
def OP (B b:Nat) (a:Option Addr) (c:Nat) (t:List UInt8) (w:World) (d:Nat) (x:List Tr×Nat×Nat) (e:Ending) (w':World):Prop:=∃g cap vs,e=.returned (.slice (some ⟨g,0,none⟩) x.1.length cap)∧Nqs w' (Nw w.heap.size) vs x.1∧w.heap.size≤g∧Nk w' g∧(∀j v,vs[j]? =some v→w'.cell? ⟨g,j,none⟩=some v)∧x.1.length≤cap∧PS B b a c t x.2.1 x.2.2 d w'∧x.2.2≤2000
structure Cs (B b:Nat) (a:Option Addr) (c:Nat) (t:List UInt8) (f:Nat):Prop where
 ex:∀(s i o d:Nat) (w:World),1≤s→s≤6→PS B b a c t i o d w→o≤2000→d≤64→ex (tkT t) f s i o d≠.out→Calls Tryz.prog 130 #[.pointer (some ⟨b,0,none⟩),.int .i64 (s:Int)] w fun e w'=>Res (ex (tkT t) f s i o d) (EP B b a c t w d) e w'∧w.grownBy w' (some b)
 un:∀(i o d:Nat) (w:World),PS B b a c t i o d w→o≤2000→d≤64→un (tkT t) f i o d≠.out→Calls Tryz.prog 152 #[.pointer (some ⟨b,0,none⟩)] w fun e w'=>Res (un (tkT t) f i o d) (EP B b a c t w d) e w'∧w.grownBy w' (some b)
 pr:∀(i o d:Nat) (w:World),PS B b a c t i o d w→o≤2000→d≤64→pr (tkT t) f i o d≠.out→Calls Tryz.prog 161 #[.pointer (some ⟨b,0,none⟩)] w fun e w'=>Res (pr (tkT t) f i o d) (EP B b a c t w d) e w'∧w.grownBy w' (some b)
 og:∀(m i o d:Nat) (w:World),1≤m→m≤3→PS B b a c t i o d w→o≤2000→d≤64→og (tkT t) f m i o d≠.out→Calls Tryz.prog 166 #[.pointer (some ⟨b,0,none⟩),.int .i64 (m:Int)] w fun e w'=>Res (og (tkT t) f m i o d) (OP B b a c t w d) e w'∧w.grownBy w' (some b)
end Go.Proofs.YtbkajklninmhiaaGreatDoor.Par
namespace Go.Proofs.YtbkajklninmhiaaGreatDoor.Par
open Go Go.RowKit Mem Syn Parse
attribute [local go_sem ↓] Go.wp_at_zero Go.wp_at_succ
theorem unC (B b:Nat) (a:Option Addr) (c:Nat) (t:List UInt8) (f:Nat) (H:Cs B b a c t f) (i o d:Nat) (w:World) (h:PS B b a c t i o d w) (ho:o≤2000) (hd:d≤64) (hn:un (tkT t) (f+1) i o d≠.out):
  Calls Tryz.prog 152 #[.pointer (some ⟨b,0,none⟩)] w fun e w'=>Res (un (tkT t) (f+1) i o d) (EP B b a c t w d) e w'∧w.grownBy w' (some b):=by
 have HC:=Hm H;have hlt:=Px.lt h;have y2:=Px.c2 h;dsimp only at y2;rw[un]at hn ⊢;obtain⟨W1,hW1⟩:∃W,W=w.alloc (.cells #[.int .i64 7,.int .i64 0,.string ⟨#[]⟩] 88):=⟨_,rfl⟩;have A1:Hid (Below w.heap.size w W1):=by rw[hW1];exact zd (Below.refl _ _) _
 have O1:Hid (W1.heap[w.heap.size]? =some (.cells #[.int .i64 7,.int .i64 0,.string ⟨#[]⟩] 88)):=by rw[hW1];exact zo _ _
 have P0:Hid (PS B b a c t i o d W1):=Px.below h A1.out;have G0:Hid (w.grownBy W1 (some b)):=zD A1.out;have HS1:Hid (w.heap.size≤W1.heap.size):=A1.out.size;clear H;obtain⟨k,hk⟩:∃k,k=(tkT t i).k:=⟨_,rfl⟩;rw[←hk]at y2 hn ⊢;clear hk;by_cases hop:k=10∨k=47
 ·rw[if_pos hop]at hn ⊢
  rcases hop with hop|hop
  ·have k2:((k:Int)==10)=true:=by simp;omega
   have O2:=O1;have P2:=P0;have GW:=G0;have hu:U8 k=⟨7,0,[]⟩:=by unfold U8;rw[if_pos hop]
   rw[hu]at hn ⊢;have HSW:Hid (w.heap.size≤W1.heap.size):=GW.out.size;have HN:=Hm hn;clear hop hu hn O1 P0 G0 A1 HS1 h;go_enter Tryz.func152,Tryz.ntmps152;go_wp2_with fail;rw[←hW1];clear hW1;refine(XK B b a c t i o d W1 P2.out ho).mono ?_;rintro e w1 ⟨p,g⟩
   cases hr1:cnt (tkT t) i o with
   |out=>rw[hr1]at p;exact p.elim
   |bad cc aa=>
    have HR1:=Hm hr1;rw[hr1]at p;have p:e=.panicked (flV cc aa):=p;subst p;exact⟨rfl,(by simp only[HR1.out,zj,zx];exact rfl),zi (GW.out) g⟩
   |ok x1=>
    have HR1:=Hm hr1;rw[hr1]at p;obtain⟨rfl,p1⟩:=p;have P1:=Hm p1;have GG1:=Hm g;have G1:=Hm (zi (GW.out) g);clear p1 g hr1;have hx1:=YX HR1.out ho;go_wp2_with fail;refine(Yr B b a c t i x1 d _ P1.out hd).mono ?_;rintro e w2 ⟨p,g⟩
    cases hr2:Yn (tkT t) i d with
    |out=>rw[hr2]at p;exact p.elim
    |bad cc aa=>
     have HR2:=Hm hr2;rw[hr2]at p;have p:e=.panicked (flV cc aa):=p;subst p;exact⟨rfl,(by simp only[HR1.out,HR2.out,zj,zx];exact rfl),zi (G1.out) g⟩
    |ok x2=>
     have HR2:=Hm hr2;rw[hr2]at p;obtain⟨rfl,p2⟩:=p;have P2:=Hm p2;have GG2:=Hm g;have G2:=Hm (zi (G1.out) g);clear p2 g hr2;have hd1:=VY HR2.out hd;go_wp2_with fail;refine(ZS B b a c t i x1 (d+1) _ P2.out).mono ?_;rintro e w3 ⟨p,g⟩
     cases hr3:adv (tkT t) i with
     |out=>rw[hr3]at p;exact p.elim
     |bad cc aa=>
      have HR3:=Hm hr3;rw[hr3]at p;have p:e=.panicked (flV cc aa):=p;subst p;exact⟨rfl,(by simp only[HR1.out,HR2.out,HR3.out,zj,zx];exact rfl),zi (G2.out) g⟩
     |ok x3=>
      have HR3:=Hm hr3;rw[hr3]at p;obtain⟨rfl,p3⟩:=p;have P3:=Hm p3;have GG3:=Hm g;have G3:=Hm (zi (G2.out) g);clear p3 g hr3;have hn4:un (tkT t) f x3 x1 (d+1)≠.out:=fun e=>HN.out (by simp only[HR1.out,HR2.out,HR3.out,zj,e];rfl)
      go_wp2_with fail;refine(HC.out.un x3 x1 (d+1) _ P3.out hx1 hd1 hn4).mono ?_;rintro e w4 ⟨p,g⟩
      cases hr4:un (tkT t) f x3 x1 (d+1)with
      |out=>rw[hr4]at p;exact p.elim
      |bad cc aa=>
       have HR4:=Hm hr4;rw[hr4]at p;have p:e=.panicked (flV cc aa):=p;subst p;exact⟨rfl,(by simp only[HR1.out,HR2.out,HR3.out,HR4.out,zj,zx];exact rfl),zi (G3.out) g⟩
      |ok x4=>
       have HR4:=Hm hr4;rw[hr4]at p;obtain⟨v,rfl,q,p4,hx⟩:=p;have P4:=Hm p4;have GG4:=Hm g;have G4:=Hm (zi (G3.out) g);obtain⟨TT,uu,rfl⟩:=q.form;have Q4:=Hm q;clear q;clear p4 g hr4;have OB:=Hm (zl (zl (zl (zl O2.out GG1.out (by omega)) GG2.out (by omega)) GG3.out (by omega)) GG4.out (by omega));have o0:=(zb OB.out 0).trans rfl;have o1:=(zb OB.out 1).trans rfl;have o2:=(zb OB.out 2).trans rfl;have y7:=Px.c7 P4.out;have f7:=Px.fz P4.out 7;dsimp only at y7;have e9:IntKind.i64.wrap (((d+1:Nat):Int) -1)=(d:Int):=by rw[IntKind.wrap_i64];omega
       obtain⟨D,hD⟩:∃D,D=d+1:=⟨_,rfl⟩;rw[←hD]at y7 e9;have HD:=Hm hD;clear hD y2;have HQ:Hid (EP B b a c t w d (.pre ⟨7,0,[]⟩ x4.1,x4.2.1,x4.2.2) (.returned (.iface 167 (.agg #[.int .i64 7,.int .i64 0,.string ⟨#[]⟩,.iface TT uu]))) (w4.setCell ⟨b,7,none⟩ (.int .i64 (d:Int)))):=⟨_,rfl,Nq.pre ⟨7,0,[]⟩ _ _ ((Q4.out.mono (ok':=Nw w.heap.size) (fun g _ hg=>qq (qq HSW.out (qq GG1.out.size (qq GG2.out.size GG3.out.size))) hg)).keep (Zr (yJ _ _ _ _) hlt)),Px.set7 P4.out (d:=d) rfl,hx⟩;go_wp2;go_ret;exact⟨(by simp only[HR1.out,HR2.out,HR3.out,HR4.out,zj];exact HQ.out),zi G4.out (yJ _ _ _ _)⟩
  ·have k1:((k:Int)==10)=false:=by simp;omega
   have k2:((k:Int)==47)=true:=by simp;omega
   obtain⟨W2,hW2⟩:∃W,W=w.alloc (.cells #[.int .i64 8,.int .i64 0,.string ⟨#[]⟩] 88):=⟨_,rfl⟩;have A2:Hid (Below w.heap.size w W2):=by rw[hW2];exact zd (Below.refl _ _) _
   have O2:Hid (W2.heap[w.heap.size]? =some (.cells #[.int .i64 8,.int .i64 0,.string ⟨#[]⟩] 88)):=by rw[hW2];exact zo _ _
   have P2:Hid (PS B b a c t i o d W2):=Px.below h A2.out;have GW:Hid (w.grownBy W2 (some b)):=zD A2.out;have hu:U8 k=⟨8,0,[]⟩:=by unfold U8;rw[if_neg (by omega)]
   rw[hu]at hn ⊢;have HSW:Hid (w.heap.size≤W2.heap.size):=GW.out.size;have HN:=Hm hn;clear hop hu hn O1 P0 G0 A1 HS1 h;go_enter Tryz.func152,Tryz.ntmps152;go_wp2_with fail;rw[←hW2];clear hW1;clear hW2;refine(XK B b a c t i o d W2 P2.out ho).mono ?_;rintro e w1 ⟨p,g⟩
   cases hr1:cnt (tkT t) i o with
   |out=>rw[hr1]at p;exact p.elim
   |bad cc aa=>
    have HR1:=Hm hr1;rw[hr1]at p;have p:e=.panicked (flV cc aa):=p;subst p;exact⟨rfl,(by simp only[HR1.out,zj,zx];exact rfl),zi (GW.out) g⟩
   |ok x1=>
    have HR1:=Hm hr1;rw[hr1]at p;obtain⟨rfl,p1⟩:=p;have P1:=Hm p1;have GG1:=Hm g;have G1:=Hm (zi (GW.out) g);clear p1 g hr1;have hx1:=YX HR1.out ho;go_wp2_with fail;refine(Yr B b a c t i x1 d _ P1.out hd).mono ?_;rintro e w2 ⟨p,g⟩
    cases hr2:Yn (tkT t) i d with
    |out=>rw[hr2]at p;exact p.elim
    |bad cc aa=>
     have HR2:=Hm hr2;rw[hr2]at p;have p:e=.panicked (flV cc aa):=p;subst p;exact⟨rfl,(by simp only[HR1.out,HR2.out,zj,zx];exact rfl),zi (G1.out) g⟩
    |ok x2=>
     have HR2:=Hm hr2;rw[hr2]at p;obtain⟨rfl,p2⟩:=p;have P2:=Hm p2;have GG2:=Hm g;have G2:=Hm (zi (G1.out) g);clear p2 g hr2;have hd1:=VY HR2.out hd;go_wp2_with fail;refine(ZS B b a c t i x1 (d+1) _ P2.out).mono ?_;rintro e w3 ⟨p,g⟩
     cases hr3:adv (tkT t) i with
     |out=>rw[hr3]at p;exact p.elim
     |bad cc aa=>
      have HR3:=Hm hr3;rw[hr3]at p;have p:e=.panicked (flV cc aa):=p;subst p;exact⟨rfl,(by simp only[HR1.out,HR2.out,HR3.out,zj,zx];exact rfl),zi (G2.out) g⟩
     |ok x3=>
      have HR3:=Hm hr3;rw[hr3]at p;obtain⟨rfl,p3⟩:=p;have P3:=Hm p3;have GG3:=Hm g;have G3:=Hm (zi (G2.out) g);clear p3 g hr3;have hn4:un (tkT t) f x3 x1 (d+1)≠.out:=fun e=>HN.out (by simp only[HR1.out,HR2.out,HR3.out,zj,e];rfl)
      go_wp2_with fail;refine(HC.out.un x3 x1 (d+1) _ P3.out hx1 hd1 hn4).mono ?_;rintro e w4 ⟨p,g⟩
      cases hr4:un (tkT t) f x3 x1 (d+1)with
      |out=>rw[hr4]at p;exact p.elim
      |bad cc aa=>
       have HR4:=Hm hr4;rw[hr4]at p;have p:e=.panicked (flV cc aa):=p;subst p;exact⟨rfl,(by simp only[HR1.out,HR2.out,HR3.out,HR4.out,zj,zx];exact rfl),zi (G3.out) g⟩
      |ok x4=>
       have HR4:=Hm hr4;rw[hr4]at p;obtain⟨v,rfl,q,p4,hx⟩:=p;have P4:=Hm p4;have GG4:=Hm g;have G4:=Hm (zi (G3.out) g);obtain⟨TT,uu,rfl⟩:=q.form;have Q4:=Hm q;clear q;clear p4 g hr4;have OB:=Hm (zl (zl (zl (zl O2.out GG1.out (by omega)) GG2.out (by omega)) GG3.out (by omega)) GG4.out (by omega));have o0:=(zb OB.out 0).trans rfl;have o1:=(zb OB.out 1).trans rfl;have o2:=(zb OB.out 2).trans rfl;have y7:=Px.c7 P4.out;have f7:=Px.fz P4.out 7;dsimp only at y7;have e9:IntKind.i64.wrap (((d+1:Nat):Int) -1)=(d:Int):=by rw[IntKind.wrap_i64];omega
       obtain⟨D,hD⟩:∃D,D=d+1:=⟨_,rfl⟩;rw[←hD]at y7 e9;have HD:=Hm hD;clear hD y2;have HQ:Hid (EP B b a c t w d (.pre ⟨8,0,[]⟩ x4.1,x4.2.1,x4.2.2) (.returned (.iface 167 (.agg #[.int .i64 8,.int .i64 0,.string ⟨#[]⟩,.iface TT uu]))) (w4.setCell ⟨b,7,none⟩ (.int .i64 (d:Int)))):=⟨_,rfl,Nq.pre ⟨8,0,[]⟩ _ _ ((Q4.out.mono (ok':=Nw w.heap.size) (fun g _ hg=>qq (qq HSW.out (qq GG1.out.size (qq GG2.out.size GG3.out.size))) hg)).keep (Zr (yJ _ _ _ _) hlt)),Px.set7 P4.out (d:=d) rfl,hx⟩;go_wp2;go_ret;exact⟨(by simp only[HR1.out,HR2.out,HR3.out,HR4.out,zj];exact HQ.out),zi G4.out (yJ _ _ _ _)⟩
 ·rw[if_neg hop]at hn ⊢
  have k1:((k:Int)==10)=false:=by simp;omega
  have k2:((k:Int)==47)=false:=by simp;omega
  clear hop h;go_enter Tryz.func152,Tryz.ntmps152;go_wp2_with fail;rw[←hW1];refine(HC.out.pr i o d W1 P0.out ho hd hn).mono ?_;rintro e w1 ⟨p,g⟩
  cases hr:pr (tkT t) f i o d with
  |out=>exact absurd hr hn
  |bad cc aa=>rw[hr]at p;have p:e=.panicked (flV cc aa):=p;subst p;exact⟨rfl,(by rw[hr];exact rfl),zi G0.out g⟩
  |ok x=>
   rw[hr]at p;obtain⟨v,rfl,q,p,hx⟩:=p;have HQ:Hid (EP B b a c t w d x (.returned v) w1):=⟨v,rfl,q.mono (fun g _ hg=>qq HS1.out hg),p,hx⟩;have HR:=Hm hr;have HG:=Hm (zi G0.out g);clear q p hx hr g;go_wp2;go_ret;exact⟨(by rw[HR.out];exact HQ.out),HG.out⟩
end Go.Proofs.YtbkajklninmhiaaGreatDoor.Par
