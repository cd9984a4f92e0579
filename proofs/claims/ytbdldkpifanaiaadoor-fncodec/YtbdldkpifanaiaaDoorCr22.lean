import Derived.Test.YtbdldkpifanaiaaDoorCr21
set_option linter.unusedVariables false
set_option linter.unusedSimpArgs false
open List renaming length_append → qg, getElem?_toArray → qk, getElem?_cons_zero → ql, getElem?_cons_succ → qm
namespace Go.Proofs.YtbdldkpifanaiaaDoor.Cd
open Go Go.RowKit Mem Syn
attribute [local go_sem ↓] Go.wp_at_zero Go.wp_at_succ
def xT (r v:Int):Nat→List Is
 |0=>[]
 |j+1=>xT r v j++[⟨1,r+(j:Int),v,0⟩]
def yy (P:Pr):Nat→List Is
 |0=>[]
 |i+1=>yy P i++xT (reg P i) (if (P.I i).k=4 then (P.I i).K else 0) (xS (P.I i).k)
def zY (P:Pr) (t:Int):Nat→List Is
 |0=>[]
 |i+1=>zY P t i++zU P i t (P.I i) (reg P i) (zM P i)
def Vn (P:Pr) (t:Int) (i:Nat):List Is:=
 if (P.I i).k=1 then zU P i t (P.I i) (reg P i) (zM P i)else if (P.I i).k=3 then gen (zG P) (trE (P.I i).E (P.I i).nE) t++[⟨18,t,(i:Int)+1,0⟩]else []
def yH (P:Pr) (t:Int):Nat→List Is
 |0=>[]
 |i+1=>yH P t i++Vn P t i
def Yq (L:List Is) (R:Int):Nat→Int
 |0=>R
 |k+1=>Zs (Yq L R k) (top (L.getD k ⟨0,0,0,0⟩))
def We (P:Pr):List Is:=yy P P.n++(plN (zY P (reg P P.n) P.n) (zY P (reg P P.n) P.n).length++plN (yH P (reg P P.n) P.n) (yH P (reg P P.n) P.n).length)
structure Kd where
 (R S:Int) (L1 L2 L3:List Is)
def y8 (P:Pr):Kd:=if xR P≠0 then ⟨0,0,[],[],[]⟩else
 ⟨Yq (We P) (reg P P.n) (We P).length,zM P P.n,yy P P.n,plN (zY P (reg P P.n) P.n) (zY P (reg P P.n) P.n).length,plN (yH P (reg P P.n) P.n) (yH P (reg P P.n) P.n).length⟩
def Apt (v u:Value):Prop:=∀g,v.ownBlock=some g→u.ownBlock≠some g
theorem Apt.symm {v u:Value} (h:Apt v u):Apt u v:=fun g h1 h2=>h g h2 h1
theorem Apt.app {v u u':Value} {B:Nat} {w:World} {L:List Is} (h:Apt v u) (hv:OI B w v L) (hb:u'.ownBlock=u.ownBlock∨u'.ownBlock=some w.heap.size):Apt v u':=fun g h1 h2=>by
 rcases hb with hb|hb
 ·exact h g h1 (hb ▸ h2)
 ·have:=(hv.lt g h1).2
  rw[hb]at h2;injection h2 with h2;omega
theorem OI.keepA {B B':Nat} {w w1:World} {v u:Value} {L M:List Is} (h:OI B w v L) (hu:OI B' w u M) (hne:Apt v u) (hg:w.grownBy w1 u.ownBlock):OI B w1 v L:=by
 refine⟨h.1,?_⟩;rcases h.2 with h0|⟨g,cap,cur,h1,h2,h3,h4⟩
 ·exact Or.inl h0
 ·refine Or.inr ⟨g,cap,cur,h1,h2,?_,h4⟩
  rw[hg.block g (zu h3) (fun e=>hne g (by rw[h1];rfl) e.symm)];exact h3
theorem OI.set {B:Nat} {w:World} {v:Value} {L:List Is} (h:OI B w v L) {g:Nat} (hg:g<B) (i:Nat) (u:Value):OI B (w.setCell ⟨g,i,none⟩ u) v L:=by
 refine⟨h.1,?_⟩;rcases h.2 with h0|⟨x,cap,cur,h1,h2,h3,h4⟩
 ·exact Or.inl h0
 ·exact Or.inr ⟨x,cap,cur,h1,h2,zd h3 (show x≠g by omega) _,h4⟩
structure Cst (w wr:World) (gc:Nat) (pv:Value) (t S:Int) (vi vs vf:Value) (Li Ls Lf:List Is):Prop where
 pg:wr.heap[w.heap.size]? =some (.cells #[pv] 54)
 rs:wr.heap[w.heap.size+1]? =some (.cells #[.int .i64 0,.int .i64 0,.slice none 0 0,.slice none 0 0,.slice none 0 0] 25)
 cc:wr.heap[gc]? =some (.cells #[.int .i64 t,.int .i64 S,vi,.slice none 0 0,.slice none 0 0] 25)
 oi:OI (gc+1) wr vi Li
 os:OI (gc+1) wr vs Ls
 of:OI (gc+1) wr vf Lf
 a1:Apt vi vs
 a2:Apt vi vf
 a3:Apt vs vf
 hg:w.heap.size+1<gc
 b:Below w.heap.size w wr
variable {w wr w':World} {gc:Nat} {pv:Value} {t S:Int} {vi vs vf v':Value} {Li Ls Lf M:List Is}
theorem Cst.below (h:Cst w wr gc pv t S vi vs vf Li Ls Lf) (hb:Below wr.heap.size wr w'):Cst w w' gc pv t S vi vs vf Li Ls Lf:=
 ⟨ze h.pg hb,ze h.rs hb,ze h.cc hb,h.oi.kept hb,h.os.kept hb,h.of.kept hb,h.a1,h.a2,h.a3,h.hg,zg h.b hb⟩
theorem Cst.sz (h:Cst w wr gc pv t S vi vs vf Li Ls Lf):gc+1≤wr.heap.size:=zu h.cc
theorem OI.snocs {B n m:Nat} {w:World} {v:Value} {L M:List Is} (hn:n=L.length) (hm:m=M.length) (h:w.ownsRow B 60 4 v (n+m) (isC L++isC M)):OI B w v (L++M):=by
 unfold OI;rw[qg,Xs,←hn,←hm];exact h
theorem Cst.gb (h:Cst w wr gc pv t S vi vs vf Li Ls Lf) {u:Value} {X:List Is} (hu:OI (gc+1) wr u X) (hg:wr.grownBy w' u.ownBlock):Below w.heap.size w w':=
 h.b.grown hg h.b.size (fun k hk=>by have:=(hu.lt k hk).1;have:=h.hg;omega)
theorem Cst.appS (h:Cst w wr gc pv t S vi vs vf Li Ls Lf) (ho:OI (gc+1) w' v' (Ls++M)) (hg:wr.grownBy w' vs.ownBlock) (hb:v'.ownBlock=vs.ownBlock∨v'.ownBlock=some wr.heap.size):Cst w w' gc pv t S vi v' vf Li (Ls++M) Lf:=
 ⟨zl hg h.os h.pg (by decide),zl hg h.os h.rs (by decide),zl hg h.os h.cc (by decide),h.oi.keepA h.os h.a1 hg,ho,h.of.keepA h.os h.a3.symm hg,h.a1.app h.oi hb,h.a2,(h.a3.symm.app h.of hb).symm,h.hg,h.gb h.os hg⟩
theorem Cst.appF (h:Cst w wr gc pv t S vi vs vf Li Ls Lf) (ho:OI (gc+1) w' v' (Lf++M)) (hg:wr.grownBy w' vf.ownBlock) (hb:v'.ownBlock=vf.ownBlock∨v'.ownBlock=some wr.heap.size):Cst w w' gc pv t S vi vs v' Li Ls (Lf++M):=
 ⟨zl hg h.of h.pg (by decide),zl hg h.of h.rs (by decide),zl hg h.of h.cc (by decide),h.oi.keepA h.of h.a2 hg,h.os.keepA h.of h.a3 hg,ho,h.a1,h.a2.app h.oi hb,h.a3.app h.os hb,h.hg,h.gb h.of hg⟩
theorem Cst.appI (h:Cst w wr gc pv t S vi vs vf Li Ls Lf) (ho:OI (gc+1) w' v' (Li++M)) (hg:wr.grownBy w' vi.ownBlock) (hb:v'.ownBlock=vi.ownBlock∨v'.ownBlock=some wr.heap.size):Cst w (w'.setCell ⟨gc,2,none⟩ v') gc pv t S v' vs vf (Li++M) Ls Lf:=by
 have c1:=zl hg h.oi h.cc (by decide);have hgc:=h.hg;refine⟨zd (zl hg h.oi h.pg (by decide)) (show w.heap.size≠gc by omega) _,zd (zl hg h.oi h.rs (by decide)) (show w.heap.size+1≠gc by omega) _,?_,ho.set (by omega) _ _,(h.os.keepA h.oi h.a1.symm hg).set (by omega) _ _,(h.of.keepA h.oi h.a2.symm hg).set (by omega) _ _,(h.a1.symm.app h.os hb).symm,(h.a2.symm.app h.of hb).symm,h.a3,h.hg,?_⟩
 ·have:=zk c1 2 v'
  simpa using this
 ·exact zy (h.gb h.oi hg) _ (show w.heap.size≤gc by omega) _
end Go.Proofs.YtbdldkpifanaiaaDoor.Cd
namespace Go.Proofs.YtbdldkpifanaiaaDoor.Cd
open Go Go.RowKit Mem Syn
attribute [local go_sem ↓] Go.wp_at_zero Go.wp_at_succ
theorem VR {w:World} {a:Option Addr} {n:Nat} {E:Nat→Po} {t:Tr} (h:zq w a n 3 (fun j=>(E j).cells)) (hp:pf t=(List.range n).map E):∃b off,a=some ⟨b,off,none⟩∧RdP w b off (pf t):=by
 have hn:n=(pf t).length:=by rw[hp];simp
 rcases h with h0|⟨b,off,ha,h⟩
 ·exfalso
  have:0<(pf t).length:=by cases t<;>simp[pf]<;>omega
  omega
 ·refine⟨b,off,ha,fun i hi=>?_⟩
  have hi':i<n:=by omega
  have e:(pf t).getD i ⟨0,0,[]⟩=E i:=by rw[hp];simp[List.getD_eq_getElem?_getD,List.getElem?_map,List.getElem?_range hi']
  rw[e];exact Po.at (h i hi')
def YQ (P:Pr) (L:Nat→Lo):Prop:=∀i,i<P.n→(P.I i).nE≤(L i).cE∧(P.I i).nF≤(L i).cF
theorem genE (P:Pr) (a:Option Addr) (c:Nat) (L:Nat→Lo) (w:World) (hP:yr w a P L) (ok:ZM P) (hc:YQ P L) (n:Nat) (hn:n<P.n) (t:Int) (ht0:0≤t) (ht1:t≤1000) (he:heB (P.I n).k=true):
  (∀W,Below w.heap.size w W→Calls Tryd.prog 45 #[.agg #[.slice a P.n c],.slice (L n).aE (P.I n).nE (L n).cE,.int .i64 t] W fun e w'=>GenP W w' (gen (zG P) (trE (P.I n).E (P.I n).nE) t) e)∧(gen (zG P) (trE (P.I n).E (P.I n).nE) t).length≤100000:=by
 obtain⟨tt,hs⟩:=WK (ok.b n hn) he;obtain⟨h1,h2,h3⟩:=Zw hs;have hl:(P.I n).nE=(pf tt).length:=by rw[h1];simp
 have h2000:=ok.len hn;rw[Yk hs];refine⟨fun W hW=>?_,?_⟩
 ·obtain⟨b,off,ha,hr⟩:=VR ((hP.e n hn).below hW) h1
  rw[ha];exact YT P a c L (by have:=ok.n;omega) tt h3 h2 t b off _ _ W (hP.below hW) hr hl (hc n hn).1 (by omega) ht0 (by omega)
 ·have:=zT (zG P) tt t;omega
theorem genF (P:Pr) (a:Option Addr) (c:Nat) (L:Nat→Lo) (w:World) (hP:yr w a P L) (ok:ZM P) (hc:YQ P L) (n:Nat) (hn:n<P.n) (t:Int) (ht0:0≤t) (ht1:t≤1000) (he:(P.I n).k=5):
  (∀W,Below w.heap.size w W→Calls Tryd.prog 45 #[.agg #[.slice a P.n c],.slice (L n).aF (P.I n).nF (L n).cF,.int .i64 t] W fun e w'=>GenP W w' (gen (zG P) (trE (P.I n).F (P.I n).nF) t) e)∧(gen (zG P) (trE (P.I n).F (P.I n).nF) t).length≤100000:=by
 obtain⟨tt,hs⟩:=Ul (ok.b n hn) he;obtain⟨h1,h2,h3⟩:=Zw hs;have hl:(P.I n).nF=(pf tt).length:=by rw[h1];simp
 have h2000:=ok.len hn;rw[Yk hs];refine⟨fun W hW=>?_,?_⟩
 ·obtain⟨b,off,ha,hr⟩:=VR ((hP.f n hn).below hW) h1
  rw[ha];exact YT P a c L (by have:=ok.n;omega) tt h3 h2 t b off _ _ W (hP.below hW) hr hl (hc n hn).2 (by omega) ht0 (by omega)
 ·have:=zT (zG P) tt t;omega
theorem Yj (x k lo hi u:Int):(within x k lo hi u).length=6:=rfl
theorem Yl (P:Pr) (ok:ZM P) (n:Nat) (hn:n<P.n) (t r s:Int):(zU P n t (P.I n) r s).length≤4020+30:=by
 have h2:=ok.len hn
 have hE:heB (P.I n).k=true→(gen (zG P) (trE (P.I n).E (P.I n).nE) t).length≤2*(P.I n).nE:=fun he=>by
  obtain⟨tt,hs⟩:=WK (ok.b n hn) he;obtain⟨h1,-,-⟩:=Zw hs;have hl:(P.I n).nE=(pf tt).length:=by rw[h1];simp
  rw[Yk hs,hl];exact zT _ _ _
 have hF:(P.I n).k=5→(gen (zG P) (trE (P.I n).F (P.I n).nF) t).length≤2*(P.I n).nF:=fun he=>by
  obtain⟨tt,hs⟩:=Ul (ok.b n hn) he;obtain⟨h1,-,-⟩:=Zw hs;have hl:(P.I n).nF=(pf tt).length:=by rw[h1];simp
  rw[Yk hs,hl];exact zT _ _ _
 have hk:=YD (ok.b n hn);have:(P.I n).k=1∨(P.I n).k=2∨(P.I n).k=3∨(P.I n).k=4∨(P.I n).k=5∨(P.I n).k=6∨(P.I n).k=7∨(P.I n).k=8∨(P.I n).k=9:=by omega
 rcases this with h|h|h|h|h|h|h|h|h
 ·have:=hE (by rw[h];rfl);simp[zU,h];omega
 ·have:=hE (by rw[h];rfl);simp[zU,h];omega
 ·simp[zU,h]
 ·have:=hE (by rw[h];rfl);simp[zU,h,Yj];omega
 ·have:=hE (by rw[h];rfl);have:=hF h;simp[zU,h];omega
 ·simp[zU,h]
 ·simp[zU,h]
 ·have:=hE (by rw[h];rfl);simp[zU,h,Yj];omega
 ·have:=hE (by rw[h];rfl);simp[zU,h];omega
theorem YE (r v:Int) (j:Nat):(xT r v j).length=j:=by
 induction j with
 |zero=>rfl
 |succ j ih=>rw[xT,qg,ih];rfl
theorem ZE (P:Pr):∀k,(yy P k).length≤3*k
 |0=>by simp[yy]
 |k+1=>by have:=ZE P k;have:=xV (P.I k).k;rw[yy,qg,YE];omega
theorem Ze (P:Pr) (ok:ZM P) (t:Int):∀k,k≤P.n→(zY P t k).length≤4050*k
 |0,_=>by simp[zY]
 |k+1,h=>by have:=Ze P ok t k (by omega);have:=Yl P ok k (by omega) t (reg P k) (zM P k);rw[zY,qg];omega
theorem Uu (P:Pr) (ok:ZM P) (n:Nat) (hn:n<P.n) (t:Int) (hk:(P.I n).k=3):(gen (zG P) (trE (P.I n).E (P.I n).nE) t).length≤4000:=by
 have h2:=ok.len hn;obtain⟨tt,hs⟩:=WK (ok.b n hn) (by rw[hk];rfl);obtain⟨h1,-,-⟩:=Zw hs;have hl:(P.I n).nE=(pf tt).length:=by rw[h1];simp
 have:=zT (zG P) tt t;rw[Yk hs];omega
theorem XR (P:Pr) (ok:ZM P) (n:Nat) (hn:n<P.n) (t:Int):(Vn P t n).length≤4050:=by
 unfold Vn
 split
 ·exact Yl P ok n hn t _ _
 ·split
  ·rename_i h;have:=Uu P ok n hn t h;simp;omega
  ·simp
theorem ZH (P:Pr) (ok:ZM P) (t:Int):∀k,k≤P.n→(yH P t k).length≤4050*k
 |0,_=>by simp[yH]
 |k+1,h=>by have:=ZH P ok t k (by omega);have:=XR P ok k (by omega) t;rw[yH,qg];omega
theorem z7 {ops:Array Oper} {rest:List Oper} {o:Oper} {a:Act} {w:World} {Q:Exit→Act→World→Prop} (hgd:o.guard=none) (s x:Operand)
  (ho:o.op=.call {callee:=.builtin .append,args:=#[s,x],argTypes:=#[23,23]})
  (B:Nat) (v vx:Value) (L M:List Is) (hs:a.eval s=v) (hown:OI B w v L) (hx:a.eval x=vx) (hr:RdL w vx M) (hl:L.length+M.length≤10000000) (hB:B≤w.heap.size)
  (h:∀v' w',OI B w' v' (L++M)→w.grownBy w' v.ownBlock→(v'.ownBlock=v.ownBlock∨v'.ownBlock=some w.heap.size)→wpList Tryd.prog ops Q rest (a.put o.dst v') w'):wpList Tryd.prog ops Q (o::rest) a w:=by
 obtain⟨i0,hi,hz0,hz1,hz2⟩:=info_parts yI;obtain⟨a1,c1,rfl,hc,hr⟩:=hr;rcases hr with⟨rfl,rfl,rfl⟩|⟨g,off,rfl,hcl⟩
 ·refine wpList_append_own_none hgd s x 23 ho B 60 i0 4 Tryd.underlying23 hi v L.length (isC L) hs hown hx ?_
  refine h v w ?_ (World.grownBy.refl _ _) (Or.inl rfl);rw[List.append_nil];exact hown
 ·refine wpList_append_own_at w hgd s x 23 ho B 60 i0 (.agg #[.int .i64 0,.int .i64 0,.int .i64 0,.int .i64 0]) 4 32 Tryd.underlying23 hi hz0 hz1 hz2 rfl (by decide) v L.length (isC L) hs hown ⟨g,off,none⟩ M.length c1 (isC M) hx (xO M) (fun j u hu=>by rw[Addr.add_mid];exact hcl j u hu) (ym M) (by unfold maxLen;omega) (by omega) hB ?_
  intro v' w' h1 h2 _ h4;exact h v' w' (OI.snocs rfl rfl h1) h2 h4
inductive CodeP (w w':World) (k:Kd) (r:Ending):Prop
 |mk (v1 v2 v3:Value) (he:r=.returned (.agg #[.int .i64 k.R,.int .i64 k.S,v1,v2,v3])) (o1:OI w.heap.size w' v1 k.L1) (o2:OI w.heap.size w' v2 k.L2) (o3:OI w.heap.size w' v3 k.L3) (a1:Apt v1 v2) (a2:Apt v1 v3) (a3:Apt v2 v3) (hb:Below w.heap.size w w'):CodeP w w' k r
theorem OI.none (B:Nat) (w:World):OI B w (.slice none 0 0) []:=World.ownsRow_nil w _ _ _
theorem Apt.none (v:Value):Apt (.slice none 0 0) v:=fun g h=>by cases h
theorem CodeP.zero {w w':World} {k:Kd} {r:Ending} (hk:k=⟨0,0,[],[],[]⟩) (he:r=.returned (.agg #[.int .i64 0,.int .i64 0,.slice none 0 0,.slice none 0 0,.slice none 0 0])) (hb:Below w.heap.size w w'):CodeP w w' k r:=by
 subst hk;exact .mk _ _ _ he (OI.none _ _) (OI.none _ _) (OI.none _ _) (Apt.none _) (Apt.none _) (Apt.none _) hb
theorem Vt {P:Pr} (h:xR P≠0):y8 P=⟨0,0,[],[],[]⟩:=by unfold y8;rw[if_pos h]
structure Rd3 (P:Pr) (a:Option Addr) (c:Nat) (L:Nat→Lo) (w:World):Prop where
 ok:ZM P
 reg:∀W m,Below w.heap.size w W→m≤P.n→Calls Tryd.prog 41 #[.agg #[.slice a P.n c],.int .i64 (m:Int)] W fun e w'=>e=.returned (.int .i64 (reg P m:Int))∧Below W.heap.size W w'
 slot:∀W m,Below w.heap.size w W→m≤P.n→Calls Tryd.prog 42 #[.agg #[.slice a P.n c],.int .i64 (m:Int)] W fun e w'=>e=.returned (.int .i64 (zM P m:Int))∧Below W.heap.size W w'
 gen:∀W m (t:Int),Below w.heap.size w W→m<P.n→(P.I m).k=3→0≤t→t≤1000→Calls Tryd.prog 45 #[.agg #[.slice a P.n c],.slice (L m).aE (P.I m).nE (L m).cE,.int .i64 t] W fun e w'=>GenP W w' (gen (zG P) (trE (P.I m).E (P.I m).nE) t) e
 cell:∀W m,Below w.heap.size w W→m<P.n→∃b off,a=some ⟨b,off,none⟩∧W.rangeAt b (off+m*7) ((P.I m).cells (L m))
theorem Xw {P:Pr} (h:xR P=0):ZM P:=by
 refine prOk ?_
 cases e:prB P with
 |true=>rfl
 |false=>unfold xR at h;rw[if_pos e]at h;cases h
theorem road3 {P:Pr} {a:Option Addr} {c:Nat} {L:Nat→Lo} {w:World} (hP:yr w a P L) (ok:ZM P) (hc:YQ P L):Rd3 P a c L w:=by
 have h1:=ok.n;refine⟨ok,fun W m hW hm=>Yp P a c m L W (hP.below hW) (by omega) hm,fun W m hW hm=>Zm P a c m L W (hP.below hW) (by omega) hm,fun W m t hW hm hk h0 h2=>?_,fun W m hW hm=>?_⟩
 ·exact(genE P a c L w hP ok hc m hm t h0 h2 (by rw[hk];rfl)).1 W hW
 ·rcases(hP.below hW).s with h0|⟨b,off,h1,h0⟩
  ·omega
  ·exact⟨b,off,h1,h0 m hm⟩
theorem Ts (P:Pr) (a:Option Addr) (c:Nat) (L:Nat→Lo) (w:World) (hP:yr w a P L) (hn:P.n≤1048576) (hcn:cnt P P.n≤1048576) (hE:xR P≠0):
  Calls Tryd.prog 26 #[.agg #[.slice a P.n c]] w fun e w'=>CodeP w w' (y8 P) e:=by
 have HK:=Hm (Vt hE);have f0:(xR P !=0)=true:=by simpa using hE
 have hfd:∀(x:Int) (p q z:Value) (w:World),(Instr.field 72 (.agg #[.int .i64 x,p,q,z]) 0).run Tryd.prog w=.ok (.int .i64 x) w:=fun _ _ _ _ _=>by kernel_rfl
 obtain⟨W1,hW1⟩:∃W1,W1=(w.alloc (.cells #[.slice a P.n c] 54)).alloc (.cells #[.int .i64 0,.int .i64 0,.slice none 0 0,.slice none 0 0,.slice none 0 0] 25):=⟨_,rfl⟩;have B1:Hid (Below w.heap.size w W1):=by rw[hW1];exact zf (zf (Below.refl _ _) _) _
 have P1:Hid (W1.heap[w.heap.size]? =some (.cells #[.slice a P.n c] 54)):=by rw[hW1];exact zh (zi _ _) _
 have R1:Hid (W1.heap[w.heap.size+1]? =some (.cells #[.int .i64 0,.int .i64 0,.slice none 0 0,.slice none 0 0,.slice none 0 0] 25)):=by rw[hW1];exact zx _ _ _
 have CK:=Hm (UI P a c L W1 (hP.below B1.out) hn hcn);obtain⟨x,hx⟩:∃x,x=xR P:=⟨_,rfl⟩;rw[←hx]at CK f0 hE;clear hP hx hcn;have x0:=za P1.out 0;simp only[qk,ql]at x0;go_enter Tryd.func26,Tryd.ntmps26;go_upto_region 1 with fail;rw[←hW1];clear hW1;go_wp2_with (go_at_call 40;refine CK.out.mono ?_);rintro e w2 ⟨p,q,z,rfl,hb⟩;have B2:=Hm (zg B1.out hb);have R2:=Hm (ze R1.out hb);clear hb x0 B1 P1 R1 CK;have g0:=za R2.out 0;have g1:=za R2.out 1;have g2:=za R2.out 2;have g3:=za R2.out 3;have g4:=za R2.out 4;have h0:=zb R2.out 0;have h1:=zb R2.out 1;have h2:=zb R2.out 2;have h3:=zb R2.out 3;have h4:=zb R2.out 4
 simp only[qk,ql,qm]at g0 g1 g2 g3 g4;refine Hid.out ?_;refine Lib.hid ?_;go_wp2;obtain⟨Z,hZ,RZ,QZ,-⟩:=Dec.put5 R2.out (.int .i64 0) (.int .i64 0) (.slice none 0 0) (.slice none 0 0) (.slice none 0 0);rw[hZ];have z0:=za RZ 0;have z1:=za RZ 1;have z2:=za RZ 2;have z3:=za RZ 3;have z4:=za RZ 4;simp only[qk,ql,qm]at z0 z1 z2 z3 z4;refine bodyPost_ret (v:=.agg #[.int .i64 0,.int .i64 0,.slice none 0 0,.slice none 0 0,.slice none 0 0]) (by simp[results,Tryd.results26,go_sem,z0,z1,z2,z3,z4];try rfl) rfl ?_;exact CodeP.zero HK.out rfl (xL B2.out QZ (by omega))
structure Cs2 (w wr:World) (gc:Nat) (R S:Int) (vi v2 v3:Value) (L1 L2 L3:List Is):Prop where
 rs:wr.heap[w.heap.size+1]? =some (.cells #[.int .i64 0,.int .i64 0,.slice none 0 0,.slice none 0 0,.slice none 0 0] 25)
 cc:wr.heap[gc]? =some (.cells #[.int .i64 R,.int .i64 S,vi,v2,v3] 25)
 o1:OI (gc+1) wr vi L1
 o2:OI (gc+1) wr v2 L2
 o3:OI (gc+1) wr v3 L3
 a1:Apt vi v2
 a2:Apt vi v3
 a3:Apt v2 v3
 hg:w.heap.size+1<gc
 b:Below w.heap.size w wr
variable {w wr w':World} {gc:Nat} {R S t:Int} {pv vi v2 v3 vs vf:Value} {L1 L2 L3 Ls Lf:List Is}
theorem Apt.new {B:Nat} {w w':World} {v u:Value} {L M:List Is} (h:OI B w v L) (hu:OI w.heap.size w' u M):Apt v u:=fun g h1 h2=>by
 have:=(h.lt g h1).2;have:=(hu.lt g h2).1;omega
theorem Cs2.below (h:Cs2 w wr gc R S vi v2 v3 L1 L2 L3) (hb:Below wr.heap.size wr w'):Cs2 w w' gc R S vi v2 v3 L1 L2 L3:=
 ⟨ze h.rs hb,ze h.cc hb,h.o1.kept hb,h.o2.kept hb,h.o3.kept hb,h.a1,h.a2,h.a3,h.hg,zg h.b hb⟩
theorem Cs2.sz (h:Cs2 w wr gc R S vi v2 v3 L1 L2 L3):gc+1≤wr.heap.size:=zu h.cc
theorem Cs2.setR (h:Cs2 w wr gc R S vi v2 v3 L1 L2 L3) (R':Int):Cs2 w (wr.setCell ⟨gc,0,none⟩ (.int .i64 R')) gc R' S vi v2 v3 L1 L2 L3:=by
 have hg:=h.hg;refine⟨zd h.rs (show w.heap.size+1≠gc by omega) _,?_,h.o1.set (by omega) _ _,h.o2.set (by omega) _ _,h.o3.set (by omega) _ _,h.a1,h.a2,h.a3,h.hg,zy h.b _ (show w.heap.size≤gc by omega) _⟩;have:=zk h.cc 0 (.int .i64 R');simpa using this
theorem Cst.place1 (h:Cst w wr gc pv t S vi vs vf L1 Ls Lf) {w5:World} (hb:Below wr.heap.size wr w5) (h2:OI wr.heap.size w5 v2 L2):
  (w5.setCell ⟨gc,3,none⟩ v2).heap[gc]? =some (.cells #[.int .i64 t,.int .i64 S,vi,v2,.slice none 0 0] 25)∧(w5.setCell ⟨gc,3,none⟩ v2).heap[w.heap.size+1]? =some (.cells #[.int .i64 0,.int .i64 0,.slice none 0 0,.slice none 0 0,.slice none 0 0] 25)∧
  OI (gc+1) (w5.setCell ⟨gc,3,none⟩ v2) vi L1∧OI (gc+1) (w5.setCell ⟨gc,3,none⟩ v2) v2 L2∧OI (gc+1) (w5.setCell ⟨gc,3,none⟩ v2) vf Lf∧Apt vi v2∧Below w.heap.size w (w5.setCell ⟨gc,3,none⟩ v2):=by
 have hg:=h.hg;have hs:=h.sz;have h':=h.below hb;refine⟨?_,zd h'.rs (show w.heap.size+1≠gc by omega) _,h'.oi.set (by omega) _ _,(h2.mono hs).set (by omega) _ _,h'.of.set (by omega) _ _,Apt.new h.oi h2,zy h'.b _ (show w.heap.size≤gc by omega) _⟩;have:=zk h'.cc 3 v2;simpa using this
theorem place2 (hcc:wr.heap[gc]? =some (.cells #[.int .i64 t,.int .i64 S,vi,v2,.slice none 0 0] 25)) (hrs:wr.heap[w.heap.size+1]? =some (.cells #[.int .i64 0,.int .i64 0,.slice none 0 0,.slice none 0 0,.slice none 0 0] 25))
  (h1:OI (gc+1) wr vi L1) (h2:OI (gc+1) wr v2 L2) (ha:Apt vi v2) (hg:w.heap.size+1<gc) (hw:Below w.heap.size w wr) {w5:World} (hb:Below wr.heap.size wr w5) (h3:OI wr.heap.size w5 v3 L3):Cs2 w (w5.setCell ⟨gc,4,none⟩ v3) gc t S vi v2 v3 L1 L2 L3:=by
 have hs:gc+1≤wr.heap.size:=zu hcc;refine⟨zd (ze hrs hb) (show w.heap.size+1≠gc by omega) _,?_,(h1.kept hb).set (by omega) _ _,(h2.kept hb).set (by omega) _ _,(h3.mono hs).set (by omega) _ _,ha,Apt.new h1 h3,Apt.new h2 h3,hg,zy (zg hw hb) _ (show w.heap.size≤gc by omega) _⟩;have:=zk (ze hcc hb) 4 v3;simpa using this
theorem oi_at4 {B g c n i:Nat} {w:World} {L:List Is} (h:OI B w (.slice (some ⟨g,0,none⟩) n c) L) (hi:i<L.length):
  w.cell? ⟨g,i*4,none⟩=some (.int .i64 (L.getD i ⟨0,0,0,0⟩).p)∧w.cell? ⟨g,i*4+1,none⟩=some (.int .i64 (L.getD i ⟨0,0,0,0⟩).a)∧w.cell? ⟨g,i*4+2,none⟩=some (.int .i64 (L.getD i ⟨0,0,0,0⟩).b)∧w.cell? ⟨g,i*4+3,none⟩=some (.int .i64 (L.getD i ⟨0,0,0,0⟩).c):=by
 obtain⟨a,c',he,-,hr⟩:=h.rd;injection he with h1 h2 h3;rcases hr with⟨h0,-,-⟩|⟨g',off,h0,hcl⟩
 ·rw[h0]at h1;cases h1
 ·rw[h0]at h1
  injection h1 with h1;injection h1 with h4 h5;subst h4;subst h5;have:=TG hcl hi;simpa only[Nat.zero_add]using this
end Go.Proofs.YtbdldkpifanaiaaDoor.Cd
