import Derived.Test.YtbdldkpifanaiaaDoorCr15
import Derived.Deep.RegionHeld
set_option maxHeartbeats 3200000
set_option maxRecDepth 100000
set_option linter.unusedVariables false
set_option linter.unusedSimpArgs false
open List renaming length_append → qg, getElem?_toArray → qk, getElem?_cons_zero → ql, getElem?_cons_succ → qm
open Nat renaming le_refl → qn, le_trans → qo
namespace Go.Proofs.YtbdldkpifanaiaaDoor.Dec
open Go Go.RowKit Mem ValC Enc
attribute [local go_sem ↓] Go.wp_at_zero Go.wp_at_succ
def Dc.co (d:Dc):Co:=⟨d.R,d.S,d.L1.length,d.L2.length,d.L3.length,fun i=>d.L1.getD i ⟨0,0,0,0⟩,fun i=>d.L2.getD i ⟨0,0,0,0⟩,fun i=>d.L3.getD i ⟨0,0,0,0⟩⟩
def zc:Dc:=⟨0,0,[],[],[]⟩
theorem flat_get:∀(L:List Is) (i j:Nat),i<L.length→j<4→(L.flatMap Is.cells)[i*4+j]? =(L.getD i ⟨0,0,0,0⟩).cells[j]?
 |[],i,j,h,_=>absurd h (Nat.not_lt_zero _)
 |x::r,0,j,_,hj=>by
  rw[List.flatMap_cons,List.getElem?_append_left (by rw[Is.len];omega)];simp
 |x::r,i+1,j,h,hj=>by
  rw[List.flatMap_cons,List.getElem?_append_right (by rw[Is.len];omega),Is.len];have:=flat_get r i j (by simpa using h) hj;rw[show(i+1)*4+j-4=i*4+j by omega,this];simp
theorem zV {w:World} {B m:Nat} {e:TypeId} {a:Option Addr} {L:List Is} (h:w.ownsRow B e 4 (.slice a L.length m) L.length (L.flatMap Is.cells)):zq w a L.length 4 (fun i=>(L.getD i ⟨0,0,0,0⟩).cells):=by
 rcases h.2 with⟨-,h0⟩|⟨g,cap,cur,e1,h2,h3,h4,h5,h6,h7⟩
 ·exact Or.inl h0
 ·injection e1 with e1 _ _
  refine Or.inr ⟨g,0,e1,fun i hi j u hu=>?_⟩
  have hj:j<4:=by
   have:=List.getElem?_eq_some_iff.1 hu;obtain⟨hl,-⟩:=this;rw[Is.len]at hl;exact hl
  have:=flat_get L i j hi hj;rw[hu,←h7,List.getElem?_take,if_pos (by omega)]at this;rw[za h3,Nat.zero_add];rw[←this];simp
noncomputable def yq (bs:List UInt8):Dc:=open Classical in if h:∃d,Shape bs d∧yD d.co=true then h.choose else zc
theorem yV {bs:List UInt8} {d:Dc} (h:Shape bs d) (hv:yD d.co=true):yq bs=d:=by
 have hx:∃d,Shape bs d∧yD d.co=true:=⟨d,h,hv⟩;unfold yq;rw[dif_pos hx];exact YY hx.choose_spec.1 h
theorem yT {bs:List UInt8} (h:yY bs):yq bs=zc:=by
 unfold yq;rw[dif_neg];rintro⟨d,hd,-⟩;exact h d hd
theorem x9 {bs:List UInt8} {d:Dc} (h:Shape bs d) (hv:yD d.co=false):yq bs=zc:=by
 unfold yq;rw[dif_neg];rintro⟨e,he,hw⟩;rw[YY he h,hv]at hw
 cases hw
theorem xA {B r:Nat} {W w1:World} (h:W.grownBy w1 (some r)) (hr:B≤r) (hB:B≤W.heap.size):Below B W w1:=
 ⟨h.os,h.tape,h.output,h.size,fun k hk=>h.block k (by omega) (by intro e;injection e with e;omega)⟩
inductive DecP (w w':World) (bs:List UInt8) (e:Ending):Prop
 |mk (s1 s2 s3:Option Addr) (m1 m2 m3:Nat) (he:e=.returned (.agg #[.int .i64 (yq bs).R,.int .i64 (yq bs).S,.slice s1 (yq bs).L1.length m1,.slice s2 (yq bs).L2.length m2,.slice s3 (yq bs).L3.length m3])) (B1 B2:Nat) (hB:w.heap.size≤B1∧B1≤B2) (p1:∀g,(Value.slice s1 (yq bs).L1.length m1).ownBlock=some g→g<B1) (p2:∀g,(Value.slice s2 (yq bs).L2.length m2).ownBlock=some g→g<B2)
  (o1:w'.ownsRow w.heap.size 60 4 (.slice s1 (yq bs).L1.length m1) (yq bs).L1.length ((yq bs).L1.flatMap Is.cells)) (o2:w'.ownsRow B1 60 4 (.slice s2 (yq bs).L2.length m2) (yq bs).L2.length ((yq bs).L2.flatMap Is.cells)) (o3:w'.ownsRow B2 60 4 (.slice s3 (yq bs).L3.length m3) (yq bs).L3.length ((yq bs).L3.flatMap Is.cells))
  (l1:(yq bs).L1.length≤16384) (l2:(yq bs).L2.length≤16384) (l3:(yq bs).L3.length≤16384) (hb:Below w.heap.size w w'):DecP w w' bs e
theorem DecP.zero {w w':World} {bs:List UInt8} {e:Ending} (h:yq bs=zc) (he:e=.returned (.agg #[.int .i64 0,.int .i64 0,.slice none 0 0,.slice none 0 0,.slice none 0 0])) (hb:Below w.heap.size w w'):DecP w w' bs e:=by
 refine DecP.mk none none none 0 0 0 ?_ w.heap.size w.heap.size ⟨qn _,qn _⟩ ?_ ?_ ?_ ?_ ?_ ?_ ?_ ?_ hb<;>rw[h]
 ·exact he
 ·intro g hg;cases hg
 ·intro g hg;cases hg
 ·exact World.ownsRow_nil w' _ _ _
 ·exact World.ownsRow_nil w' _ _ _
 ·exact World.ownsRow_nil w' _ _ _
 ·exact Nat.zero_le _
 ·exact Nat.zero_le _
 ·exact Nat.zero_le _
theorem put5 {V:World} {g:Nat} {z0 z1 z2 z3 z4:Value} {T:TypeId} (h:V.heap[g]? =some (.cells #[z0,z1,z2,z3,z4] T)) (u0 u1 u2 u3 u4:Value):∃Z:World,(((((V.setCell ⟨g,0,none⟩ u0).setCell ⟨g,1,none⟩ u1).setCell ⟨g,2,none⟩ u2).setCell ⟨g,3,none⟩ u3).setCell ⟨g,4,none⟩ u4)=Z∧Z.heap[g]? =some (.cells #[u0,u1,u2,u3,u4] T)∧Below g V Z∧∀(B s n:Nat) (v:Value) (e:TypeId) (xs:List Value),e≠T→V.ownsRow B e s v n xs→Z.ownsRow B e s v n xs:=by
 refine⟨_,rfl,?_,?_,?_⟩
 ·have:=zk (zk (zk (zk (zk h 0 u0) 1 u1) 2 u2) 3 u3) 4 u4
  simpa using this
 ·exact Below.setCells' g (qn _) [u0,u1,u2,u3,u4] 0 V (Below.refl _ _)
 ·intro B s n v e xs hne ho
  exact zI (zI (zI (zI (zI ho h hne) (zk h 0 _) hne) (zk (zk h 0 _) 1 _) hne) (zk (zk (zk h 0 _) 1 _) 2 _) hne) (zk (zk (zk (zk h 0 _) 1 _) 2 _) 3 _) hne
theorem WS (bs:List UInt8) (n:Nat) (a:Option Addr) (c:Nat) (w:World) (hn:n=bs.length) (hr:RdB w a bs) (hc:n≤c) (hl:n≤1048576) (hlow:∀p,a=some p→p.block<w.heap.size) (hT:YU w):
  Calls Tryd.prog 7 #[.slice a n c] w fun e w'=>DecP w w' bs e:=by
 have HR:=Hm hr;have HT:=Hm hT;have HN:=Hm hn;have HL:=Hm hlow;clear hr hT hn hlow;go_enter Tryd.func7,Tryd.ntmps7;go_wp2_with fail;obtain⟨W,hW⟩:∃W:World,W=(w.alloc (.cells #[.int .i64 0,.int .i64 0,.slice none 0 0,.slice none 0 0,.slice none 0 0] 25)).alloc (.cells #[.slice a n c,.bool false] 39):=⟨_,rfl⟩;rw[←hW];have BW:Hid (Below w.heap.size w W):=by unfold Hid;rw[hW];go_grown
 have A0:Hid (W.heap[w.heap.size]? =some (.cells #[.int .i64 0,.int .i64 0,.slice none 0 0,.slice none 0 0,.slice none 0 0] 25)):=by unfold Hid;rw[hW];exact zh (zi w _) _
 have X0:Hid (W.heap[w.heap.size+1]? =some (.cells #[.slice a n c,.bool false] 39)):=by unfold Hid;rw[hW];exact zx w _ _
 clear hW;have D0:Hid (De W (w.heap.size+1) w.heap.size bs false a c):=⟨by rw[←HN.out];exact X0.out,by rw[←HN.out];exact hc,HR.out.below BW.out,HL.out,by rw[←HN.out];omega⟩;refine(codeI (w.heap.size+1) w.heap.size bs a c W D0.out (by omega)).mono ?_;rintro e w1 ⟨d,v1,v2,v3,b,f,a1,c1,rfl,o1,B1,B2',hB,p1,p2,o2,o3,l1,l2,l3,hd,hg,hs⟩;obtain⟨s1,m1,rfl⟩:=zF o1;obtain⟨s2,m2,rfl⟩:=zF o2;obtain⟨s3,m3,rfl⟩:=zF o3;have hsz:=BW.out.size;have hsz1:=hg.size;have BG:Hid (Below w.heap.size w w1):=BW.out.trans (xA hg (by omega) hsz);have A1:=Hm (yQ A0.out hg (by omega));have O1:=Hm o1;have O2:=Hm o2;have O3:=Hm o3;have DD:=Hm hd;have SS:=Hm hs;have PP:=Hm (And.intro hB (And.intro p1 p2));have hw0:=zu A1.out
 clear hd hg hs o1 o2 o3 hB p1 p2 A0 X0 D0 BW;go_upto_region 3 with fail;obtain⟨V,hV⟩:∃V:World,V=w1.alloc (.cells #[.int .i64 d.R,.int .i64 d.S,.slice s1 d.L1.length m1,.slice s2 d.L2.length m2,.slice s3 d.L3.length m3] 25):=⟨_,rfl⟩;rw[←hV];have BV0:Hid (Below w1.heap.size w1 V):=by unfold Hid;rw[hV];go_grown
 have CV:Hid (V.heap[w1.heap.size]? =some (.cells #[.int .i64 d.R,.int .i64 d.S,.slice s1 d.L1.length m1,.slice s2 d.L2.length m2,.slice s3 d.L3.length m3] 25)):=by unfold Hid;rw[hV];exact zi w1 _
 clear hV;have BV:Hid (Below w.heap.size w V):=zg BG.out BV0.out;have AV:=Hm (ze A1.out BV0.out);have XV:=Hm (ze DD.out.x BV0.out);have OV1:=Hm (ownsRow_below O1.out BV0.out);have OV2:=Hm (ownsRow_below O2.out BV0.out);have OV3:=Hm (ownsRow_below O3.out BV0.out);clear A1 O1 O2 O3 DD BG BV0;have x0:=za XV.out 0;have x1:=za XV.out 1;simp only[qk,ql,qm]at x0 x1;have y0:=za CV.out 0;have y1:=za CV.out 1;have y2:=za CV.out 2;have y3:=za CV.out 3;have y4:=za CV.out 4;simp only[qk,ql,qm]at y0 y1 y2 y3 y4
 cases f with
 |true=>
  have hno:=Hm (yT (SS.out.2 rfl));have g0:=za AV.out 0;have g1:=za AV.out 1;have g2:=za AV.out 2;have g3:=za AV.out 3;have g4:=za AV.out 4;have h0:=zb AV.out 0;have h1:=zb AV.out 1;have h2:=zb AV.out 2;have h3:=zb AV.out 3;have h4:=zb AV.out 4;simp only[qk,ql,qm]at g0 g1 g2 g3 g4;go_wp2;obtain⟨Z,hZ,RZ,QZ,-⟩:=put5 AV.out (.int .i64 0) (.int .i64 0) (.slice none 0 0) (.slice none 0 0) (.slice none 0 0);rw[hZ];have z0:=za RZ 0;have z1:=za RZ 1;have z2:=za RZ 2;have z3:=za RZ 3;have z4:=za RZ 4;simp only[qk,ql,qm]at z0 z1 z2 z3 z4
  refine bodyPost_ret (v:=.agg #[.int .i64 0,.int .i64 0,.slice none 0 0,.slice none 0 0,.slice none 0 0]) (by simp[results,Tryd.results7,go_sem,z0,z1,z2,z3,z4];try rfl) rfl ?_;exact DecP.zero hno.out rfl (BV.out.trans QZ)
 |false=>
  have hlive:=Hm (SS.out.1 rfl);obtain⟨k,hk⟩:∃k,k=b.length:=⟨_,rfl⟩;rw[←hk]at x0;have HK:=Hm hk;clear hk;by_cases hk0:0<k
  ·have hno:=Hm (yT (Vq hlive.out (by intro e;have:=HK.out;rw[e]at this;simp at this;omega)))
   have g0:=za AV.out 0;have g1:=za AV.out 1;have g2:=za AV.out 2;have g3:=za AV.out 3;have g4:=za AV.out 4;have h0:=zb AV.out 0;have h1:=zb AV.out 1;have h2:=zb AV.out 2;have h3:=zb AV.out 3;have h4:=zb AV.out 4;simp only[qk,ql,qm]at g0 g1 g2 g3 g4;go_wp2;obtain⟨Z,hZ,RZ,QZ,-⟩:=put5 AV.out (.int .i64 0) (.int .i64 0) (.slice none 0 0) (.slice none 0 0) (.slice none 0 0);rw[hZ];have z0:=za RZ 0;have z1:=za RZ 1;have z2:=za RZ 2;have z3:=za RZ 3;have z4:=za RZ 4;simp only[qk,ql,qm]at z0 z1 z2 z3 z4
   refine bodyPost_ret (v:=.agg #[.int .i64 0,.int .i64 0,.slice none 0 0,.slice none 0 0,.slice none 0 0]) (by simp[results,Tryd.results7,go_sem,z0,z1,z2,z3,z4];try rfl) rfl ?_;exact DecP.zero hno.out rfl (BV.out.trans QZ)
  ·obtain rfl:k=0:=by omega
   have hb0:b=[]:=List.eq_nil_of_length_eq_zero HK.out.symm;subst hb0;have hsh:=Hm (alive hlive.out l1 l2 l3);have hCo:Hid (Zl V s1 s2 s3 d.co):=⟨zV OV1.out,zV OV2.out,zV OV3.out⟩;go_wp2_with fail;clear x0 x1 y0 y1 y2 y3 y4;refine(Vz s1 s2 s3 m1 m2 m3 d.co V hCo.out (qo l1 (by omega)) (qo l2 (by omega)) (qo l3 (by omega)) (HT.out.below BV.out)).mono ?_;rintro e w2 ⟨rfl,hb2⟩;have B2:=Hm (zg BV.out hb2);have A2:=Hm (ze AV.out hb2);have C2:=Hm (ze CV.out hb2);have Q1:=Hm (ownsRow_below OV1.out hb2);have Q2:=Hm (ownsRow_below OV2.out hb2);have Q3:=Hm (ownsRow_below OV3.out hb2);clear hb2 BV AV CV OV1 OV2 OV3 hCo
   cases hv:yD d.co with
   |false=>
    have hno:=Hm (x9 hsh.out hv);have g0:=za A2.out 0;have g1:=za A2.out 1;have g2:=za A2.out 2;have g3:=za A2.out 3;have g4:=za A2.out 4;have h0:=zb A2.out 0;have h1:=zb A2.out 1;have h2:=zb A2.out 2;have h3:=zb A2.out 3;have h4:=zb A2.out 4;simp only[qk,ql,qm]at g0 g1 g2 g3 g4;go_wp2;obtain⟨Z,hZ,RZ,QZ,-⟩:=put5 A2.out (.int .i64 0) (.int .i64 0) (.slice none 0 0) (.slice none 0 0) (.slice none 0 0);rw[hZ];have z0:=za RZ 0;have z1:=za RZ 1;have z2:=za RZ 2;have z3:=za RZ 3;have z4:=za RZ 4;simp only[qk,ql,qm]at z0 z1 z2 z3 z4
    refine bodyPost_ret (v:=.agg #[.int .i64 0,.int .i64 0,.slice none 0 0,.slice none 0 0,.slice none 0 0]) (by simp[results,Tryd.results7,go_sem,z0,z1,z2,z3,z4];try rfl) rfl ?_;exact DecP.zero hno.out rfl (B2.out.trans QZ)
   |true=>
    have hye:=Hm (yV hsh.out hv);clear hv;have y0:=za C2.out 0;have y1:=za C2.out 1;have y2:=za C2.out 2;have y3:=za C2.out 3;have y4:=za C2.out 4;have g0:=za A2.out 0;have g1:=za A2.out 1;have g2:=za A2.out 2;have g3:=za A2.out 3;have g4:=za A2.out 4;have h0:=zb A2.out 0;have h1:=zb A2.out 1;have h2:=zb A2.out 2;have h3:=zb A2.out 3;have h4:=zb A2.out 4;simp only[qk,ql,qm]at g0 g1 g2 g3 g4 y0 y1 y2 y3 y4;go_wp2;obtain⟨Z,hZ,RZ,QZ,OZ⟩:=put5 A2.out (.int .i64 d.R) (.int .i64 d.S) (.slice s1 d.L1.length m1) (.slice s2 d.L2.length m2) (.slice s3 d.L3.length m3);rw[hZ];have z0:=za RZ 0;have z1:=za RZ 1;have z2:=za RZ 2;have z3:=za RZ 3
    have z4:=za RZ 4;simp only[qk,ql,qm]at z0 z1 z2 z3 z4;refine bodyPost_ret (v:=.agg #[.int .i64 d.R,.int .i64 d.S,.slice s1 d.L1.length m1,.slice s2 d.L2.length m2,.slice s3 d.L3.length m3]) (by simp[results,Tryd.results7,go_sem,z0,z1,z2,z3,z4];try rfl) rfl ?_;have hp:=PP.out;refine DecP.mk s1 s2 s3 m1 m2 m3 ?_ B1 B2' ?_ ?_ ?_ ?_ ?_ ?_ ?_ ?_ ?_ (B2.out.trans QZ)<;>(try rw[hye.out])
    ·exact⟨qo hsz hp.1.1,hp.1.2⟩
    ·exact hp.2.1
    ·exact hp.2.2
    ·exact(OZ _ _ _ _ _ _ (by decide) Q1.out).mono hsz
    ·exact OZ _ _ _ _ _ _ (by decide) Q2.out
    ·exact OZ _ _ _ _ _ _ (by decide) Q3.out
    ·exact l1
    ·exact l2
    ·exact l3
end Go.Proofs.YtbdldkpifanaiaaDoor.Dec
namespace Go.Proofs.YtbdldkpifanaiaaDoor.Enc
open Go Go.RowKit Mem ValC
attribute [local go_sem ↓] Go.wp_at_zero Go.wp_at_succ
theorem xW {B n:Nat} {w:World} {v:Value} {e:TypeId} {s:Nat} {xs:List Value} (h:w.ownsRow B e s v n xs):∀g,v.ownBlock=some g→∃c fz,w.heap[g]? =some (.cells c e fz):=by
 intro g hg;rcases h.2 with⟨rfl,_⟩|⟨g',cap,cur,rfl,_,hgg,_⟩
 ·simp[Value.ownBlock]at hg
 ·simp[Value.ownBlock]at hg
  subst hg;exact⟨cur,_,hgg⟩
theorem zj {B n:Nat} {w:World} {v:Value} {e:TypeId} {s:Nat} {xs:List Value} (h:w.ownsRow B e s v n xs):∃a c,v=.slice a n c∧n≤c:=by
 rcases h.2 with⟨rfl,h0⟩|⟨g,cap,cur,rfl,_,_,hc,_⟩
 ·exact⟨none,0,by rw[h0],by omega⟩
 ·exact⟨_,_,rfl,hc⟩
theorem zB {w w':World} {g:Nat} {C:Array Value} {t e:TypeId} {fr:Nat×Nat} {v:Value} {B n s:Nat} {xs:List Value} (hg:w.grownBy w' v.ownBlock) (hrow:w.ownsRow B e s v n xs) (hb:w.heap[g]? =some (.cells C t fr)) (hne:t≠e):w'.heap[g]? =some (.cells C t fr):=by
 rw[hg.block g (zu hb) ?_]
 ·exact hb
 ·intro e1
  obtain⟨c,fz,h⟩:=xW hrow g e1.symm;rw[hb]at h;injection h with h;injection h with _ h2;exact hne h2
theorem yu {w w':World} {B B' n n' s s':Nat} {v u:Value} {t e:TypeId} {xs ys:List Value} (h:w.ownsRow B t s v n xs) (hg:w.grownBy w' u.ownBlock) (hrow:w.ownsRow B' e s' u n' ys) (hne:t≠e):w'.ownsRow B t s v n xs:=by
 refine⟨h.1,?_⟩;rcases h.2 with h0|⟨g,cap,cur,h1,h2,h3,h4⟩
 ·exact Or.inl h0
 ·exact Or.inr ⟨g,cap,cur,h1,h2,zB hg hrow h3 hne,h4⟩
theorem z9 {w w':World} {B n s:Nat} {v:Value} {t:TypeId} {xs:List Value} (h:w.ownsRow B t s v n xs) (hb:Below w.heap.size w w'):w'.ownsRow B t s v n xs:=by
 refine⟨h.1,?_⟩;rcases h.2 with h0|⟨g,cap,cur,h1,h2,h3,h4⟩
 ·exact Or.inl h0
 ·exact Or.inr ⟨g,cap,cur,h1,h2,ze h3 hb,h4⟩
theorem YF:(Tryd.prog.info? 2).map (fun i=>(i.zero,i.size,i.bytes))=some (some (.int .i64 0),1,8):=by kernel_rfl
def lis (X:Nat→Is) (n:Nat):List Is:=(List.range n).map X
theorem Zi (X:Nat→Is) (n:Nat):(lis X n).length=n:=by simp[lis]
theorem Ui (X:Nat→Is) (n:Nat):lis X (n+1)=lis X n++[X n]:=by simp[lis,List.range_succ]
theorem xK (X:Nat→Is) (n:Nat):xi X n=(lis X n).flatMap yZ:=by
 induction n with
 |zero=>rfl
 |succ k ih=>rw[xi,ih,Ui,List.flatMap_append];simp
def XQ (C:Co):List Is:=lis C.B1 C.n1++(lis C.B2 C.n2++lis C.B3 C.n3)
theorem XN (C:Co):xI C=xm C++(XQ C).flatMap yZ:=by
 rw[xI,XQ,List.flatMap_append,List.flatMap_append,xK,xK,xK]
theorem XP (C:Co):(XQ C).length=C.n1+C.n2+C.n3:=by rw[XQ,qg,qg,Zi,Zi,Zi];omega
theorem ZJ (L:List Is):∀(k:Nat) (h:k<L.length) (j:Nat),j<4→(L.flatMap Is.cells)[k*4+j]? =L[k].cells[j]?:=by
 induction L with
 |nil=>intro k h;simp at h
 |cons x r ih=>
  intro k h j hj;rw[List.flatMap_cons]
  cases k with
  |zero=>
   rw[List.getElem?_append_left (by rw[Is.len];omega)];simp
  |succ m=>
   rw[List.getElem?_append_right (by rw[Is.len];omega),Is.len];rw[show(m+1)*4+j-4=m*4+j by omega];exact ih m (by simpa using h) j hj
theorem Tf (L:List Is) (k:Nat) (h:k<L.length):(L.take (k+1)).flatMap yZ=(L.take k).flatMap yZ++yZ L[k]:=by
 rw[List.take_add_one,List.getElem?_eq_getElem h,List.flatMap_append];simp
theorem Un (L:List Is):(L.flatMap yZ).length=4*L.length:=by
 induction L with
 |nil=>rfl
 |cons x r ih=>rw[List.flatMap_cons,qg,ih];simp[yZ];omega
def ints (zs:List Int):List Value:=zs.map (Value.int .i64)
theorem xf (a b:List Int):ints (a++b)=ints a++ints b:=by simp[ints]
theorem xb {w:World} {B s n c g:Nat} {t:TypeId} {xs:List Value} (h:w.ownsRow B t s (.slice (some ⟨g,0,none⟩) n c) n xs) (j:Nat) (u:Value) (hu:xs[j]? =some u):w.cell? ⟨g,j,none⟩=some u:=by
 have hj:j<n*s:=by rw[←h.1];exact(List.getElem?_eq_some_iff.1 hu).1
 rw[h.cellAt j hj];exact hu
theorem VM {w:World} {B n c g:Nat} {L:List Is} (h:w.ownsRow B 60 4 (.slice (some ⟨g,0,none⟩) n c) n (L.flatMap Is.cells)) {k:Nat} (hk:k<L.length):
  w.cell? ⟨g,k*4,none⟩=some (.int .i64 L[k].p)∧w.cell? ⟨g,k*4+1,none⟩=some (.int .i64 L[k].a)∧w.cell? ⟨g,k*4+2,none⟩=some (.int .i64 L[k].b)∧w.cell? ⟨g,k*4+3,none⟩=some (.int .i64 L[k].c):=
 ⟨xb h _ _ (ZJ L k hk 0 (by omega)),xb h _ _ (ZJ L k hk 1 (by omega)),xb h _ _ (ZJ L k hk 2 (by omega)),xb h _ _ (ZJ L k hk 3 (by omega))⟩
theorem small_nums {C:Co} (h:WY C):∀z∈xI C,-1000000000≤z∧z≤1000000000:=fun z hz=>by
 rw[xI,List.mem_append,List.mem_append,List.mem_append]at hz;rcases hz with hz|hz|hz|hz
 ·exact Zt h z hz
 ·exact Zj h.b1 (qn _) z hz
 ·exact Zj h.b2 (qn _) z hz
 ·exact Zj h.b3 (qn _) z hz
theorem nums_len {C:Co}:(xI C).length=5+4*(C.n1+C.n2+C.n3):=by
 rw[XN,qg,Un,XP];rfl
theorem Vb {zs:List Int} (h:∀z∈zs,-1000000000≤z∧z≤1000000000) (k:Nat) (hk:k≤zs.length):(vrs (zs.take k)).length≤5*k:=by
 have:=vrs_len (l:=zs.take k) (fun z hz=>h z (List.mem_of_mem_take hz));rw[List.length_take]at this;omega
theorem Wg (zs:List Int) (k:Nat) (h:k<zs.length):vrs (zs.take (k+1))=vrs (zs.take k)++vr zs[k]:=by
 rw[List.take_add_one,Zd,List.getElem?_eq_getElem h];simp[vrs]
theorem vr_pos (n:Int):0<(vr n).length:=WN _
end Go.Proofs.YtbdldkpifanaiaaDoor.Enc
namespace Go.Proofs.YtbdldkpifanaiaaDoor.Dec
open Go Go.RowKit Mem ValC Enc
attribute [local go_sem ↓] Go.wp_at_zero Go.wp_at_succ
theorem xz (bs:List UInt8) (k j:Nat):(bs.drop k).getD j 0=bs.getD (k+j) 0:=by
 simp[List.getD,List.getElem?_drop]
theorem one_of {bs:List UInt8} {k m:Nat} (hk:k≤m) (hm:m<bs.length) (h1:∀i,k≤i→i<m→128≤(bs.getD i 0).toNat) (h2:(bs.getD m 0).toNat<128):hib (bs.drop k)=m-k:=
 Ur (by rw[List.length_drop];omega) (fun i hi=>by rw[xz];exact h1 _ (by omega) (by omega)) (by rw[xz,show k+(m-k)=m by omega];exact h2)
theorem Uc {bs:List UInt8} {k:Nat} (hk:k≤bs.length) (h1:∀i,k≤i→i<bs.length→128≤(bs.getD i 0).toNat):one (bs.drop k)=none:=by
 have:bs.length-k≤hib (bs.drop k):=Uq (by rw[List.length_drop];omega) (fun i hi=>by rw[xz];exact h1 _ (by omega) (by omega));unfold one;rw[if_neg];rw[List.length_drop];omega
theorem Ub {bs:List UInt8} {k m:Nat} (h:hib (bs.drop k)=m-k) (h5:5≤m-k):one (bs.drop k)=none:=by
 unfold one;rw[if_neg];omega
theorem ZT {bs:List UInt8} {pre:List Int} {k:Nat} (h:Live bs pre (bs.drop k)) (hk:k<bs.length) (h1:one (bs.drop k)=none):nums bs=none:=by
 unfold Live at h;rw[h,Zh (by intro e;have:=congrArg List.length e;rw[List.length_drop]at this;simp at this;omega) h1];rfl
theorem seg {D:List UInt8} {x:Nat} (hx:x<D.length):yg (D.drop (D.length- (x+1)))=yg (D.drop (D.length-x))*128+(D.getD (D.length- (x+1)) 0).toNat % 128:=by
 have e:D.drop (D.length- (x+1))=D.getD (D.length- (x+1)) 0::D.drop (D.length-x):=by
  rw[List.drop_eq_getElem_cons (show D.length- (x+1)<D.length by omega),show D.length- (x+1)+1=D.length-x by omega]
  congr 1
  simp[List.getD,List.getElem?_eq_getElem (show D.length- (x+1)<D.length by omega)]
 rw[e,yg];omega
theorem seg_lt {D:List UInt8} (x:Nat) (h5:D.length≤5):yg (D.drop x)<2 ^ 35:=by
 have h:=Xl (D.drop x);have:(128:Nat) ^ (D.drop x).length≤128 ^ 5:=Nat.pow_le_pow_right (by omega) (by rw[List.length_drop];omega);omega
theorem Ua (bs:List UInt8) (n:Nat) (a:Option Addr) (c:Nat) (w:World) (hn:n=bs.length) (hr:RdB w a bs) (hl:n≤1048576):
  Calls Tryd.prog 24 #[.slice a n c] w fun e w'=>∃(ok:Bool) (v:Value) (l:List Int),e=.returned (.tuple #[.bool ok,v])∧w'.ownsRow w.heap.size 2 1 v l.length (ints l)∧Below w.heap.size w w'∧l.length≤n∧(ok=true→nums bs=some l)∧(ok=false→nums bs=none):=by
 obtain⟨i0,hi,hz0,hz1,hz2⟩:=info_parts YF;have HR:=Hm hr;have HN:=Hm hn;clear hr hn;go_enter Tryd.func24,Tryd.ntmps24;go_wp2;go_loopw [4,5] (fun v i wr=>∃(k:Nat) (pre:List Int),k≤n∧pre.length≤k∧i=.int .i64 (k:Int)∧Hid (wr.ownsRow w.heap.size 2 1 v pre.length (ints pre))∧Hid (Live bs pre (bs.drop k))∧Hid (Below w.heap.size w wr)) (fun _ i _=>n- (intOf i).toNat)
 case atStart=>
  refine⟨0,[],Nat.zero_le _,Nat.zero_le _,rfl,?_,?_,?_⟩
  ·exact World.ownsRow_made w (base:=w.heap.size) (e:=2) (size:=1) #[] 0 (by simp) (by unfold maxLen;omega) (by simp)
  ·rw[List.drop_zero];exact YC bs
  ·unfold Hid;go_grown
 case round=>
  obtain⟨k,pre,hk,hp,rfl,ho,hv,hb⟩:=hrel;obtain⟨va,vc,hvs⟩:=zF ho.out;rw[hvs]at ho ⊢;clear hvs;obtain⟨P,hP⟩:∃P,P=pre.length:=⟨_,rfl⟩;rw[←hP]at ho hp ⊢;have HP:=Hm hP;clear hP;by_cases hkn:k<n
  ·have k1:(k:Int)<(n:Int):=by omega
   have hCell:Hid (∃g o,a=some ⟨g,o,none⟩∧∀j,j<n→wr.cell? ⟨g,o+j,none⟩=some (.int .u8 ((bs.getD j 0).toNat:Int))):=by
    rcases HR.out.below hb.out with h|⟨g,o,ha,h⟩
    ·have:=HN.out;rw[h]at this;simp at this;omega
    ·refine⟨g,o,ha,fun j hj=>?_⟩
     have hj':j<bs.length:=by have:=HN.out;omega
     rw[h j hj'];simp[List.getD,List.getElem?_eq_getElem hj']
   obtain⟨g,o,rfl,hcell⟩:=hCell.out;have HC:=Hm hcell;clear hcell hCell;go_wp2;go_loopw [6] (fun j wq=>∃m:Nat,k≤m∧m≤n∧j=.int .i64 (m:Int)∧Hid (∀i,k≤i→i<m→128≤(bs.getD i 0).toNat)∧wq=wr) (fun j _=>n- (intOf j).toNat)
   case atStart=>exact⟨k,qn _,hk,rfl,fun i h1 h2=>by omega,rfl⟩
   case round=>
    obtain⟨m,hkm,hmn,rfl,hhi,hw⟩:=hrel;subst hw;by_cases hmn':m<n
    ·have hcm:=HC.out m hmn'
     obtain⟨y,hy⟩:∃y,y=(bs.getD m 0).toNat:=⟨_,rfl⟩;rw[←hy]at hcm;have HY:=Hm hy;have hy256:y<256:=by rw[hy];exact UInt8.toNat_lt _
     clear hy;have q0:(m:Int)<(n:Int):=by omega
     have m0:(0:Int)≤(m:Int):=by omega
     by_cases h128:128≤y
     ·have q1:(128:Int)≤(y:Int):=by omega
      go_wp2;refine⟨⟨m+1,by omega,by omega,by go_num,fun i h1 h2=>?_,by first|rfl|trivial⟩,by simp[intOf];omega⟩;by_cases e:i=m
      ·rw[e,←HY.out];exact h128
      ·exact hhi.out i h1 (by omega)
     ·have q1:decide ((128:Int)≤(y:Int))=false:=by simp;omega
      have hib0:Hid (hib (bs.drop k)=m-k):=one_of hkm (by have:=HN.out;omega) hhi.out (by rw[←HY.out];omega);have q2:((m:Int)==(n:Int))=false:=by simp;omega
      by_cases h5:5≤m-k
      ·have q3:(5:Int)≤(m:Int) - (k:Int):=by omega
       go_wp2;go_ret2;refine⟨false,_,pre,rfl,by rw[←HP.out];exact ho.out,hb.out,by rw[←HP.out];omega,fun e=>(nomatch e),fun _=>?_⟩;exact ZT hv.out (by have:=HN.out;omega) (Ub hib0.out h5)
      ·have q3:decide ((5:Int)≤(m:Int) - (k:Int))=false:=by simp;omega
       by_cases hz:k<m∧y=0
       ·have q4:(k:Int)<(m:Int):=by omega
        obtain⟨hkm',hy0⟩:=hz;subst hy0;go_wp2;go_ret2;refine⟨false,_,pre,rfl,by rw[←HP.out];exact ho.out,hb.out,by rw[←HP.out];omega,fun e=>(nomatch e),fun _=>?_⟩;refine ZT hv.out (by have:=HN.out;omega) (Yu hib0.out (by omega) ?_);rw[xz,show k+(m-k)=m by omega,←HY.out]
       ·have hone:Hid (one (bs.drop k)=some (unz (yg ((bs.drop k).take (m-k+1))),(bs.drop k).drop (m-k+1))):=Yv hib0.out (by rw[List.length_drop];have:=HN.out;omega) (by omega) (by rw[xz,show k+(m-k)=m by omega,←HY.out];omega)
        obtain⟨D,hD⟩:∃D,D=(bs.drop k).take (m-k+1):=⟨_,rfl⟩;have hDl:D.length=m-k+1:=by rw[hD,List.length_take,List.length_drop];have:=HN.out;omega
        have hDg:Hid (∀x,x<m-k+1→D.getD x 0=bs.getD (k+x) 0):=fun x hx=>by rw[hD];simp[List.getD,List.getElem?_take,hx,List.getElem?_drop]
        rw[←hD]at hone;clear hD;have hD5:D.length≤5:=by omega
        by_cases hkm':k<m
        ·have q4:(k:Int)<(m:Int):=by omega
         have q5:((y:Int)==0)=false:=by simp;omega
         go_wp2;go_loopw [7,8] (fun z j wq=>∃x:Nat,x≤D.length∧j=.int .i64 ((m:Int) - (x:Int))∧z=.int .i64 (yg (D.drop (D.length-x)):Int)∧wq=wr) (fun _ j _=>(intOf j+1- (k:Int)).toNat)
         case atStart=>exact⟨0,Nat.zero_le _,by simp,by rw[Nat.sub_zero,List.drop_length];rfl,rfl⟩
         case round=>
          obtain⟨x,hx,rfl,rfl,hw⟩:=hrel;subst hw;by_cases hxl:x<D.length
          ·obtain⟨t,ht⟩:∃t:Nat,t=m-x:=⟨_,rfl⟩
           have htm:(m:Int) - (x:Int)=(t:Int):=by omega
           rw[htm];have HTM:=Hm htm;have hct:=HC.out t (by omega);obtain⟨u,hu⟩:∃u,u=(bs.getD t 0).toNat:=⟨_,rfl⟩;rw[←hu]at hct;have hu256:u<256:=by rw[hu];exact UInt8.toNat_lt _
           have hsg:Hid (yg (D.drop (D.length- (x+1)))=yg (D.drop (D.length-x))*128+u % 128):=by unfold Hid;rw[seg hxl,hDg.out _ (by omega),show k+(D.length- (x+1))=t by omega,←hu]
           clear hu;have hZ35:=seg_lt (D.length-x) hD5;obtain⟨Zx,hZx⟩:∃Zx,Zx=yg (D.drop (D.length-x)):=⟨_,rfl⟩;rw[←hZx]at hsg hZ35 ⊢;clear hZx;have q6:(k:Int)≤(t:Int):=by omega
           have t0:(0:Int)≤(t:Int):=by omega
           have t1:(t:Int)<(n:Int):=by omega
           clear ht htm;go_wp2;refine⟨⟨x+1,by omega,congrArg (Value.int .i64) (by have:=HTM.out;omega),?_,by first|rfl|trivial⟩,by have:=HTM.out;simp[intOf];omega⟩;rw[hsg.out]
           go_num
          ·have hxe:x=D.length:=by omega
           rw[hxe,Nat.sub_self,List.drop_zero];have hZ35:yg D<2 ^ 35:=by have:=seg_lt (D:=D) 0 hD5;rw[List.drop_zero]at this;exact this
           obtain⟨Z,hZ⟩:∃Z,Z=yg D:=⟨_,rfl⟩;rw[←hZ]at hone hZ35 ⊢;clear hZ;have q6:decide ((k:Int)≤(m:Int) - (D.length:Int))=false:=by simp;omega
           by_cases hev:Z % 2=0
           ·have q7:((Z:Int) % 2==0)=true:=by simp;omega
            have hpa:Hid (pre.length+1≤1048577):=by unfold Hid;rw[←HP.out];omega
            have hbsz:=hb.out.size;obtain⟨zz,hzz⟩:∃zz:Int,zz=unz Z:=⟨_,rfl⟩;have hzv:zz=(Z:Int) / 2:=by rw[hzz];unfold unz;rw[if_neg (by omega)];omega
            have HZZ:=Hm hzz;clear hzz;go_wp2_with (at_builtin;refine wpList_append_own _ rfl _ _ 45 rfl w.heap.size 2 i0 (.int .i64 0) 1 8 Tryd.underlying45 hi hz0 hz1 hz2 rfl (by decide) _ _ _ rfl (ho.out.alloc _) ⟨wr.heap.size,0,none⟩ 1 1 [.int .i64 ((Z:Int) / 2)] rfl rfl (xZ wr _ 2) (by intro u hu;simp only[List.mem_cons,List.not_mem_nil,or_false]at hu;rcases hu with rfl;rfl) (by unfold maxLen;omega) (by omega) (by simp;omega) ?_);intro v6 w6 hown6 hgrow6 _;have hbl:Below w.heap.size wr w6:=((Below.refl _ _).alloc hbsz _).grown hgrow6 (by simp;omega) (fun j hj=>(ho.out.lt j hj).1);have O6:Hid (w6.ownsRow w.heap.size 2 1 v6 (pre++[unz Z]).length (ints (pre++[unz Z]))):=by unfold Hid;rw[qg,List.length_singleton,←HP.out,xf,←HZZ.out];first|exact hown6|(rw[hzv];exact hown6)
            have B6:=Hm (hb.out.trans hbl);clear hown6 hgrow6 hbl ho;obtain⟨va6,vc6,hv6⟩:=zF O6.out;rw[hv6]at O6 ⊢;clear hv6;refine Hid.out ?_;refine Lib.hid ?_;go_wp2;refine⟨⟨m+1,pre++[unz Z],by omega,by rw[qg,List.length_singleton,←HP.out];omega,by go_num,O6,?_,B6⟩,by simp[intOf];omega⟩;have:=yR hv.out hone.out;rw[List.drop_drop,show k+(m-k+1)=m+1 by omega]at this;exact this
           ·have q7:((Z:Int) % 2==0)=false:=by simp;omega
            have hpa:Hid (pre.length+1≤1048577):=by unfold Hid;rw[←HP.out];omega
            have hbsz:=hb.out.size;obtain⟨zz,hzz⟩:∃zz:Int,zz=unz Z:=⟨_,rfl⟩;have hzv:wrap64 (-((Z:Int)+1).tdiv 2)=zz:=by rw[hzz];unfold unz;rw[if_pos (by omega),Int.tdiv_eq_ediv_of_nonneg (by omega)];unfold wrap64;omega
            have HZZ:=Hm hzz;clear hzz;go_wp2_with (at_builtin;refine wpList_append_own _ rfl _ _ 45 rfl w.heap.size 2 i0 (.int .i64 0) 1 8 Tryd.underlying45 hi hz0 hz1 hz2 rfl (by decide) _ _ _ rfl (ho.out.alloc _) ⟨wr.heap.size,0,none⟩ 1 1 [.int .i64 (zz)] rfl rfl (xZ wr _ 2) (by intro u hu;simp only[List.mem_cons,List.not_mem_nil,or_false]at hu;rcases hu with rfl;rfl) (by unfold maxLen;omega) (by omega) (by simp;omega) ?_);intro v6 w6 hown6 hgrow6 _;have hbl:Below w.heap.size wr w6:=((Below.refl _ _).alloc hbsz _).grown hgrow6 (by simp;omega) (fun j hj=>(ho.out.lt j hj).1);have O6:Hid (w6.ownsRow w.heap.size 2 1 v6 (pre++[unz Z]).length (ints (pre++[unz Z]))):=by unfold Hid;rw[qg,List.length_singleton,←HP.out,xf,←HZZ.out];first|exact hown6|(rw[hzv];exact hown6)
            have B6:=Hm (hb.out.trans hbl);clear hown6 hgrow6 hbl ho;obtain⟨va6,vc6,hv6⟩:=zF O6.out;rw[hv6]at O6 ⊢;clear hv6;refine Hid.out ?_;refine Lib.hid ?_;go_wp2;refine⟨⟨m+1,pre++[unz Z],by omega,by rw[qg,List.length_singleton,←HP.out];omega,by go_num,O6,?_,B6⟩,by simp[intOf];omega⟩;have:=yR hv.out hone.out;rw[List.drop_drop,show k+(m-k+1)=m+1 by omega]at this;exact this
        ·have q4:decide ((k:Int)<(m:Int))=false:=by simp;omega
         go_wp2;go_loopw [7,8] (fun z j wq=>∃x:Nat,x≤D.length∧j=.int .i64 ((m:Int) - (x:Int))∧z=.int .i64 (yg (D.drop (D.length-x)):Int)∧wq=wr) (fun _ j _=>(intOf j+1- (k:Int)).toNat)
         case atStart=>exact⟨0,Nat.zero_le _,by simp,by rw[Nat.sub_zero,List.drop_length];rfl,rfl⟩
         case round=>
          obtain⟨x,hx,rfl,rfl,hw⟩:=hrel;subst hw;by_cases hxl:x<D.length
          ·obtain⟨t,ht⟩:∃t:Nat,t=m-x:=⟨_,rfl⟩
           have htm:(m:Int) - (x:Int)=(t:Int):=by omega
           rw[htm];have HTM:=Hm htm;have hct:=HC.out t (by omega);obtain⟨u,hu⟩:∃u,u=(bs.getD t 0).toNat:=⟨_,rfl⟩;rw[←hu]at hct;have hu256:u<256:=by rw[hu];exact UInt8.toNat_lt _
           have hsg:Hid (yg (D.drop (D.length- (x+1)))=yg (D.drop (D.length-x))*128+u % 128):=by unfold Hid;rw[seg hxl,hDg.out _ (by omega),show k+(D.length- (x+1))=t by omega,←hu]
           clear hu;have hZ35:=seg_lt (D.length-x) hD5;obtain⟨Zx,hZx⟩:∃Zx,Zx=yg (D.drop (D.length-x)):=⟨_,rfl⟩;rw[←hZx]at hsg hZ35 ⊢;clear hZx;have q6:(k:Int)≤(t:Int):=by omega
           have t0:(0:Int)≤(t:Int):=by omega
           have t1:(t:Int)<(n:Int):=by omega
           clear ht htm;go_wp2;refine⟨⟨x+1,by omega,congrArg (Value.int .i64) (by have:=HTM.out;omega),?_,by first|rfl|trivial⟩,by have:=HTM.out;simp[intOf];omega⟩;rw[hsg.out]
           go_num
          ·have hxe:x=D.length:=by omega
           rw[hxe,Nat.sub_self,List.drop_zero];have hZ35:yg D<2 ^ 35:=by have:=seg_lt (D:=D) 0 hD5;rw[List.drop_zero]at this;exact this
           obtain⟨Z,hZ⟩:∃Z,Z=yg D:=⟨_,rfl⟩;rw[←hZ]at hone hZ35 ⊢;clear hZ;have q6:decide ((k:Int)≤(m:Int) - (D.length:Int))=false:=by simp;omega
           by_cases hev:Z % 2=0
           ·have q7:((Z:Int) % 2==0)=true:=by simp;omega
            have hpa:Hid (pre.length+1≤1048577):=by unfold Hid;rw[←HP.out];omega
            have hbsz:=hb.out.size;obtain⟨zz,hzz⟩:∃zz:Int,zz=unz Z:=⟨_,rfl⟩;have hzv:zz=(Z:Int) / 2:=by rw[hzz];unfold unz;rw[if_neg (by omega)];omega
            have HZZ:=Hm hzz;clear hzz;go_wp2_with (at_builtin;refine wpList_append_own _ rfl _ _ 45 rfl w.heap.size 2 i0 (.int .i64 0) 1 8 Tryd.underlying45 hi hz0 hz1 hz2 rfl (by decide) _ _ _ rfl (ho.out.alloc _) ⟨wr.heap.size,0,none⟩ 1 1 [.int .i64 ((Z:Int) / 2)] rfl rfl (xZ wr _ 2) (by intro u hu;simp only[List.mem_cons,List.not_mem_nil,or_false]at hu;rcases hu with rfl;rfl) (by unfold maxLen;omega) (by omega) (by simp;omega) ?_);intro v6 w6 hown6 hgrow6 _;have hbl:Below w.heap.size wr w6:=((Below.refl _ _).alloc hbsz _).grown hgrow6 (by simp;omega) (fun j hj=>(ho.out.lt j hj).1);have O6:Hid (w6.ownsRow w.heap.size 2 1 v6 (pre++[unz Z]).length (ints (pre++[unz Z]))):=by unfold Hid;rw[qg,List.length_singleton,←HP.out,xf,←HZZ.out];first|exact hown6|(rw[hzv];exact hown6)
            have B6:=Hm (hb.out.trans hbl);clear hown6 hgrow6 hbl ho;obtain⟨va6,vc6,hv6⟩:=zF O6.out;rw[hv6]at O6 ⊢;clear hv6;refine Hid.out ?_;refine Lib.hid ?_;go_wp2;refine⟨⟨m+1,pre++[unz Z],by omega,by rw[qg,List.length_singleton,←HP.out];omega,by go_num,O6,?_,B6⟩,by simp[intOf];omega⟩;have:=yR hv.out hone.out;rw[List.drop_drop,show k+(m-k+1)=m+1 by omega]at this;exact this
           ·have q7:((Z:Int) % 2==0)=false:=by simp;omega
            have hpa:Hid (pre.length+1≤1048577):=by unfold Hid;rw[←HP.out];omega
            have hbsz:=hb.out.size;obtain⟨zz,hzz⟩:∃zz:Int,zz=unz Z:=⟨_,rfl⟩;have hzv:wrap64 (-((Z:Int)+1).tdiv 2)=zz:=by rw[hzz];unfold unz;rw[if_pos (by omega),Int.tdiv_eq_ediv_of_nonneg (by omega)];unfold wrap64;omega
            have HZZ:=Hm hzz;clear hzz;go_wp2_with (at_builtin;refine wpList_append_own _ rfl _ _ 45 rfl w.heap.size 2 i0 (.int .i64 0) 1 8 Tryd.underlying45 hi hz0 hz1 hz2 rfl (by decide) _ _ _ rfl (ho.out.alloc _) ⟨wr.heap.size,0,none⟩ 1 1 [.int .i64 (zz)] rfl rfl (xZ wr _ 2) (by intro u hu;simp only[List.mem_cons,List.not_mem_nil,or_false]at hu;rcases hu with rfl;rfl) (by unfold maxLen;omega) (by omega) (by simp;omega) ?_);intro v6 w6 hown6 hgrow6 _;have hbl:Below w.heap.size wr w6:=((Below.refl _ _).alloc hbsz _).grown hgrow6 (by simp;omega) (fun j hj=>(ho.out.lt j hj).1);have O6:Hid (w6.ownsRow w.heap.size 2 1 v6 (pre++[unz Z]).length (ints (pre++[unz Z]))):=by unfold Hid;rw[qg,List.length_singleton,←HP.out,xf,←HZZ.out];first|exact hown6|(rw[hzv];exact hown6)
            have B6:=Hm (hb.out.trans hbl);clear hown6 hgrow6 hbl ho;obtain⟨va6,vc6,hv6⟩:=zF O6.out;rw[hv6]at O6 ⊢;clear hv6;refine Hid.out ?_;refine Lib.hid ?_;go_wp2;refine⟨⟨m+1,pre++[unz Z],by omega,by rw[qg,List.length_singleton,←HP.out];omega,by go_num,O6,?_,B6⟩,by simp[intOf];omega⟩;have:=yR hv.out hone.out;rw[List.drop_drop,show k+(m-k+1)=m+1 by omega]at this;exact this
    ·obtain rfl:n=m:=by omega
     have q0:decide ((n:Int)<(n:Int))=false:=by simp
     go_wp2;go_ret2;refine⟨false,_,pre,rfl,by rw[←HP.out];exact ho.out,hb.out,by rw[←HP.out];omega,fun e=>(nomatch e),fun _=>?_⟩;exact ZT hv.out (by have:=HN.out;omega) (Uc (by have:=HN.out;omega) (fun i h1 h2=>hhi.out i h1 (by have:=HN.out;omega)))
  ·obtain rfl:k=n:=by omega
   have k1:decide ((k:Int)<(k:Int))=false:=by simp
   go_wp2;go_ret2;refine⟨true,_,pre,rfl,by rw[←HP.out];exact ho.out,hb.out,by rw[←HP.out];exact hp,fun _=>?_,fun e=>(nomatch e)⟩;have:=hv.out;unfold Live at this;rw[HN.out,List.drop_length,xH]at this;rw[this];simp
end Go.Proofs.YtbdldkpifanaiaaDoor.Dec
