import Derived.Test.YtbkajklninmhiaaGreatDoorPm03
import Derived.Test.YtbkajklninmhiaaGreatDoorPm05
import Derived.Lib.ConvBytes
set_option maxHeartbeats 1600000
set_option maxRecDepth 1000000
set_option linter.unusedVariables false
set_option linter.unusedSimpArgs false
open List renaming getElem_cons_succ → qd, length_cons → qh, length_nil → qi
open Nat renaming le_refl → qp, le_of_lt → qs, lt_of_le_of_lt → qt
namespace Go.Proofs.YtbkajklninmhiaaGreatDoor.Par
open Go Go.RowKit Mem Syn Parse
attribute [local go_sem ↓] Go.wp_at_zero Go.wp_at_succ
structure Pz where
 (s:Nat) (k:Tk) (o d:Nat)
def pzC (a:Option Addr) (n c:Nat) (z:Pz):Array Value:=#[.slice a n c,.int .i64 (z.s:Int),.int .i64 (z.k.k:Int),.int .i64 (z.k.at':Int),.string ⟨z.k.n.toArray⟩,.int .i64 z.k.v,.int .i64 (z.o:Int),.int .i64 (z.d:Int)]
structure Px (B b:Nat) (a:Option Addr) (c:Nat) (t:List UInt8) (z:Pz) (w:World):Prop where
 blk:w.heap[b]? =some (.cells (pzC a t.length c z) 50)
 txt:Txt B w (.slice a t.length c) t
 hB:B≤b
 tw:Xg w
 tb:ZT w
 gw:0<B
 gb:3<B
 sm:t.length≤65536
 sz:z.s≤t.length
theorem Px.lt {B b:Nat} {a:Option Addr} {c:Nat} {t:List UInt8} {z:Pz} {w:World} (h:Px B b a c t z w):b<w.heap.size:=zN h.blk
theorem Px.below {B b:Nat} {a:Option Addr} {c:Nat} {t:List UInt8} {z:Pz} {w w':World} (h:Px B b a c t z w) (hb:Below w.heap.size w w'):Px B b a c t z w':=
 ⟨zg h.blk hb,h.txt.below (hb.mono (qs (qt h.hB h.lt))),h.hB,h.tw.below hb,h.tb.below hb,h.gw,h.gb,h.sm,h.sz⟩
theorem Px.turn {B b:Nat} {a:Option Addr} {c:Nat} {t:List UInt8} {z z':Pz} {w w':World} (h:Px B b a c t z w) (hg:w.grownBy w' (some b)) (hb:w'.heap[b]? =some (.cells (pzC a t.length c z') 50)) (hs:z'.s≤t.length):Px B b a c t z' w':=by
 have hlt:=h.lt;have hB:=h.hB;refine⟨hb,h.txt.below (Zd hg h.hB (by omega)),h.hB,fun m hm=>hg.cell (h.tw m hm) ?_,fun m hm=>hg.cell (h.tb m hm) ?_,h.gw,h.gb,h.sm,hs⟩
 ·have:=h.gw;simp;omega
 ·have:=h.gb;simp;omega
def flV (c:Int) (at':Nat):List PanicEntry:=[{v:=.iface 42 (.agg #[.int .i64 c,.int .i64 (at':Int)]),recovered:=false}]
theorem Px.set1 {B b:Nat} {a:Option Addr} {c:Nat} {t:List UInt8} {z:Pz} {w:World} (h:Px B b a c t z w) {s:Nat} {x:Int} (hx:x=(s:Int)) (hs:s≤t.length):Px B b a c t ⟨s,z.k,z.o,z.d⟩ (w.setCell ⟨b,1,none⟩ (.int .i64 x)):=by
 refine h.turn (yJ _ _ _ _) ?_ hs;have:=zq h.blk 1 (.int .i64 x);rw[hx]at this ⊢;simpa[pzC]using this
theorem TO {l:List UInt8} {k:Nat} (hk:k≤(run l).length) (h:k<l.length):(wB l[k]=true→k+1≤(run l).length)∧(wB l[k]=false→k=(run l).length):=by
 induction l generalizing k with
 |nil=>simp at h
 |cons c r ih=>
  unfold run at hk ⊢;rw[List.takeWhile_cons]at hk ⊢
  cases hc:wB c with
  |true=>
   rw[hc]at hk;simp only[if_true,qh]at hk ⊢
   cases k with
   |zero=>simp[hc]
   |succ k=>
    have:=ih (k:=k) (by unfold run;omega) (by simpa using h);unfold run at this;simp only[qd];exact⟨fun h'=>by have:=this.1 h';omega,fun h'=>by have:=this.2 h';omega⟩
  |false=>
   rw[hc]at hk;simp only[Bool.false_eq_true,if_false,qi,Nat.le_zero]at hk ⊢;subst hk;simp[hc]
theorem Vg (l:List UInt8):run l=l.take (run l).length:=by
 unfold run
 induction l with
 |nil=>rfl
 |cons c r ih=>
  rw[List.takeWhile_cons]
  split
  ·rw[qh,List.take_succ_cons,←ih]
  ·rfl
theorem Px.other {B b:Nat} {a:Option Addr} {c:Nat} {t:List UInt8} {z:Pz} {w:World} (h:Px B b a c t z w) {r i:Nat} {v:Value} (hr:B≤r) (hne:b≠r):Px B b a c t z (w.setCell ⟨r,i,none⟩ v):=by
 have hlt:=h.lt;have hB:=h.hB;have bel:Below B w (w.setCell ⟨r,i,none⟩ v):=(Below.refl _ _).setCell (p:=⟨r,i,none⟩) hr v
 have cel:∀{p:Addr} {u:Value},w.cell? p=some u→p.block<B→(w.setCell ⟨r,i,none⟩ v).cell? p=some u:=fun hc hp=>by
  rw[World.cell?_setCell_far _ _ _ _ (by simp;omega)];exact hc
 exact⟨zt h.blk hne v,h.txt.below bel,h.hB,fun m hm=>cel (h.tw m hm) h.gw,fun m hm=>cel (h.tb m hm) h.gb,h.gw,h.gb,h.sm,h.sz⟩
theorem zr {w W:World} {g r i:Nat} {v:Value} (h:w.grownBy W (some g)) (hr:w.heap.size≤r):w.grownBy (W.setCell ⟨r,i,none⟩ v) (some g):=
 ⟨h.os,h.tape,h.output,by rw[yn];exact h.size,fun k hk hne=>by rw[Below.heap_setCell _ _ _ _ (show k≠(⟨r,i,none⟩:Addr).block by simp;omega)];exact h.block k hk hne⟩
theorem zl {w w':World} {g r:Nat} {o:Obj} (h:w.heap[r]? =some o) (hg:w.grownBy w' (some g)) (hne:r≠g):w'.heap[r]? =some o:=by
 rw[hg.block r (zN h) (by simp;exact hne)];exact h
theorem VR (B b:Nat) (a:Option Addr) (c:Nat) (t:List UInt8) (z:Pz) (w:World) (h:Px B b a c t z w) (x:Int):
  Calls Tryz.prog 148 #[.pointer (some ⟨b,0,none⟩),.int .i64 x] w fun e w'=>e=.panicked (flV x z.s)∧Below w.heap.size w w':=by
 have x1:w.cell? ⟨b,1,none⟩=some (.int .i64 (z.s:Int)):=by rw[zb h.blk 1];rfl
 clear h;go_enter Tryz.func148,Tryz.ntmps148;go_wp2;exact⟨rfl,rfl,Below.refl _ _⟩
theorem Tw (B b:Nat) (a:Option Addr) (c:Nat) (t:List UInt8) (z:Pz) (w:World) (h:Px B b a c t z w) (k:Tk) (x:Int) (m:Nat) (hm:z.s+m≤t.length):
  Calls Tryz.prog 149 #[.pointer (some ⟨b,0,none⟩),.agg #[.int .i64 (k.k:Int),.int .i64 x,.string ⟨k.n.toArray⟩,.int .i64 k.v],.int .i64 (m:Int)] w fun e w'=>e=.returned (.agg #[.int .i64 (k.k:Int),.int .i64 (z.s:Int),.string ⟨k.n.toArray⟩,.int .i64 k.v])∧Px B b a c t ⟨z.s+m,z.k,z.o,z.d⟩ w'∧w.grownBy w' (some b):=by
 have x1:w.cell? ⟨b,1,none⟩=some (.int .i64 (z.s:Int)):=by rw[zb h.blk 1];rfl
 have f1:w.frozen? ⟨b,1,none⟩=false:=zc h.blk 1;have hlt:=h.lt;have hsm:=h.sm;have hw:IntKind.i64.wrap ((z.s:Int)+(m:Int))=((z.s+m:Nat):Int):=by rw[IntKind.wrap_i64];omega
 have H:=Hm h;clear h;go_enter Tryz.func149,Tryz.ntmps149;go_wp2;refine bodyPost_ret (by simp[results,Tryz.results149,go_sem];try rfl) rfl ?_;refine⟨rfl,Px.below (H.out.set1 (x:=(z.s:Int)+(m:Int)) (by omega) hm) ?_,zi (yJ w b 1 (.int .i64 ((z.s:Int)+(m:Int)))) (zD ?_)⟩
 ·exact zd (zd (Below.refl _ _) _) _
 ·exact zd (zd (Below.refl _ _) _) _
theorem runI (B b g q:Nat) (c:Nat) (t:List UInt8) (z:Pz) (w:World) (h:Px B b (some ⟨g,q,none⟩) c t z w) (hs:z.s<t.length):
  Calls Tryz.prog 147 #[.pointer (some ⟨b,0,none⟩)] w fun e w'=>e=.returned (.slice (some ⟨g,q+z.s,none⟩) (run (t.drop z.s)).length (c-z.s))∧Below w.heap.size w w':=by
 have x0:w.cell? ⟨b,0,none⟩=some (.slice (some ⟨g,q,none⟩) t.length c):=by rw[zb h.blk 0];rfl
 have x1:w.cell? ⟨b,1,none⟩=some (.int .i64 (z.s:Int)):=by rw[zb h.blk 1];rfl
 have hsm:=h.sm;obtain⟨p,c',e,hc,hp,hr⟩:=h.txt.rd;injection e with e1 e2 e3;subst e1;subst e3;have HR:=Hm hr;clear h hr hp;go_enter Tryz.func147,Tryz.ntmps147;go_wp2_with fail
 go_loop [3] (fun i=>∃k:Nat,k≤(run (t.drop z.s)).length∧i=.int .i64 ((z.s+k:Nat):Int)) (fun i=>t.length- (intOf i).toNat)
 case atStart=>exact⟨0,Nat.zero_le _,rfl⟩
 case round=>
  obtain⟨k,hk,rfl⟩:=hrel;have hrl:=WG (t.drop z.s);rw[List.length_drop]at hrl;obtain⟨L,hL⟩:∃L,L=(run (t.drop z.s)).length:=⟨_,rfl⟩;rw[←hL]at hrl hk ⊢;have HL:=Hm hL;have k0:(0:Int)≤((z.s+k:Nat):Int):=by omega
  by_cases hlt:z.s+k<t.length
  ·have k1:((z.s+k:Nat):Int)<(t.length:Int):=by omega
   have y0:=HR.out.at (z.s+k) hlt;have st:=TO (l:=t.drop z.s) (k:=k) (by rw[←hL];exact hk) (by rw[List.length_drop];omega);rw[List.getElem_drop,←hL]at st;obtain⟨u,hu⟩:∃u,u=t[z.s+k]:=⟨_,rfl⟩;rw[←hu]at y0 st;clear hu hL
   cases hw:wB u with
   |true=>
    have h1:=st.1 hw;clear st;go_wp2_with (go_at_call 138;refine(ZV u _).mono ?_;rintro e w1 ⟨rfl,rfl⟩;rw[hw]);exact⟨⟨k+1,h1,by go_num⟩,by simp[intOf];omega⟩
   |false=>
    have h1:=Hm (st.2 hw);clear st;go_wp2_with (go_at_call 138;refine(ZV u _).mono ?_;rintro e w1 ⟨rfl,rfl⟩;rw[hw]);go_region;go_wp2;go_ret;refine⟨?_,(Below.refl _ _).drew⟩;have:=h1.out;rw[show z.s+k-z.s=L by omega,HL.out];rfl
  ·have k1:decide (((z.s+k:Nat):Int)<(t.length:Int))=false:=by simp;omega
   have h1:Hid (k=L):=by unfold Hid;omega
   clear hL;go_wp2_with fail;go_region;go_wp2;go_ret;refine⟨?_,(Below.refl _ _).drew⟩;have:=h1.out;rw[show z.s+k-z.s=L by omega,HL.out];rfl
theorem QP (B b g q:Nat) (c:Nat) (t:List UInt8) (z:Pz) (w:World) (h:Px B b (some ⟨g,q,none⟩) c t z w) (hs:z.s<t.length) (n:List UInt8) (hn:n=run (t.drop z.s)):
  Calls Tryz.prog 125 #[.pointer (some ⟨b,0,none⟩)] w fun e w'=>
   (n.length≤16→e=.returned (.agg #[.int .i64 (wk n:Int),.int .i64 (z.s:Int),.string ⟨n.toArray⟩,.int .i64 0])∧Px B b (some ⟨g,q,none⟩) c t ⟨z.s+n.length,z.k,z.o,z.d⟩ w')∧(16<n.length→e=.panicked (flV 3 z.s))∧w.grownBy w' (some b):=by
 have hrl:=WG (t.drop z.s);rw[List.length_drop,←hn]at hrl;have hsm:=h.sm;have hlt:=h.lt;obtain⟨W1,hW1⟩:∃W,W=w.alloc (.cells #[.int .i64 0,.int .i64 0,.string ⟨#[]⟩,.int .i64 0] 48):=⟨_,rfl⟩;have A1:Hid (Below w.heap.size w W1):=by rw[hW1];exact zd (Below.refl _ _) _
 have R1:Hid (W1.heap[w.heap.size]? =some (.cells #[.int .i64 0,.int .i64 0,.string ⟨#[]⟩,.int .i64 0] 48)):=by rw[hW1];exact zo _ _
 have P1:=Hm (h.below A1.out);have CR:=Hm (runI B b g q c t z W1 P1.out hs);rw[←hn]at CR
 have HR:Hid (Rd W1 (some ⟨g,q+z.s,none⟩) n):=by
  obtain⟨p,c',e,hc,hp,hr⟩:=P1.out.txt.rd;injection e with e1 e2 e3;subst e1;have:=(hr.drop z.s).take (run (t.drop z.s)).length;rw[←Vg,←hn]at this;exact this
 obtain⟨N,hN⟩:∃N,N=n.length:=⟨_,rfl⟩;rw[←hN]at CR hrl ⊢;have HN:=Hm hN;clear hn h hN;by_cases h16:N≤16
 ·have k1:decide ((16:Int)<(N:Int))=false:=by simp;omega
  go_enter Tryz.func125,Tryz.ntmps125;go_wp2_with fail;rw[←hW1];refine CR.out.mono ?_;rintro e w2 ⟨rfl,hb2⟩;have P2:=Hm (P1.out.below hb2);have A2:=Hm (zn A1.out hb2);have R2:=Hm (zg R1.out hb2);have cv:=WW (P:=Tryz.prog) w2 22 9 5 (some ⟨g,q+z.s,none⟩) N (c-z.s) n HN.out (HR.out.below hb2) Tryz.underlying22 Tryz.underlying5 Tryz.underlying9;clear hb2 P1 A1 R1 CR HR hW1
  go_wp2_with (first|(go_at_call 139;go_must (refine(XX n _ P2.out.tw).mono ?_;rintro e w' ⟨rfl,rfl⟩))|(go_at_call 149;go_must (refine(Tw B b _ c t z _ P2.out ⟨wk n,0,n,0⟩ 0 N (by omega)).mono ?_;rintro e w3 ⟨rfl,p3,g3⟩;have P3:=Hm p3;have R3:=Hm (zl R2.out g3 (by omega));have G3:=Hm (zi (zD A2.out) g3);clear p3 g3;have r0:=(zb R3.out 0).trans rfl;have r1:=(zb R3.out 1).trans rfl;have r2:=(zb R3.out 2).trans rfl;have r3:=(zb R3.out 3).trans rfl;have q0:=zc R3.out 0;have q1:=zc R3.out 1;have q2:=zc R3.out 2;have q3:=zc R3.out 3)));refine bodyPost_ret (by simp[results,Tryz.results125,go_sem,r0,r1,r2,r3];try rfl) rfl ?_
  exact⟨fun _=>⟨rfl,(((P3.out.other (by have:=P3.out.hB;omega) (by omega)).other (by have:=P3.out.hB;omega) (by omega)).other (by have:=P3.out.hB;omega) (by omega)).other (by have:=P3.out.hB;omega) (by omega)⟩,fun h=>absurd h (by omega),zr (zr (zr (zr G3.out (qp _)) (qp _)) (qp _)) (qp _)⟩
 ·have k1:(16:Int)<(N:Int):=by omega
  go_enter Tryz.func125,Tryz.ntmps125;go_wp2_with fail;rw[←hW1];refine CR.out.mono ?_;rintro e w2 ⟨rfl,hb2⟩;have P2:=Hm (P1.out.below hb2);have A2:=Hm (zn A1.out hb2);clear hb2 P1 A1 R1 CR HR hW1;go_wp2_with (go_at_call 148;go_must (refine(VR B b _ c t z _ P2.out 3).mono ?_;rintro e w3 ⟨rfl,hb3⟩));exact⟨rfl,fun h=>absurd h h16,fun _=>rfl,zD (zn A2.out hb3)⟩
theorem UL (B b g q:Nat) (c:Nat) (t:List UInt8) (z:Pz) (w:World) (h:Px B b (some ⟨g,q,none⟩) c t z w) (hs:z.s<t.length) (n:List UInt8) (hn:n=run (t.drop z.s)):
  Calls Tryz.prog 127 #[.pointer (some ⟨b,0,none⟩)] w fun e w'=>
   (plain n=true→e=.returned (.agg #[.int .i64 1,.int .i64 (z.s:Int),.string ⟨#[]⟩,.int .i64 (dec n)])∧Px B b (some ⟨g,q,none⟩) c t ⟨z.s+n.length,z.k,z.o,z.d⟩ w')∧(plain n=false→e=.panicked (flV 3 z.s))∧w.grownBy w' (some b):=by
 have hrl:=WG (t.drop z.s);rw[List.length_drop,←hn]at hrl;have hsm:=h.sm;have hlt:=h.lt;obtain⟨W1,hW1⟩:∃W,W=w.alloc (.cells #[.int .i64 0,.int .i64 0,.string ⟨#[]⟩,.int .i64 0] 48):=⟨_,rfl⟩;have A1:Hid (Below w.heap.size w W1):=by rw[hW1];exact zd (Below.refl _ _) _
 have R1:Hid (W1.heap[w.heap.size]? =some (.cells #[.int .i64 0,.int .i64 0,.string ⟨#[]⟩,.int .i64 0] 48)):=by rw[hW1];exact zo _ _
 have P1:=Hm (h.below A1.out);have CR:=Hm (runI B b g q c t z W1 P1.out hs);rw[←hn]at CR
 have HR:Hid (Rd W1 (some ⟨g,q+z.s,none⟩) n):=by
  obtain⟨p,c',e,hc,hp,hr⟩:=P1.out.txt.rd;injection e with e1 e2 e3;subst e1;have:=(hr.drop z.s).take (run (t.drop z.s)).length;rw[←Vg,←hn]at this;exact this
 obtain⟨N,hN⟩:∃N,N=n.length:=⟨_,rfl⟩;rw[←hN]at CR hrl ⊢;have HN:=Hm hN;clear hn h hN
 cases hp:plain n with
 |true=>
  have HP:Hid (xB n=.tuple #[.int .i64 (dec n),.bool true]):=by unfold Hid xB;rw[hp];rfl
  obtain⟨D,hD⟩:∃D,D=dec n:=⟨_,rfl⟩;rw[←hD]at HP ⊢;clear hD hp;go_enter Tryz.func127,Tryz.ntmps127;go_wp2_with fail;rw[←hW1];refine CR.out.mono ?_;rintro e w2 ⟨rfl,hb2⟩;have P2:=Hm (P1.out.below hb2);have A2:=Hm (zn A1.out hb2);have R2:=Hm (zg R1.out hb2);have HR2:=Hm (HR.out.below hb2);clear hb2 P1 A1 R1 CR HR hW1
  go_wp2_with (first|(go_at_call 150;go_must (refine(Sc _ n N (c-z.s) _ HN.out HR2.out).mono ?_;rintro e w' ⟨rfl,rfl⟩;rw[HP.out]))|(go_at_call 149;go_must (refine(Tw B b _ c t z _ P2.out ⟨1,0,[],D⟩ 0 N (by omega)).mono ?_;rintro e w3 ⟨rfl,p3,g3⟩;have P3:=Hm p3;have R3:=Hm (zl R2.out g3 (by omega));have G3:=Hm (zi (zD A2.out) g3);clear p3 g3;have r0:=(zb R3.out 0).trans rfl;have r1:=(zb R3.out 1).trans rfl;have r2:=(zb R3.out 2).trans rfl;have r3:=(zb R3.out 3).trans rfl;have q0:=zc R3.out 0;have q1:=zc R3.out 1;have q2:=zc R3.out 2;have q3:=zc R3.out 3)));refine bodyPost_ret (by simp[results,Tryz.results127,go_sem,r0,r1,r2,r3];try rfl) rfl ?_
  exact⟨fun _=>⟨rfl,(((P3.out.other (by have:=P3.out.hB;omega) (by omega)).other (by have:=P3.out.hB;omega) (by omega)).other (by have:=P3.out.hB;omega) (by omega)).other (by have:=P3.out.hB;omega) (by omega)⟩,fun h=>absurd h (by simp),zr (zr (zr (zr G3.out (qp _)) (qp _)) (qp _)) (qp _)⟩
 |false=>
  have HP:=Hm (xJ hp);clear hp;go_enter Tryz.func127,Tryz.ntmps127;go_wp2_with fail;rw[←hW1];refine CR.out.mono ?_;rintro e w2 ⟨rfl,hb2⟩;have P2:=Hm (P1.out.below hb2);have A2:=Hm (zn A1.out hb2);have HR2:=Hm (HR.out.below hb2);clear hb2 P1 A1 R1 CR HR hW1;go_wp2_with (first|(go_at_call 150;go_must (refine(Sc _ n N (c-z.s) _ HN.out HR2.out).mono ?_;rintro e w' ⟨rfl,rfl⟩;rw[HP.out]))|(go_at_call 148;go_must (refine(VR B b _ c t z _ P2.out 3).mono ?_;rintro e w3 ⟨rfl,hb3⟩)));exact⟨rfl,fun h=>absurd h (by simp),fun _=>rfl,zD (zn A2.out hb3)⟩
def Zl (l:List UInt8):Nat→Nat→Nat→Nat
 |k,0,lo=>lo
 |k,f+1,lo=>Zl l (k+1) f (if (zG lo).length<(zG k).length∧(zG k).isPrefixOf l=true then k else lo)
theorem Tu {c:UInt8} {k:UInt8}:c.toNat=k.toNat↔c=k:=⟨fun h=>UInt8.toNat_inj.1 h,fun h=>by rw[h]⟩
theorem Rr (l:List UInt8):Zl l 3 11 0=yB l:=by
 cases l with
 |nil=>decide
 |cons c r=>
  have t0:zG 0=[]:=rfl;have t3:zG 3=[59]:=rfl;have t4:zG 4=[44]:=rfl;have t5:zG 5=[40]:=rfl;have t6:zG 6=[41]:=rfl;have t7:zG 7=[46,46]:=rfl;have t8:zG 8=[42]:=rfl;have t9:zG 9=[43]:=rfl;have t10:zG 10=[45]:=rfl;have t11:zG 11=[60]:=rfl;have t12:zG 12=[60,61]:=rfl;have t13:zG 13=[61]:=rfl;by_cases h:c=59
  ·subst h;simp[Zl,yB,t0,t3,t4,t5,t6,t7,t8,t9,t10,t11,t12,t13,List.isPrefixOf]
  by_cases h:c=44
  ·subst h;simp[Zl,yB,t0,t3,t4,t5,t6,t7,t8,t9,t10,t11,t12,t13,List.isPrefixOf]
  by_cases h:c=40
  ·subst h;simp[Zl,yB,t0,t3,t4,t5,t6,t7,t8,t9,t10,t11,t12,t13,List.isPrefixOf]
  by_cases h:c=41
  ·subst h;simp[Zl,yB,t0,t3,t4,t5,t6,t7,t8,t9,t10,t11,t12,t13,List.isPrefixOf]
  by_cases h:c=42
  ·subst h;simp[Zl,yB,t0,t3,t4,t5,t6,t7,t8,t9,t10,t11,t12,t13,List.isPrefixOf]
  by_cases h:c=43
  ·subst h;simp[Zl,yB,t0,t3,t4,t5,t6,t7,t8,t9,t10,t11,t12,t13,List.isPrefixOf]
  by_cases h:c=45
  ·subst h;simp[Zl,yB,t0,t3,t4,t5,t6,t7,t8,t9,t10,t11,t12,t13,List.isPrefixOf]
  by_cases h:c=61
  ·subst h;simp[Zl,yB,t0,t3,t4,t5,t6,t7,t8,t9,t10,t11,t12,t13,List.isPrefixOf]
  by_cases h:c=46
  ·subst h
   cases r with
   |nil=>simp[Zl,yB,t0,t3,t4,t5,t6,t7,t8,t9,t10,t11,t12,t13,List.isPrefixOf]
   |cons d r=>
    by_cases h:d=46
    ·subst h;simp[Zl,yB,t0,t3,t4,t5,t6,t7,t8,t9,t10,t11,t12,t13,List.isPrefixOf]
    ·have h':¬46=d:=fun e=>h e.symm
     simp[Zl,yB,t0,t3,t4,t5,t6,t7,t8,t9,t10,t11,t12,t13,List.isPrefixOf,h,h']
  by_cases h:c=60
  ·subst h
   cases r with
   |nil=>simp[Zl,yB,t0,t3,t4,t5,t6,t7,t8,t9,t10,t11,t12,t13,List.isPrefixOf]
   |cons d r=>
    by_cases h:d=61
    ·subst h;simp[Zl,yB,t0,t3,t4,t5,t6,t7,t8,t9,t10,t11,t12,t13,List.isPrefixOf]
    ·have h':¬61=d:=fun e=>h e.symm
     simp[Zl,yB,t0,t3,t4,t5,t6,t7,t8,t9,t10,t11,t12,t13,List.isPrefixOf,h,h']
  rename_i n1 n2 n3 n4 n5 n6 n7 n8 n9
  have e:∀k:UInt8,¬c=k→¬k=c∧¬c.toNat=k.toNat:=fun k hk=>⟨fun e=>hk e.symm,fun e=>hk (Tu.1 e)⟩
  obtain⟨a1,b1⟩:=e _ n1;obtain⟨a2,b2⟩:=e _ n2;obtain⟨a3,b3⟩:=e _ n3;obtain⟨a4,b4⟩:=e _ n4;obtain⟨a5,b5⟩:=e _ n5;obtain⟨a6,b6⟩:=e _ n6;obtain⟨a7,b7⟩:=e _ n7;obtain⟨a8,b8⟩:=e _ n8;obtain⟨a9,b9⟩:=e _ n9;obtain⟨a0,b0⟩:=e _ h;simp at b0 b1 b2 b3 b4 b5 b6 b7 b8 b9;simp[Zl,yB,t0,t3,t4,t5,t6,t7,t8,t9,t10,t11,t12,t13,List.isPrefixOf,a0,a1,a2,a3,a4,a5,a6,a7,a8,a9,b0,b1,b2,b3,b4,b5,b6,b7,b8,b9]
theorem equalG (a a':Option Addr) (x y:List UInt8) (n m c d:Nat) (w:World) (hn:n=x.length) (hm:m=y.length) (h1:Rd w a x) (h2:Rd w a' y):
  Calls Tryz.prog 160 #[.slice a n c,.slice a' m d] w fun e w'=>e=.returned (.bool (x==y))∧w'=w:=by
 have cx:=WW (P:=Tryz.prog) w 22 9 5 a n c x hn h1 Tryz.underlying22 Tryz.underlying5 Tryz.underlying9;have cy:=WW (P:=Tryz.prog) w 22 9 5 a' m d y hm h2 Tryz.underlying22 Tryz.underlying5 Tryz.underlying9;clear h1 h2 hn hm
 cases hxy:(x==y)with
 |true=>
  go_enter Tryz.func160,Tryz.ntmps160;go_wp2;go_ret;exact⟨rfl,rfl⟩
 |false=>
  go_enter Tryz.func160,Tryz.ntmps160;go_wp2;go_ret;exact⟨rfl,rfl⟩
theorem Vm (p l:List UInt8):p.isPrefixOf l=(decide (p.length≤l.length)&&(l.take p.length==p)):=by
 induction p generalizing l with
 |nil=>simp[List.isPrefixOf]
 |cons c p ih=>
  cases l with
  |nil=>simp[List.isPrefixOf]
  |cons d l=>
   rw[List.isPrefixOf,ih];by_cases h:c=d
   ·subst h;simp
   ·have e1:(c==d)=false:=by simpa using h
    have e2:(d==c)=false:=by simpa using fun e:d=c=>h e.symm
    simp[e1,e2]
theorem prefI (g o g' o':Nat) (l p:List UInt8) (n m c d:Nat) (w:World) (hn:n=l.length) (hm:m=p.length) (hc:n≤c) (h1:Rd w (some ⟨g,o,none⟩) l) (h2:Rd w (some ⟨g',o',none⟩) p) (hs:n≤65536):
  Calls Tryz.prog 151 #[.slice (some ⟨g,o,none⟩) n c,.slice (some ⟨g',o',none⟩) m d] w fun e w'=>e=.returned (.bool (p.isPrefixOf l))∧w'=w:=by
 rw[Vm];by_cases hle:m≤n
 ·have CE:=Hm (equalG (some ⟨g,o,none⟩) (some ⟨g',o',none⟩) (l.take m) p m m c d w (by rw[List.length_take];omega) hm (h1.take m) h2)
  rw[hm]at CE;rw[←hm]at CE;have e1:decide (p.length≤l.length)=true:=by simp;omega
  have k1:(m:Int)≤(n:Int):=by omega
  rw[e1,Bool.true_and];obtain⟨r,hr⟩:∃r,r=(l.take p.length==p):=⟨_,rfl⟩;rw[hm,←hr]at CE;rw[←hr,hm];rw[←hm]at CE;rw[←hm];have HM:=Hm hm;clear h1 h2 hr hm hn e1;go_enter Tryz.func151,Tryz.ntmps151;go_wp2_with (go_at_call 160;go_must (refine CE.out.mono ?_;rintro e w' ⟨rfl,rfl⟩));go_ret;exact⟨rfl,rfl⟩
 ·have e1:decide (p.length≤l.length)=false:=by simp;omega
  have k1:decide ((m:Int)≤(n:Int))=false:=by simp;omega
  rw[e1,Bool.false_and];clear h1 h2 hm hn e1;go_enter Tryz.func151,Tryz.ntmps151;go_wp2;go_ret;exact⟨rfl,rfl⟩
end Go.Proofs.YtbkajklninmhiaaGreatDoor.Par
