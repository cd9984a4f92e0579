import Derived.Test.YtbdldkpifanaiaaDoorCr10
import Derived.Lib.UnsafeStr
import Derived.Lib.SmallJoins
import Derived.Lib.OthersKept
import Derived.Laws.BitsLemmas
import Derived.Laws.OwnMore
set_option maxHeartbeats 6400000
set_option maxRecDepth 100000
set_option linter.unusedVariables false
set_option linter.unusedSimpArgs false
open List renaming length_append → qg, length_cons → qh, length_nil → qi, getElem?_toArray → qk, getElem?_cons_zero → ql, getElem?_cons_succ → qm
open Nat renaming le_refl → qn, le_trans → qo
namespace Go.Proofs.YtbdldkpifanaiaaDoor.Cd
open Go Go.RowKit Mem Syn
attribute [local go_sem ↓] Go.wp_at_zero Go.wp_at_succ
theorem Xz {n:Nat} {f:Nat→Bool} (h:Zc n f=true) {k:Nat} (hk:k<n):f k=true:=by
 cases e:f k with
 |true=>rfl
 |false=>rw[xC hk e]at h;cases h
theorem YJ {E:Nat→Po} {n:Nat} (h:xo E n=true):∃t,stk E n=some [t]:=by
 unfold xo at h
 split at h
 ·rename_i t ht;exact⟨t,ht⟩
 ·cases h
theorem YD {i:It} (h:itB i=true):1≤i.k∧i.k≤9:=by
 simp only[itB,Bool.and_eq_true]at h;have:=h.1;simp[inR]at this;exact this
theorem WK {i:It} (h:itB i=true) (he:heB i.k=true):∃t,stk i.E i.nE=some [t]:=by
 have hk:=YD h;simp only[itB,Bool.and_eq_true]at h;obtain⟨-,-,h,-⟩:=h
 have hs:(sh i.k.toNat).e=true:=by
  have:i.k=1∨i.k=2∨i.k=3∨i.k=4∨i.k=5∨i.k=6∨i.k=7∨i.k=8∨i.k=9:=by omega
  rcases this with e|e|e|e|e|e|e|e|e<;>rw[e]at he ⊢<;>first|rfl|(simp[heB]at he)
 rw[hs]at h;exact YJ (by simpa[exB]using h)
theorem Ul {i:It} (h:itB i=true) (hk:i.k=5):∃t,stk i.F i.nF=some [t]:=by
 simp only[itB,Bool.and_eq_true]at h;obtain⟨-,-,-,h,-⟩:=h;have hs:(sh i.k.toNat).f=true:=by rw[hk];rfl
 rw[hs]at h;exact YJ (by simpa[exB]using h)
structure ZM (P:Pr):Prop where
 n:P.n≤100
 c:cnt P P.n≤2000
 b:∀k,k<P.n→itB (P.I k)=true
theorem prOk {P:Pr} (h:prB P=true):ZM P:=by
 simp only[prB,Bool.and_eq_true,decide_eq_true_eq]at h;exact⟨h.1,h.2.1,fun k hk=>Xz h.2.2 hk⟩
theorem ZM.len {P:Pr} (h:ZM P) {k:Nat} (hk:k<P.n):(P.I k).nE+(P.I k).nF≤2000:=qo (UF P hk) h.c
def chT (P:Pr):Nat→Int×List Int
 |0=>(0,[])
 |n+1=>if (chT P n).1=0 then (if (itE P (yv P (fun i=>(chT P n).2.getD i 0) (chT P n).2.length) n).1=0 then (0,if (P.I n).k=1 then (chT P n).2++[(itE P (yv P (fun i=>(chT P n).2.getD i 0) (chT P n).2.length) n).2]else (chT P n).2)else ((itE P (yv P (fun i=>(chT P n).2.getD i 0) (chT P n).2.length) n).1,[]))else chT P n
theorem Tt {P:Pr} {j n:Nat} (h:(chT P j).1≠0) (hj:j≤n):chT P n=chT P j:=by
 induction n with
 |zero=>obtain rfl:j=0:=by omega
        rfl
 |succ n ih=>
  by_cases e:j=n+1
  ·rw[e]
  ·have:=ih (by omega)
   rw[chT,this,if_neg h]
def xR (P:Pr):Int:=if prB P=false then 9 else (chT P P.n).1
inductive ChkP (w w':World) (x:Int) (r:Ending):Prop
 |mk (p q:Value) (z:Value) (he:r=.returned (.agg #[.int .i64 x,p,q,z])) (hb:Below w.heap.size w w'):ChkP w w' x r
theorem ChkP.of {w w':World} {x y:Int} {r:Ending} (h:ChkP w w' x r) (e:y=x):ChkP w w' y r:=by rw[e];exact h
theorem put4 {V:World} {g:Nat} {z0 z1 z2 z3:Value} {T:TypeId} (h:V.heap[g]? =some (.cells #[z0,z1,z2,z3] T)) (u0 u1 u2 u3:Value):∃Z:World,((((V.setCell ⟨g,0,none⟩ u0).setCell ⟨g,1,none⟩ u1).setCell ⟨g,2,none⟩ u2).setCell ⟨g,3,none⟩ u3)=Z∧Z.heap[g]? =some (.cells #[u0,u1,u2,u3] T)∧Below g V Z:=by
 refine⟨_,rfl,?_,?_⟩
 ·have:=zk (zk (zk (zk h 0 u0) 1 u1) 2 u2) 3 u3
  simpa using this
 ·exact Below.setCells' g (qn _) [u0,u1,u2,u3] 0 V (Below.refl _ _)
theorem xL {w V Z:World} {g:Nat} (h:Below w.heap.size w V) (hz:Below g V Z) (hg:w.heap.size≤g):Below w.heap.size w Z:=h.trans (hz.mono hg)
theorem UI (P:Pr) (a:Option Addr) (c:Nat) (L:Nat→Lo) (w:World) (h:yr w a P L) (hn:P.n≤1048576) (hc:cnt P P.n≤1048576):
  Calls Tryd.prog 40 #[.agg #[.slice a P.n c]] w fun r w'=>ChkP w w' (xR P) r:=by
 obtain⟨i0,hi,hz0,hz1,hz2⟩:=info_parts YF;obtain⟨W1,hW1⟩:∃W1,W1=(w.alloc (.cells #[.slice a P.n c] 54)).alloc (.cells #[.int .i64 0,.int .i64 0,.int .i64 0,.slice none 0 0] 72):=⟨_,rfl⟩;have B1:Hid (Below w.heap.size w W1):=by rw[hW1];exact zf (zf (Below.refl _ _) _) _
 have P1:Hid (W1.heap[w.heap.size]? =some (.cells #[.slice a P.n c] 54)):=by rw[hW1];exact zh (zi _ _) _
 have R1:Hid (W1.heap[w.heap.size+1]? =some (.cells #[.int .i64 0,.int .i64 0,.int .i64 0,.slice none 0 0] 72)):=by rw[hW1];exact zx _ _ _
 have VP:Hid (Calls Tryd.prog 54 #[.agg #[.slice a P.n c]] W1 fun e w'=>e=.returned (.bool (prB P))∧Below W1.heap.size W1 w'):=UR P a c L W1 (h.below B1.out) hn hc;have x0:=za P1.out 0;simp only[qk,ql]at x0
 cases hv:prB P with
 |false=>
  have HR:Hid (xR P=9):=by unfold Hid xR;rw[if_pos hv]
  rw[hv]at VP;clear hv h;go_enter Tryd.func40,Tryd.ntmps40;go_upto_region 1 with fail;rw[←hW1];clear hW1;go_wp2_with (go_at_call 54;refine VP.out.mono ?_);rintro e w1 ⟨rfl,hb⟩;have B2:=Hm (zg B1.out hb);have R2:=Hm (ze R1.out hb);clear hb x0 B1 P1 R1 VP;have r0:=za R2.out 0;have r1:=za R2.out 1;have r2:=za R2.out 2;have r3:=za R2.out 3;have g0:=zb R2.out 0;have g1:=zb R2.out 1;have g2:=zb R2.out 2;have g3:=zb R2.out 3;simp only[qk,ql,qm]at r0 r1 r2 r3;go_wp2;obtain⟨Z,hZ,RZ,QZ⟩:=put4 R2.out (.int .i64 9) (.int .i64 (-1)) (.int .i64 (-1)) (.slice none 0 0);rw[hZ];have z0:=(za RZ 0).trans rfl;have z1:=(za RZ 1).trans rfl;have z2:=(za RZ 2).trans rfl
  have z3:=(za RZ 3).trans rfl;simp only[qk,ql,qm]at z0 z1 z2 z3;refine bodyPost_ret (v:=.agg #[.int .i64 9,.int .i64 (-1),.int .i64 (-1),.slice none 0 0]) (by simp[results,Tryd.results40,go_sem,z0,z1,z2,z3];try rfl) rfl ?_;exact ChkP.of (.mk _ _ _ rfl (xL B2.out QZ (by omega))) HR.out
 |true=>
  have ok:=prOk hv;have HR:Hid (xR P=(chT P P.n).1):=by unfold Hid xR;rw[if_neg (by rw[hv];decide)]
  rw[hv]at VP;have hn100:=ok.n
  have IT:Hid (∀(k:Nat) (W:World) (s:List Int) (t:Option Addr) (d:Nat),k<P.n→Below w.heap.size w W→zq W t s.length 1 (fun i=>[.int .i64 (s.getD i 0)])→s.length≤100→Calls Tryd.prog 55 #[.agg #[.slice a P.n c],.int .i64 (k:Int),.slice t s.length d] W fun r w'=>ItemP W w' (itE P (yv P (fun i=>s.getD i 0) s.length) k) r):=fun k W s t d hk hW hs hl=>by
   have:=ok.len hk;exact itemS P a c _ t s.length d L W (h.below hW) hn hs (by omega) k hk (by omega) (by omega) (WK (ok.b k hk)) (Ul (ok.b k hk))
  have HP:=Hm h;have HS:Hid (∀n,chT P (n+1)=if (chT P n).1=0 then (if (itE P (yv P (fun i=>(chT P n).2.getD i 0) (chT P n).2.length) n).1=0 then (0,if (P.I n).k=1 then (chT P n).2++[(itE P (yv P (fun i=>(chT P n).2.getD i 0) (chT P n).2.length) n).2]else (chT P n).2)else ((itE P (yv P (fun i=>(chT P n).2.getD i 0) (chT P n).2.length) n).1,[]))else chT P n):=fun n=>rfl
  clear hv h ok hn hc;obtain⟨N,hN⟩:∃N,N=P.n:=⟨_,rfl⟩;rw[←hN]at P1 VP IT hn100 hW1 HR x0 ⊢;have HN:=Hm hN;clear hN;go_enter Tryd.func40,Tryd.ntmps40;go_upto_region 1 with fail;rw[←hW1];clear hW1;go_wp2_with (go_at_call 54;refine VP.out.mono ?_);rintro e w1 ⟨rfl,hb⟩;have B2:=Hm (zg B1.out hb);have R2:=Hm (ze R1.out hb);have P2:=Hm (ze P1.out hb);clear hb x0 B1 P1 R1 VP;have hsz:=B2.out.size;have hsz2:w.heap.size+2≤w1.heap.size:=zu R2.out;go_wp2
  go_loopw [3,4] (fun v i wr=>∃(k:Nat) (s:List Int),k≤N∧i=.int .i64 (k:Int)∧Hid (chT P k=(0,s))∧Hid (s.length≤k)∧Hid (RI (w.heap.size+2) wr v s)∧Hid (wr.heap[w.heap.size]? =some (.cells #[.slice a N c] 54))∧Hid (wr.heap[w.heap.size+1]? =some (.cells #[.int .i64 0,.int .i64 0,.int .i64 0,.slice none 0 0] 72))∧Hid (Below w.heap.size w wr)) (fun _ i _=>N- (intOf i).toNat)
  case atStart=>
   refine⟨0,[],Nat.zero_le _,rfl,rfl,qn _,?_,zh P2.out _,zh R2.out _,zf B2.out _⟩;exact World.ownsRow_made w1 (base:=w.heap.size+2) (e:=2) (size:=1) #[] 0 hsz2 (by unfold maxLen;omega) (by simp)
  case round=>
   clear B2 R2 P2 hsz hsz2;obtain⟨k,s,hk,rfl,hch,hsl,hrow,hP,hR,hb⟩:=hrel;obtain⟨sa,sc,hv,hsc⟩:=ya hrow.out;rw[hv]at hrow ⊢;clear hv;have hS:=hsl.out;have x0:=za hP.out 0;simp only[qk,ql]at x0;have hsz:=hb.out.size;by_cases hlt:k<N
   ·have hstep:=Hm (HS.out k)
    rw[hch.out,if_pos rfl]at hstep;have CI:=Hm (IT.out k wr s sa sc hlt hb.out (RI.at0 hrow.out rfl) (by omega));obtain⟨⟨e1,ty⟩,hX⟩:∃X,X=itE P (yv P (fun i=>s.getD i 0) s.length) k:=⟨_,rfl⟩;rw[←hX]at CI;dsimp only at hstep;rw[←hX]at hstep;dsimp only at hstep;clear hX;have k0:(0:Int)≤(k:Int):=by omega
    have k1:(k:Int)<(N:Int):=by omega
    obtain⟨m,hm⟩:∃m,m=s.length:=⟨_,rfl⟩;rw[←hm]at hS hsc CI ⊢;have HM:=Hm hm;clear hm;go_wp2_with (go_at_call 55;refine CI.out.mono ?_);rintro r w2 ⟨p,rfl,hb2⟩;have B2:=Hm (zg hb.out hb2);have P2:=Hm (ze hP.out hb2);have R2:=Hm (ze hR.out hb2)
    have T2:Hid (w2.ownsRow (w.heap.size+2) 2 1 (.slice sa m sc) m (ri s)):=by
     have:=hrow.out.kept hb2;unfold RI at this;rw[←HM.out]at this;exact this
    have hsz2:=B2.out.size;clear hb hb2 hP hR hrow CI x0 hsz;dsimp only;refine Hid.out ?_;refine Lib.hid ?_;by_cases h1:e1=0
    ·subst h1
     rw[if_pos rfl]at hstep;have hkP:k<P.n:=by rw[←HN.out];exact hlt
     obtain⟨b,off,ha,c0⟩:∃b off,a=some ⟨b,off,none⟩∧w2.cell? ⟨b,off+k*7,none⟩=some (.int .i64 (P.I k).k):=by
      rcases HP.out.s with h0|⟨b,off,h1,h0⟩
      ·omega
      ·exact⟨b,off,h1,(It.at (zt (h0 k hkP) B2.out)).1⟩
     have x0:=za P2.out 0;simp only[qk,ql]at x0;obtain⟨kk,hkk⟩:∃kk,kk=(P.I k).k:=⟨_,rfl⟩;rw[←hkk]at c0 hstep;clear hkk;by_cases hk1:kk=1
     ·subst hk1
      rw[if_pos rfl]at hstep;subst ha;go_wp2_with (at_builtin;refine wpList_append_own _ rfl _ _ 45 rfl (w.heap.size+2) 2 i0 (.int .i64 0) 1 8 Tryd.underlying45 hi hz0 hz1 hz2 rfl (by decide) _ _ _ rfl (World.ownsRow.alloc T2.out _) ⟨w2.heap.size,0,none⟩ 1 1 [.int .i64 ty] rfl rfl (WJ w2 _ 2) (by intro u hu;simp only[List.mem_cons,List.not_mem_nil,or_false]at hu;rcases hu with rfl;rfl) (by unfold maxLen;omega) (by omega) (by have:=zu R2.out;simp;omega) ?_);intro v3 w3 hown hgrow _
      have hO:Hid (RI (w.heap.size+2) w3 v3 (s++[ty])):=by
       unfold Hid RI;rw[qg,List.length_singleton,←HM.out];simpa[ri]using hown
      have P3:Hid (w3.heap[w.heap.size]? =some (.cells #[.slice (some ⟨b,off,none⟩) N c] 54)):=zl hgrow (World.ownsRow.alloc T2.out _) (zh P2.out _) (by decide);have R3:Hid (w3.heap[w.heap.size+1]? =some (.cells #[.int .i64 0,.int .i64 0,.int .i64 0,.slice none 0 0] 72)):=zl hgrow (World.ownsRow.alloc T2.out _) (zh R2.out _) (by decide);have hbZ:=Hm (zf B2.out (.cells #[.int .i64 ty] 2));have B3:Hid (Below w.heap.size w w3):=hbZ.out.grown hgrow hbZ.out.size (fun k hk=>by have:=(World.ownsRow.lt T2.out k hk).1;omega);have hln:Hid ((s++[ty]).length≤k+1):=by unfold Hid;rw[qg,←HM.out];simp;omega
      clear hown hgrow hbZ T2 P2 R2 B2;go_wp2;exact⟨⟨k+1,_,by omega,by go_num,hstep,hln,hO,P3,R3,B3⟩,by simp[intOf];omega⟩
     ·have f1:(kk==1)=false:=by simpa using hk1
      rw[if_neg hk1]at hstep;subst ha;have hln:Hid (s.length≤k+1):=by unfold Hid;rw[←HM.out];omega
      go_wp2;exact⟨⟨k+1,s,by omega,by go_num,hstep,hln,by unfold Hid RI;rw[←HM.out];exact T2.out,P2,R2,B2⟩,by simp[intOf];omega⟩
    ·have f1:(e1 !=0)=true:=by simpa using h1
     rw[if_neg h1]at hstep;have hfin:Hid (xR P=e1):=by unfold Hid;rw[HR.out,Tt (j:=k+1) (by rw[hstep.out];exact h1) (by omega),hstep.out]
     have r0:=za R2.out 0;have r1:=za R2.out 1;have r2:=za R2.out 2;have r3:=za R2.out 3;have g0:=zb R2.out 0;have g1:=zb R2.out 1;have g2:=zb R2.out 2;have g3:=zb R2.out 3;simp only[qk,ql,qm]at r0 r1 r2 r3;go_wp2;obtain⟨Z,hZ,RZ,QZ⟩:=put4 R2.out (.int .i64 e1) (.int .i64 (k:Int)) (.int .i64 p) (.slice none 0 0);rw[hZ];have z0:=(za RZ 0).trans rfl;have z1:=(za RZ 1).trans rfl;have z2:=(za RZ 2).trans rfl;have z3:=(za RZ 3).trans rfl;simp only[qk,ql,qm]at z0 z1 z2 z3;refine bodyPost_ret (v:=.agg #[.int .i64 e1,.int .i64 (k:Int),.int .i64 p,.slice none 0 0]) (by simp[results,Tryd.results40,go_sem,z0,z1,z2,z3];try rfl) rfl ?_
     exact ChkP.of (.mk _ _ _ rfl (xL B2.out QZ (by omega))) hfin.out
   ·obtain rfl:k=N:=by omega
    have k1:decide ((k:Int)<(k:Int))=false:=by simp
    have hfin:Hid (xR P=0):=by unfold Hid;rw[HR.out,hch.out]
    have r0:=za hR.out 0;have r1:=za hR.out 1;have r2:=za hR.out 2;have r3:=za hR.out 3;have g0:=zb hR.out 0;have g1:=zb hR.out 1;have g2:=zb hR.out 2;have g3:=zb hR.out 3;simp only[qk,ql,qm]at r0 r1 r2 r3;go_wp2;obtain⟨Z,hZ,RZ,QZ⟩:=put4 hR.out (.int .i64 0) (.int .i64 (-1)) (.int .i64 (-1)) (.slice sa s.length sc);rw[hZ];have z0:=(za RZ 0).trans rfl;have z1:=(za RZ 1).trans rfl;have z2:=(za RZ 2).trans rfl;have z3:=(za RZ 3).trans rfl;simp only[qk,ql,qm]at z0 z1 z2 z3
    refine bodyPost_ret (v:=.agg #[.int .i64 0,.int .i64 (-1),.int .i64 (-1),.slice sa s.length sc]) (by simp[results,Tryd.results40,go_sem,z0,z1,z2,z3];try rfl) rfl ?_;exact ChkP.of (.mk _ _ _ rfl (xL hb.out QZ (by omega))) hfin.out
end Go.Proofs.YtbdldkpifanaiaaDoor.Cd
namespace Go.Proofs.YtbdldkpifanaiaaDoor.ValC
open Go Go.RowKit Mem
attribute [local go_sem ↓] Go.wp_at_zero Go.wp_at_succ
def inB (x lo hi:Int):Bool:=decide (lo≤x)&&decide (x≤hi)
theorem zR {a b:Bool} (h:a=b):Ending.returned (.bool a)=.returned (.bool b):=by rw[h]
def tf (R S k n u x:Int):Bool:=
 if u=1 then inB x 13 (R-1)else if u=2 then inB x 0 (R-1)else if u=3 then inB x (-1000000000) 1000000000 else if u=4 then inB x 0 15
 else if u=5 then inB x (k+1) n else if u=6 then inB x 1 100 else if u=7 then inB x 0 (S-1)else x==0
def Yn:List (Int×Int×Int):=[(0,0,0),(1,3,0),(1,2,0),(1,2,0),(1,2,0),(1,2,2),(1,2,2),(1,2,2),(1,2,2),(1,2,2),(1,2,2),(1,2,2),(1,2,2),(1,4,0),(1,4,0),(2,5,0),(2,5,0),(0,5,0),(2,6,0),(7,2,0),(1,7,0)]
def sh (m:Nat):Int×Int×Int:=Yn.getD m (0,0,0)
theorem TB:∀m,m<21→0≤(sh m).1∧(sh m).1≤7∧0≤(sh m).2.1∧(sh m).2.1≤7∧0≤(sh m).2.2∧(sh m).2.2≤7:=by decide
def okI (R S k n:Int) (x:Is):Bool:=inB x.p 1 20&&(tf R S k n (sh x.p.toNat).1 x.a&&tf R S k n (sh x.p.toNat).2.1 x.b&&tf R S k n (sh x.p.toNat).2.2 x.c)
def yE (R S:Int) (n:Nat) (B:Nat→Is):Bool:=!decide (16384<n)&&Zc n (fun i=>okI R S i n (B i))
def yD (C:Co):Bool:=inB C.R 13 1000&&inB C.S 0 100&&yE C.R C.S C.n1 C.B1&&yE C.R C.S C.n2 C.B2&&yE C.R C.S C.n3 C.B3
def okS (R S k n:Int) (x:Is):Bool:=
 if 5≤x.p∧x.p≤12 then inB x.a 13 (R-1)&&inB x.b 0 (R-1)&&inB x.c 0 (R-1)
 else if x.c≠0 then false
 else if x.p=1 then inB x.a 13 (R-1)&&inB x.b (-1000000000) 1000000000
 else if x.p=2∨x.p=3∨x.p=4 then inB x.a 13 (R-1)&&inB x.b 0 (R-1)
 else if x.p=13∨x.p=14 then inB x.a 13 (R-1)&&inB x.b 0 15
 else if x.p=15∨x.p=16 then inB x.a 0 (R-1)&&inB x.b (k+1) n
 else if x.p=17 then (x.a==0)&&inB x.b (k+1) n
 else if x.p=18 then inB x.a 0 (R-1)&&inB x.b 1 100
 else if x.p=19 then inB x.a 0 (S-1)&&inB x.b 0 (R-1)
 else if x.p=20 then inB x.a 13 (R-1)&&inB x.b 0 (S-1)
 else false
theorem ok_eq (R S k n:Int) (x:Is):okS R S k n x=okI R S k n x:=by
 by_cases h:1≤x.p∧x.p≤20
 ·obtain⟨h1,h2⟩:=h
  have:x.p=1∨x.p=2∨x.p=3∨x.p=4∨x.p=5∨x.p=6∨x.p=7∨x.p=8∨x.p=9∨x.p=10∨x.p=11∨x.p=12∨x.p=13∨x.p=14∨x.p=15∨x.p=16∨x.p=17∨x.p=18∨x.p=19∨x.p=20:=by omega
  rcases this with e|e|e|e|e|e|e|e|e|e|e|e|e|e|e|e|e|e|e|e<;>
   simp[okS,okI,e,sh,Yn,tf,inB,Bool.and_assoc]<;>by_cases hc:x.c=0<;>simp[hc]
 ·have hi:inB x.p 1 20=false:=by simp[inB];omega
  have:¬(5≤x.p∧x.p≤12):=by omega
  have e1:¬x.p=1:=by omega
  have e2:¬(x.p=2∨x.p=3∨x.p=4):=by omega
  have e3:¬(x.p=13∨x.p=14):=by omega
  have e4:¬(x.p=15∨x.p=16):=by omega
  have e5:¬x.p=17:=by omega
  have e6:¬x.p=18:=by omega
  have e7:¬x.p=19:=by omega
  have e8:¬x.p=20:=by omega
  unfold okS okI;rw[hi,if_neg this,if_neg e1,if_neg e2,if_neg e3,if_neg e4,if_neg e5,if_neg e6,if_neg e7,if_neg e8];simp
end Go.Proofs.YtbdldkpifanaiaaDoor.ValC
namespace Go.Proofs.YtbdldkpifanaiaaDoor.Enc
open Go Go.RowKit Mem ValC
def grp (z:Nat):List UInt8:=if z<128 then [UInt8.ofNat z]else UInt8.ofNat (128+z % 128)::grp (z / 128)
termination_by z
decreasing_by omega
theorem xP {z:Nat} (h:z<128):grp z=[UInt8.ofNat z]:=by rw[grp,if_pos h]
theorem ZV {z:Nat} (h:¬z<128):grp z=UInt8.ofNat (128+z % 128)::grp (z / 128):=by rw[grp,if_neg h]
def zig (n:Int):Nat:=if n<0 then (-2*n-1).toNat else (2*n).toNat
def vr (n:Int):List UInt8:=grp (zig n)
def vrs:List Int→List UInt8
 |[]=>[]
 |n::r=>vr n++vrs r
theorem Zd (l m:List Int):vrs (l++m)=vrs l++vrs m:=by
 induction l with
 |nil=>rfl
 |cons n r ih=>simp[vrs,ih]
def yZ (x:Is):List Int:=[x.p,x.a,x.b,x.c]
def xi (B:Nat→Is):Nat→List Int
 |0=>[]
 |k+1=>xi B k++yZ (B k)
def xm (C:Co):List Int:=[C.R,C.S,(C.n1:Int),(C.n2:Int),(C.n3:Int)]
def xI (C:Co):List Int:=xm C++(xi C.B1 C.n1++(xi C.B2 C.n2++xi C.B3 C.n3))
theorem WO (k:Nat):∀z:Nat,z<128 ^ (k+1)→(grp z).length≤k+1:=by
 induction k with
 |zero=>intro z h;rw[xP (by omega)];simp
 |succ k ih=>
  intro z h;by_cases h1:z<128
  ·rw[xP h1];simp
  ·rw[ZV h1,qh]
   have:=ih (z / 128) (by rw[Nat.div_lt_iff_lt_mul (by omega)];rw[Nat.pow_succ]at h;exact h);omega
theorem Xk {n:Int} (h0:-1000000000≤n) (h1:n≤1000000000):(vr n).length≤5:=by
 refine WO 4 _ ?_;unfold zig
 split<;>omega
theorem vrs_len {l:List Int} (h:∀n∈l,-1000000000≤n∧n≤1000000000):(vrs l).length≤5*l.length:=by
 induction l with
 |nil=>simp[vrs]
 |cons n r ih=>
  have h0:=h n (List.mem_cons_self ..);have:=ih (fun m hm=>h m (List.mem_cons_of_mem _ hm));have:=Xk h0.1 h0.2;simp only[vrs,qg,qh];omega
theorem UK (B:Nat→Is) (n:Nat):(xi B n).length=4*n:=by
 induction n with
 |zero=>rfl
 |succ k ih=>simp only[xi,qg,ih,yZ,qh,qi];omega
theorem UJ {B:Nat→Is} {n:Nat} {z:Int} (h:z∈xi B n):∃i,i<n∧z∈yZ (B i):=by
 induction n with
 |zero=>simp[xi]at h
 |succ k ih=>
  simp only[xi,List.mem_append]at h;rcases h with h|h
  ·obtain⟨i,hi,hz⟩:=ih h
   exact⟨i,by omega,hz⟩
  ·exact⟨k,by omega,h⟩
def encB (C:Co):List UInt8:=vrs (xI C)
def answer (C:Co):List UInt8:=if yD C=true then encB C else []
theorem Ym {R S k n u x:Int} (hR1:R≤1000) (hS1:S≤100) (hk:0≤k) (hn:n≤1000000) (h:tf R S k n u x=true):-1000000000≤x∧x≤1000000000:=by
 unfold tf inB at h
 split at h
 ·simp at h;omega
 ·split at h
  ·simp at h;omega
  ·split at h
   ·simp at h;omega
   ·split at h
    ·simp at h;omega
    ·split at h
     ·simp at h;omega
     ·split at h
      ·simp at h;omega
      ·split at h
       ·simp at h;omega
       ·simp at h;omega
theorem Vc {R S k n:Int} {x:Is} (hR1:R≤1000) (hS1:S≤100) (hk:0≤k) (hn:n≤1000000) (h:okI R S k n x=true):∀z∈yZ x,-1000000000≤z∧z≤1000000000:=by
 unfold okI at h;simp only[Bool.and_eq_true]at h;obtain⟨h1,⟨h2,h3⟩,h4⟩:=h;intro z hz;simp only[yZ,List.mem_cons,List.not_mem_nil,or_false]at hz;rcases hz with rfl|rfl|rfl|rfl
 ·simp[inB]at h1;omega
 ·exact Ym hR1 hS1 hk hn h2
 ·exact Ym hR1 hS1 hk hn h3
 ·exact Ym hR1 hS1 hk hn h4
theorem Xz {n:Nat} {f:Nat→Bool} (h:Zc n f=true) {i:Nat} (hi:i<n):f i=true:=by
 cases hf:f i with
 |true=>rfl
 |false=>rw[xC hi hf]at h;cases h
structure YP (n:Nat) (B:Nat→Is):Prop where
 len:n≤16384
 small:∀i,i<n→∀z∈yZ (B i),-1000000000≤z∧z≤1000000000
theorem YG {R S:Int} {n:Nat} {B:Nat→Is} (hR1:R≤1000) (hS1:S≤100) (h:yE R S n B=true):YP n B:=by
 simp only[yE,Bool.and_eq_true,Bool.not_eq_true',decide_eq_false_iff_not]at h;refine⟨by omega,fun i hi=>Vc hR1 hS1 (by omega) (by omega) (Xz h.2 hi)⟩
structure WY (C:Co):Prop where
 r0:13≤C.R
 r1:C.R≤1000
 s0:0≤C.S
 s1:C.S≤100
 b1:YP C.n1 C.B1
 b2:YP C.n2 C.B2
 b3:YP C.n3 C.B3
theorem good_co {C:Co} (h:yD C=true):WY C:=by
 unfold yD at h;simp only[Bool.and_eq_true]at h;obtain⟨⟨⟨⟨h1,h2⟩,h3⟩,h4⟩,h5⟩:=h;simp[inB]at h1 h2;exact⟨h1.1,h1.2,h2.1,h2.2,YG h1.2 h2.2 h3,YG h1.2 h2.2 h4,YG h1.2 h2.2 h5⟩
theorem Zj {n:Nat} {B:Nat→Is} (h:YP n B) {k:Nat} (hk:k≤n):∀z∈xi B k,-1000000000≤z∧z≤1000000000:=fun z hz=>by
 obtain⟨i,hi,hz'⟩:=UJ hz;exact h.small i (by omega) z hz'
theorem Zt {C:Co} (h:WY C):∀z∈xm C,-1000000000≤z∧z≤1000000000:=fun z hz=>by
 have h1:=h.b1.len;have h2:=h.b2.len;have h3:=h.b3.len;have h4:=h.r0;have h5:=h.r1;have h6:=h.s0;have h7:=h.s1;simp only[xm,List.mem_cons,List.not_mem_nil,or_false]at hz;rcases hz with rfl|rfl|rfl|rfl|rfl<;>omega
theorem Yi {n:Nat} {B:Nat→Is} (h:YP n B) {k:Nat} (hk:k≤n):(vrs (xi B k)).length≤20*k:=by
 have:=vrs_len (Zj h hk);rw[UK]at this;omega
theorem Ut {C:Co} (h:WY C):(vrs (xm C)).length≤25:=by
 have:=vrs_len (Zt h);simpa[xm]using this
theorem infoB:(Tryd.prog.info? 5).map (fun i=>(i.zero,i.size,i.bytes))=some (some (.int .u8 0),1,1):=by kernel_rfl
def Own (B:Nat) (w':World) (v:Value) (bs:List UInt8):Prop:=w'.ownsRow B 5 1 v bs.length (Lib.byteCells bs)
theorem Yd (w:World) (bs:List UInt8) (cs:Array Value) (hc:cs=(Lib.byteCells bs).toArray) (hl:bs.length≤1000000):Own w.heap.size (w.alloc (.cells cs 5)) (.slice (some ⟨w.heap.size,0,none⟩) bs.length bs.length) bs:=by
 subst hc;refine⟨by simp[Lib.byteCells],Or.inr ⟨w.heap.size,bs.length,_,rfl,qn _,zi _ _,qn _,by unfold maxLen;omega,by simp[Lib.byteCells],?_⟩⟩;simp only[Nat.mul_one];rw[List.take_of_length_le (by simp[Lib.byteCells])]
theorem byteCells_one (bs:List UInt8):∀u∈Lib.byteCells bs,u.oneCell'=true:=by
 intro u hu;simp only[Lib.byteCells,List.mem_map]at hu;obtain⟨b,_,rfl⟩:=hu;rfl
theorem Own.shape {B:Nat} {w:World} {v:Value} {bs:List UInt8} (h:Own B w v bs):∃a c,v=.slice a bs.length c:=by
 rcases Joins.ownsRow_forms h with⟨rfl,h0⟩|⟨g,cap,rfl⟩
 ·exact⟨none,0,by rw[h0]⟩
 ·exact⟨_,_,rfl⟩
theorem own_empty (w:World) (cs:Array Value) (h:cs=#[]):Own w.heap.size (w.alloc (.cells cs 5)) (.slice (some ⟨w.heap.size,0,none⟩) 0 0) []:=by
 have:=Yd w [] cs (by rw[h];rfl) (by simp);exact this
theorem XM {B:Nat} {w:World} {v:Value} {bs:List UInt8} {b:UInt8} {z:Int} (hz:(b.toNat:Int)=z) (h:w.ownsRow B 5 1 v (bs.length+1) (Lib.byteCells bs++[Value.int .u8 z])):Own B w v (bs++[b]):=by
 unfold Own;rw[qg,List.length_singleton,Lib.byteCells_append];simp only[Lib.byteCells,List.map_cons,List.map_nil,hz]at*;exact h
theorem U6 {B:Nat} {w:World} {v:Value} {bs cs:List UInt8} {n:Nat} (hn:n=cs.length) (h:w.ownsRow B 5 1 v (bs.length+n) (Lib.byteCells bs++Lib.byteCells cs)):Own B w v (bs++cs):=by
 unfold Own;rw[qg,Lib.byteCells_append,←hn];exact h
theorem Own.below {B:Nat} {w w':World} {v:Value} {bs:List UInt8} (h:Own B w v bs) (hb:Below w.heap.size w w'):Own B w' v bs:=by
 refine⟨h.1,?_⟩;rcases h.2 with h0|⟨g,cap,cur,h1,h2,h3,h4⟩
 ·exact Or.inl h0
 ·exact Or.inr ⟨g,cap,cur,h1,h2,ze h3 hb,h4⟩
theorem cells_of_blk {w:World} {g:Nat} {vs:List Value} {t:TypeId} {fr:Nat×Nat} (h:w.heap[g]? =some (.cells vs.toArray t fr)):∀j u,vs[j]? =some u→w.cell? ((⟨g,0,none⟩:Addr).add j)=some u:=by
 intro j u hu;rw[Addr.add_mid,Nat.zero_add,za h j];simpa using hu
theorem ownsRow_below {B size n:Nat} {e:TypeId} {w w':World} {v:Value} {xs:List Value} (h:w.ownsRow B e size v n xs) (hb:Below w.heap.size w w'):w'.ownsRow B e size v n xs:=by
 refine⟨h.1,?_⟩;rcases h.2 with h0|⟨g,cap,cur,h1,h2,h3,h4⟩
 ·exact Or.inl h0
 ·exact Or.inr ⟨g,cap,cur,h1,h2,ze h3 hb,h4⟩
def Kp (B:Nat) (w w':World):Prop:=Below B w w'∧Lib.OthersKept 5 none w w'
theorem Kp.refl (B:Nat) (w:World):Kp B w w:=⟨Below.refl _ _,Lib.OthersKept.refl _ _ _⟩
theorem Kp.trans {B:Nat} {a b c:World} (h:Kp B a b) (k:Kp B b c):Kp B a c:=⟨h.1.trans k.1,h.2.trans k.2⟩
theorem Kp.alloc {B:Nat} {a w:World} (h:Kp B a w) (hB:B≤w.heap.size) (o:Obj):Kp B a (w.alloc o):=⟨h.1.alloc hB o,h.2.alloc o⟩
theorem Own.kind {B:Nat} {w:World} {v:Value} {bs:List UInt8} (h:Own B w v bs):∀g,v.ownBlock=some g→∃c fz,w.heap[g]? =some (.cells c 5 fz):=by
 intro g hg;rcases h.2 with⟨rfl,_⟩|⟨g',cap,cur,rfl,_,hgg,_⟩
 ·simp[Value.ownBlock]at hg
 ·simp[Value.ownBlock]at hg
  subst hg;exact⟨cur,_,hgg⟩
theorem Kp.grown {B:Nat} {a w w':World} {v:Value} {bs:List UInt8} (h:Kp B a w) (ho:Own B w v bs) (hg:w.grownBy w' v.ownBlock) (hB:B≤w.heap.size):Kp B a w':=
 ⟨h.1.grown hg hB (fun k hk=>(ho.lt k hk).1),h.2.grown hg ho.kind⟩
theorem Kp.blk {B g:Nat} {w w':World} {cs:Array Value} {t:TypeId} {fr:Nat×Nat} (h:Kp B w w') (hb:w.heap[g]? =some (.cells cs t fr)) (ht:t≠5):w'.heap[g]? =some (.cells cs t fr):=
 h.2 g _ hb (by intro e;cases e) (fun c fz e=>ht (by injection e))
theorem own_snoc' {B n:Nat} {w:World} {v:Value} {bs:List UInt8} {b:UInt8} {z:Int} (hn:n=bs.length) (hz:(b.toNat:Int)=z) (h:w.ownsRow B 5 1 v (n+1) (Lib.byteCells bs++[Value.int .u8 z])):Own B w v (bs++[b]):=by
 subst hn;exact XM hz h
theorem own_app' {B n m:Nat} {w:World} {v:Value} {bs cs:List UInt8} (hm:m=bs.length) (hn:n=cs.length) (h:w.ownsRow B 5 1 v (m+n) (Lib.byteCells bs++Lib.byteCells cs)):Own B w v (bs++cs):=by
 subst hm;exact U6 hn h
theorem Wp (w:World) (o:Obj):Own (w.heap.size+1) ((w.alloc o).alloc (.cells #[] 5)) (.slice (some ⟨w.heap.size+1,0,none⟩) 0 0) []:=by
 have:=own_empty (w.alloc o) _ rfl;rw[World.size_alloc]at this;exact this
theorem Own.form {B:Nat} {w:World} {v:Value} {bs:List UInt8} (h:Own B w v bs) (hp:0<bs.length):∃g cap,v=.slice (some ⟨g,0,none⟩) bs.length cap∧B≤g∧∀j u,(Lib.byteCells bs)[j]? =some u→w.cell? ((⟨g,0,none⟩:Addr).add j)=some u:=by
 rcases h.2 with⟨-,h0⟩|⟨g,cap,cur,hv,hg,hblk,-,-,-,ht⟩
 ·omega
 ·refine⟨g,cap,hv,hg,fun j u hu=>?_⟩
  rw[Addr.add_mid,Nat.zero_add,za hblk j];have hj:j<(Lib.byteCells bs).length:=(List.getElem?_eq_some_iff.1 hu).1;rw[←ht]at hu;rw[List.getElem?_take]at hu
  split at hu
  ·simpa using hu
  ·cases hu
theorem WN (z:Nat):0<(grp z).length:=by
 by_cases h:z<128
 ·rw[xP h];simp
 ·rw[ZV h];simp
end Go.Proofs.YtbdldkpifanaiaaDoor.Enc
