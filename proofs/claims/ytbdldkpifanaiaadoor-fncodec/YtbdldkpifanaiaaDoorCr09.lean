import Derived.Test.YtbdldkpifanaiaaDoorCr08
import Derived.Test.YtbdldkpifanaiaaDoorCr04
import Derived.StillTailTactics
set_option maxHeartbeats 6400000
set_option maxRecDepth 100000
set_option linter.unusedVariables false
set_option linter.unusedSimpArgs false
open List renaming length_append → qg, getElem?_toArray → qk, getElem?_cons_zero → ql
open Nat renaming le_trans → qo
namespace Go.Proofs.YtbdldkpifanaiaaDoor.Syn
open Go Go.RowKit Mem
attribute [local go_sem ↓] Go.wp_at_zero Go.wp_at_succ
theorem Vl (i:It) (l:Lo) (w:World) (hE:zq w l.aE i.nE 3 (fun j=>(i.E j).cells)) (hF:zq w l.aF i.nF 3 (fun j=>(i.F j).cells)) (hnE:i.nE≤1000000) (hnF:i.nF≤1000000):
  Calls Tryd.prog 69 #[.agg #[.int .i64 i.k,.string ⟨i.n.toArray⟩,.slice l.aE i.nE l.cE,.slice l.aF i.nF l.cF,.int .i64 i.K,.int .i64 i.lo,.int .i64 i.hi]] w fun e w'=>e=.returned (.bool (itB i))∧Below w.heap.size w w':=by
 obtain⟨k,n,nE,nF,E,F,K,lo,hi⟩:=i;obtain⟨aE,aF,cE,cF⟩:=l;simp only at*;by_cases hk:1≤k∧k≤9
 ·have:k=1∨k=2∨k=3∨k=4∨k=5∨k=6∨k=7∨k=8∨k=9:=by omega
  rcases this with rfl|rfl|rfl|rfl|rfl|rfl|rfl|rfl|rfl
  ·exact good1 n nE nF E F K lo hi aE aF cE cF w hE hF hnE hnF
  ·exact good2 n nE nF E F K lo hi aE aF cE cF w hE hF hnE hnF
  ·exact good3 n nE nF E F K lo hi aE aF cE cF w hE hF hnE hnF
  ·exact good4 n nE nF E F K lo hi aE aF cE cF w hE hF hnE hnF
  ·exact good5 n nE nF E F K lo hi aE aF cE cF w hE hF hnE hnF
  ·exact good6 n nE nF E F K lo hi aE aF cE cF w hE hF hnE hnF
  ·exact good7 n nE nF E F K lo hi aE aF cE cF w hE hF hnE hnF
  ·exact good8 n nE nF E F K lo hi aE aF cE cF w hE hF hnE hnF
  ·exact good9 n nE nF E F K lo hi aE aF cE cF w hE hF hnE hnF
 ·have hp:inR k 1 9=false:=by
   cases h:inR k 1 9 with
   |false=>rfl
   |true=>exact absurd ((Tg k 1 9).1 h) hk
  have hv:Hid (itB ⟨k,n,nE,nF,E,F,K,lo,hi⟩=false):=by unfold Hid itB;rw[hp];rfl
  clear hE hF hk;go_enter Tryd.func69,Tryd.ntmps69;go_wp2_with (go_at_call 14;refine(yd _ _ _ _).mono ?_;rintro e w' ⟨rfl,hw⟩;rw[hw];clear hw);go_ret;rw[hv.out];exact⟨rfl,by go_grown⟩
theorem UR (P:Pr) (a:Option Addr) (c:Nat) (L:Nat→Lo) (w:World) (h:yr w a P L) (hn:P.n≤1048576) (hc:cnt P P.n≤1048576):
  Calls Tryd.prog 54 #[.agg #[.slice a P.n c]] w fun e w'=>e=.returned (.bool (prB P))∧Below w.heap.size w w':=by
 have H:=Hm h;have HC:Hid (∀k,k<P.n→cnt P k+((P.I k).nE+(P.I k).nF)≤1048576):=fun k hk=>qo (cnt_mono P (show k+1≤P.n from hk)) hc
 have HC2:=Hm hc;clear h hc;obtain⟨N,hN⟩:∃N,N=P.n:=⟨_,rfl⟩;rw[←hN]at hn;have HN:=Hm hN;rw[←hN];clear hN;go_enter Tryd.func54,Tryd.ntmps54;go_wp2;go_loopw [3,4] (fun m i wr=>∃k:Nat,k≤N∧i=.int .i64 (k:Int)∧m=.int .i64 (cnt P k:Int)∧Hid (wr.heap[w.heap.size]? =some (.cells #[.slice a N c] 54))∧Hid (Below w.heap.size w wr)) (fun _ i _=>N- (intOf i).toNat)
 case atStart=>exact⟨0,Nat.zero_le _,rfl,rfl,zi w _,by unfold Hid;go_grown⟩
 case round=>
  obtain⟨k,hk,rfl,rfl,hA,hb⟩:=hrel;have x0:=za hA.out 0;simp only[qk,ql]at x0;by_cases hlt:k<N
  ·have hkP:k<P.n:=by rw[←HN.out];exact hlt
   rcases H.out.s with h0|⟨b,off,rfl,h0⟩
   ·omega
   obtain⟨e0,e1,e2,e3,e4,e5,e6⟩:=It.at (zt (h0 k hkP) hb.out);clear h0 e0 e1 e4 e5 e6;have k0:(0:Int)≤(k:Int):=by omega
   have k1:(k:Int)<(N:Int):=by omega
   have hcb:=HC.out k hkP;have hx:Hid (cnt P (k+1)=cnt P k+((P.I k).nE+(P.I k).nF)):=rfl;obtain⟨x,hx1⟩:∃x,x=(P.I k).nE:=⟨_,rfl⟩;obtain⟨y,hy1⟩:∃y,y=(P.I k).nF:=⟨_,rfl⟩;obtain⟨s,hs1⟩:∃s,s=cnt P k:=⟨_,rfl⟩;rw[←hx1]at e2 hcb hx;rw[←hy1]at e3 hcb hx;rw[←hs1]at hcb hx ⊢;clear hx1 hy1 hs1;go_wp2_with fail
   go_quiet (fail)
   go_wp2;exact⟨⟨k+1,by omega,by go_num,by rw[hx.out];congr 1;omega,hA,below_drewN' hb.out _⟩,by simp[intOf];omega⟩
  ·obtain rfl:k=N:=by omega
   have k1:decide ((k:Int)<(k:Int))=false:=by simp
   obtain⟨q,hq⟩:∃q,q=cnt P k:=⟨_,rfl⟩;have HQ:Hid (q=cnt P P.n):=by unfold Hid;rw[hq];exact congrArg (cnt P) HN.out
   have hqb:q≤1048576:=by rw[HQ.out];exact HC2.out
   rw[←hq];clear hq;by_cases h1:(100:Int)<(k:Int)
   ·have hv:Hid (prB P=false):=by unfold Hid prB;rw[←HN.out,show decide (k≤100)=false by simp;omega];rfl
    go_wp2;go_ret;rw[hv.out];exact⟨rfl,hb.out⟩
   have d1:decide ((100:Int)<(k:Int))=false:=by simpa using h1
   by_cases h2:(2000:Int)<(q:Int)
   ·have hv:Hid (prB P=false):=by unfold Hid prB;rw[←HQ.out,show decide (q≤2000)=false by simp;omega];simp
    go_wp2;go_ret;rw[hv.out];exact⟨rfl,hb.out⟩
   have d2:decide ((2000:Int)<(q:Int))=false:=by simpa using h2
   have hq2:q≤2000:=by omega
   have hk100:k≤100:=by omega
   go_wp2;clear x0 k1;go_loopw [5] (fun i wr=>∃j:Nat,j≤k∧i=.int .i64 (j:Int)∧Hid (wr.heap[w.heap.size]? =some (.cells #[.slice a k c] 54))∧Hid (Below w.heap.size w wr)∧Hid (Zc j (fun i=>itB (P.I i))=true)) (fun i _=>k- (intOf i).toNat)
   case atStart=>exact⟨0,Nat.zero_le _,rfl,hA,hb,rfl⟩
   case round=>
    clear hA hb;obtain⟨j,hj,rfl,hA,hb,ha⟩:=hrel;have x0:=za hA.out 0;simp only[qk,ql]at x0;by_cases hlt:j<k
    ·have hkP:j<P.n:=by rw[←HN.out];exact hlt
     have hE:=Hm ((H.out.e j hkP).below hb.out);have hF:=Hm ((H.out.f j hkP).below hb.out);have hcn:(P.I j).nE+(P.I j).nF≤q:=by rw[HQ.out];exact UF P hkP
     have hnE:(P.I j).nE≤1000000:=by omega
     have hnF:(P.I j).nF≤1000000:=by omega
     have hbad:Hid (itB (P.I j)=false→prB P=false):=Vh hkP;have hgood:Hid (itB (P.I j)=true→Zc (j+1) (fun i=>itB (P.I i))=true):=fun h=>Z6 ha.out h
     rcases H.out.s with h0|⟨b,off,rfl,h0⟩
     ·omega
     obtain⟨e0,e1,e2,e3,e4,e5,e6⟩:=It.at (zt (h0 j hkP) hb.out);clear h0;have k0:(0:Int)≤(j:Int):=by omega
     have k1:(j:Int)<(k:Int):=by omega
     generalize P.I j=it at e0 e1 e2 e3 e4 e5 e6 hE hF hcn hnE hnF hbad hgood;generalize L j=lo at e2 e3 hE hF;go_wp2_with fail;clear e0 e1 e2 e3 e4 e5 e6 x0;refine(Vl it lo _ hE.out hF.out hnE hnF).mono ?_;rintro e w2 ⟨rfl,hb2⟩;have hb3:=Hm (zg hb.out hb2);have hA3:=Hm (ze hA.out hb2);clear hb2 hb hA
     cases hg:itB it with
     |false=>
      have hv:=Hm (hbad.out hg);go_wp2;go_ret;rw[hv.out];exact⟨rfl,hb3.out⟩
     |true=>
      have hv:=Hm (hgood.out hg);go_wp2;exact⟨⟨j+1,by omega,by go_num,hA3,hb3,hv⟩,by simp[intOf];omega⟩
    ·obtain rfl:j=k:=by omega
     have k1:decide ((j:Int)<(j:Int))=false:=by simp
     have hv:Hid (prB P=true):=by
      have e1:=HN.out;have e2:=HQ.out;have e3:=ha.out;rw[e1]at e3;unfold Hid prB;rw[e3,←e2,←e1];simp only[Bool.and_true,Bool.and_eq_true,decide_eq_true_eq];exact⟨by omega,hq2⟩
     go_wp2;go_ret;rw[hv.out];exact⟨rfl,hb.out⟩
end Go.Proofs.YtbdldkpifanaiaaDoor.Syn
namespace Go.Proofs.YtbdldkpifanaiaaDoor.Cd
open Go Go.RowKit Mem Syn
attribute [local go_sem ↓] Go.wp_at_zero Go.wp_at_succ
def ri (s:List Int):List Value:=s.map fun x=>.int .i64 x
theorem ri_len (s:List Int):(ri s).length=s.length:=by simp[ri]
def RI (B:Nat) (w:World) (v:Value) (s:List Int):Prop:=w.ownsRow B 2 1 v s.length (ri s)
theorem RI.take {B n m c:Nat} {w:World} {a:Option Addr} {s:List Int} (h:RI B w (.slice a n c) s) (hm:m≤n) (hn:n=s.length):RI B w (.slice a m c) (s.take m):=by
 unfold RI at*;have hl:(s.take m).length=m:=by rw[List.length_take];omega
 rw[hl];refine⟨by rw[ri_len,hl];omega,?_⟩;rcases h.2 with⟨h1,h2⟩|⟨g,cap,cur,h1,h2,h3,h4,h5,h6,h7⟩
 ·injection h1 with e1 e2 e3
  left;obtain rfl:m=0:=by omega
  exact⟨by rw[e1,e3],rfl⟩
 ·injection h1 with e1 e2 e3
  right;refine⟨g,cap,cur,by rw[e1,e3],h2,h3,by omega,h5,h6,?_⟩;have:List.take (m*1) cur.toList=(List.take (s.length*1) cur.toList).take (m*1):=by rw[List.take_take,Nat.min_eq_left (by omega)]
  rw[this,h7,Nat.mul_one];simp[ri]
theorem RI.cell {B g n c i:Nat} {w:World} {s:List Int} (h:RI B w (.slice (some ⟨g,0,none⟩) n c) s) (hi:i<s.length):w.cell? ⟨g,i,none⟩=some (.int .i64 (s.getD i 0)):=by
 have hu:(ri s)[i]? =some (.int .i64 (s.getD i 0)):=by simp[ri,List.getD_eq_getElem?_getD,List.getElem?_eq_getElem hi]
 rcases h.2 with⟨h1,h2⟩|⟨g',cap,cur,h1,h2,h3,h4,h5,h6,h7⟩
 ·cases h1
 ·injection h1 with g1
  injection g1 with g1;injection g1 with g1;rw[g1,za h3 i];rw[←h7,List.getElem?_take]at hu
  split at hu
  ·rw[←Array.getElem?_toList];exact hu
  ·cases hu
theorem RI.kept {B:Nat} {w w':World} {v:Value} {s:List Int} (h:RI B w v s) (hb:Below w.heap.size w w'):RI B w' v s:=yj h hb
theorem RI.at0 {B n c:Nat} {w:World} {a:Option Addr} {s:List Int} (h:RI B w (.slice a n c) s) (hn:n=s.length):zq w a n 1 (fun i=>[.int .i64 (s.getD i 0)]):=by
 by_cases h0:n=0
 ·exact Or.inl h0
 ·rcases h.2 with⟨h1,h2⟩|⟨g',cap,cur,h1,h2,h3,h4,h5,h6,h7⟩
  ·omega
  ·have h1':=h1
   injection h1 with g1;subst g1;refine Or.inr ⟨g',0,rfl,fun i hi j u hu=>?_⟩
   have hj:j=0:=by
    have:=(List.getElem?_eq_some_iff.1 hu).1;simp at this;exact this
   subst hj;have:=RI.cell (i:=i) h (by omega);simp at hu;rw[←hu,Nat.mul_one,Nat.zero_add,Nat.add_zero];exact this
def wkT (lt:List UInt8→Int) (o:Po) (s:List Int):Int:=
 if o.k=2 then lt o.n else opT o.k o.v (s.getD (s.length-ar o) 0) (s.getD (s.length-ar o+1) 0) (s.getD (s.length-ar o+2) 0)
def twk (lt:List UInt8→Int) (E:Nat→Po):Nat→Int×List Int
 |0=>(0,[])
 |j+1=>if (twk lt E j).1=0 then (if wkT lt (E j) (twk lt E j).2=0 then (if (E j).k=2 then 1 else 2,[])else (0,(twk lt E j).2.take ((twk lt E j).2.length-ar (E j))++[wkT lt (E j) (twk lt E j).2]))else twk lt E j
theorem Xn {lt:List UInt8→Int} {E:Nat→Po} {j n:Nat} (h:(twk lt E j).1≠0) (hj:j≤n):twk lt E n=twk lt E j:=by
 induction n with
 |zero=>obtain rfl:j=0:=by omega
        rfl
 |succ n ih=>
  by_cases e:j=n+1
  ·rw[e]
  ·have:=ih (by omega)
   rw[twk,this,if_neg h]
theorem YF:(Tryd.prog.info? 2).map (fun i=>(i.zero,i.size,i.bytes))=some (some (.int .i64 0),1,8):=by kernel_rfl
theorem WJ (w:World) (x:Value) (t:TypeId):∀j u,[x][j]? =some u→(w.alloc (.cells #[x] t)).cell? ((⟨w.heap.size,0,none⟩:Addr).add j)=some u:=fun j u h=>by
 have hj:j=0:=by
  have:=(List.getElem?_eq_some_iff.1 h).1;simp at this;exact this
 subst hj;simp at h;rw[←h];exact za (zi w _) 0
inductive WalkP (w w':World) (x:Int×List Int) (r:Ending):Prop
 |mk (p:Int) (he:r=.returned (.tuple #[.int .i64 x.1,.int .i64 p,.int .i64 (if x.1=0 then x.2.getD 0 0 else 0)])) (hb:Below w.heap.size w w'):WalkP w w' x r
theorem Tx (P:Pr) (a:Option Addr) (c:Nat) (T:Nat→Int) (t:Option Addr) (m d:Nat) (L:Nat→Lo) (w:World) (h:yr w a P L) (hn:P.n≤1048576) (ht:zq w t m 1 (fun i=>[.int .i64 (T i)])) (hm:m≤1048576)
  (E:Nat→Po) (e:Option Addr) (n cap:Nat) (hE:zq w e n 3 (fun i=>(E i).cells)) (hn2:n≤1000000) (tt:Tr) (hst:stk E n=some [tt]):
  Calls Tryd.prog 70 #[.agg #[.slice a P.n c],.slice t m d,.slice e n cap] w fun r w'=>WalkP w w' (twk (yv P T m) E n) r:=by
 obtain⟨i0,hi,hz0,hz1,hz2⟩:=info_parts YF;have LT:Hid (∀(w':World) nm,Below w.heap.size w w'→Calls Tryd.prog 84 #[.agg #[.slice a P.n c],.slice t m d,.string ⟨nm.toArray⟩] w' fun e w''=>e=.returned (.int .i64 (yv P T m nm))∧Below w'.heap.size w' w''):=fun w' nm hb=>Uj P a c nm T t m d L w' (h.below hb) hn (ht.below hb) hm
 have H:=Hm hE;have HS:=Hm hst;clear h ht hE hst;generalize yv P T m=lt at LT ⊢;generalize P.n=N at*;clear hn hm;go_enter Tryd.func70,Tryd.ntmps70;go_wp2;go_loopw [9,10] (fun v i wr=>∃(j:Nat) (s:List Int) (ts:List Tr),j≤n∧i=.int .i64 (j:Int)∧Hid (stk E j=some ts)∧Hid (twk lt E j=(0,s))∧Hid (s.length=ts.length)∧Hid (RI (w.heap.size+1) wr v s)∧Hid (∃g,v.ownBlock=some g)∧Hid (wr.heap[w.heap.size]? =some (.cells #[.slice a N c] 54))∧Hid (Below w.heap.size w wr)) (fun _ i _=>n- (intOf i).toNat)
 case atStart=>
  refine⟨0,[],[],Nat.zero_le _,rfl,rfl,rfl,rfl,?_,⟨_,rfl⟩,?_,?_⟩
  ·have:=World.ownsRow_made (w.alloc (.cells #[.slice a N c] 54)) (base:=w.heap.size+1) (e:=2) (size:=1) #[] 0 (by simp) (by unfold maxLen;omega) (by simp)
   simp only[World.size_alloc]at this;exact this
  ·exact zh (zi w _) _
  ·unfold Hid;go_grown
 case round=>
  obtain⟨j,s,ts,hj,rfl,hst,htw,hsl,hrow,hsome,hres,hb⟩:=hrel;obtain⟨sa,sc,hv,hsc⟩:=ya hrow.out;rw[hv]at hrow hsome ⊢;clear hv;have hlen:s.length≤1000000:=by rw[hsl.out];exact qo (WA hst.out) (by omega)
  obtain⟨g,rfl⟩:∃g,sa=some ⟨g,0,none⟩:=by
   rcases hrow.out.2 with⟨h1,h2⟩|⟨g,cc,cur,h1,-⟩
   ·obtain⟨g',hg'⟩:=hsome.out;rw[h1]at hg';cases hg'
   ·injection h1 with h1;exact⟨g,h1⟩
  obtain⟨K,hK⟩:∃K,K=s.length:=⟨_,rfl⟩;rw[←hK]at hrow hsc hlen hsome hsl ⊢;have HK:=Hm hK;clear hK;by_cases hlt:j<n
  ·rcases H.out with h0|⟨b,off,rfl,h0⟩
   ·omega
   have HE:Hid (∀W,Below w.heap.size w W→W.cell? ⟨b,off+j*3,none⟩=some (.int .i64 (E j).k)∧W.cell? ⟨b,off+j*3+1,none⟩=some (.int .i64 (E j).v)∧W.cell? ⟨b,off+j*3+2,none⟩=some (.string ⟨(E j).n.toArray⟩)):=fun W hW=>Po.at (zt (h0 j hlt) hW)
   clear h0
   have hnn:Hid (stk E (j+1)≠none):=fun e=>by
    have:=XI e hlt;rw[HS.out]at this;cases this
   have hop:opB (E j)=true∧ar (E j)≤ts.length:=by
    by_cases hh:opB (E j)=true∧ar (E j)≤ts.length
    ·exact hh
    ·exact absurd (by simp only[stk,hst.out,Option.bind_some,if_neg hh]) hnn.out
   have hnx:=Hm (XJ hst.out hop.1 hop.2)
   have hstep:Hid (twk lt E (j+1)=if wkT lt (E j) s=0 then (if (E j).k=2 then 1 else 2,[])else (0,s.take (K-ar (E j))++[wkT lt (E j) s])):=by
    unfold Hid;rw[twk,htw.out,if_pos rfl,←HK.out]
   have hwk:Hid (wkT lt (E j) s=if (E j).k=2 then lt (E j).n else opT (E j).k (E j).v (s.getD (K-ar (E j)) 0) (s.getD (K-ar (E j)+1) 0) (s.getD (K-ar (E j)+2) 0)):=by unfold Hid wkT;rw[←HK.out]
   have k0:(0:Int)≤(j:Int):=by omega
   have k1:(j:Int)<(n:Int):=by omega
   have hA3:=Wc (E j);have hAK:ar (E j)≤K:=by rw[hsl.out];exact hop.2
   have hopB:=hop.1;clear hop;have AR:Hid (∀W,Calls Tryd.prog 72 #[.agg #[.int .i64 (E j).k,.int .i64 (E j).v,.string ⟨(E j).n.toArray⟩]] W fun e w'=>e=.returned (.int .i64 (ar (E j):Int))∧Below W.heap.size W w'):=fun W=>Wy (E j) W hopB
   obtain⟨o,ho⟩:∃o,o=E j:=⟨_,rfl⟩;rw[←ho]at HE hnx hstep hwk hA3 hAK AR hopB;have HOB:=Hm hopB;clear ho hopB hnn;obtain⟨A,hA⟩:∃A,A=ar o:=⟨_,rfl⟩;rw[←hA]at hnx hstep hwk hA3 hAK AR;have HA:=Hm hA;clear hA;obtain⟨mm,rfl⟩:∃mm,K=mm+A:=⟨K-A,by omega⟩;rw[Nat.add_sub_cancel]at hstep hwk;obtain⟨e0,e1,e2⟩:=HE.out _ hb.out;go_wp2_with fail;clear e0 e1 e2;refine(AR.out _).mono ?_;rintro r w1 ⟨rfl,hb1⟩;have B1:=Hm (zg hb.out hb1);have R1:=Hm (hrow.out.kept hb1);have S1:=Hm (ze hres.out hb1);clear hb1 hb hrow hres;obtain⟨X,hX⟩:∃X,X=wkT lt o s:=⟨_,rfl⟩;rw[←hX]at hstep hwk;clear hX;have hlt0:(s.take mm).length=mm:=by rw[List.length_take,←HK.out];omega
   have TK:Hid (w1.ownsRow (w.heap.size+1) 2 1 (.slice (some ⟨g,0,none⟩) mm sc) mm (ri (s.take mm))):=by
    have:=R1.out.take (show mm≤mm+A by omega) HK.out;unfold RI at this;rw[hlt0]at this;exact this
   clear hlt0;have hsub:IntKind.i64.wrap (((mm+A:Nat):Int) - (A:Int))=(mm:Int):=by rw[show((mm+A:Nat):Int) - (A:Int)=(mm:Int) by omega];exact wrap_small _ (by omega) (by omega)
   have hsub2:IntKind.i64.wrap ((mm:Int)+(A:Int) - (A:Int))=(mm:Int):=by rw[show(mm:Int)+(A:Int) - (A:Int)=(mm:Int) by omega];exact wrap_small _ (by omega) (by omega)
   have hw3:IntKind.i64.wrap (mm:Int)=(mm:Int):=wrap_small _ (by omega) (by omega);have q0:(0:Int)≤(mm:Int):=by omega
   have q1:(mm:Int)≤(sc:Int):=by omega
   have q2:(mm:Int)≤(mm:Int)+(A:Int):=by omega
   have q3:(mm:Int)+(A:Int)≤(sc:Int):=by omega
   have hsz1:=B1.out.size;by_cases hk2:o.k=2
   ·rw[if_pos hk2]at hwk hstep
    obtain⟨e0,e1,e2⟩:=HE.out _ B1.out;rw[hk2]at e0;have x0:=za S1.out 0;simp only[qk,ql]at x0;have CL:=Hm (LT.out w1.drew o.n (B1.out.drew));rw[←hwk.out]at CL;go_wp2_with fail;go_still_tail 7,(by kernel_rfl);go_wp2_with (go_at_call 84;refine CL.out.mono ?_);rintro r w2 ⟨rfl,hb2⟩;have B2:=Hm (zg B1.out.drew hb2);have T2:=Hm (yj TK.out (zg (Below.refl _ _).drew hb2));have S2:=Hm (ze S1.out (zg (Below.refl _ _).drew hb2));have hsz2:=B2.out.size;clear hb2 TK S1 B1 R1 e0 e1 e2 x0;by_cases hX0:X=0
    ·subst hX0
     rw[if_pos rfl]at hstep;have hfin:Hid (twk lt E n=(1,[])):=by unfold Hid;rw[Xn (j:=j+1) (by rw[hstep.out];decide) (by omega)];exact hstep.out
     go_wp2;go_ret3;exact .mk _ (by rw[hfin.out];rfl) B2.out
    ·have hXf:(X==0)=false:=by simpa using hX0
     rw[if_neg hX0]at hstep;refine Hid.out ?_;refine Lib.hid ?_;go_wp2_with (at_builtin;refine wpList_append_own _ rfl _ _ 45 rfl (w.heap.size+1) 2 i0 (.int .i64 0) 1 8 Tryd.underlying45 hi hz0 hz1 hz2 rfl (by decide) _ _ _ rfl (T2.out.alloc _) ⟨w2.heap.size,0,none⟩ 1 1 [.int .i64 X] rfl rfl (WJ w2 _ 2) (by intro u hu;simp only[List.mem_cons,List.not_mem_nil,or_false]at hu;rcases hu with rfl;rfl) (by unfold maxLen;omega) (by omega) (by simp;omega) ?_);intro v3 w3 hown hgrow hblk
     have hO:Hid (RI (w.heap.size+1) w3 v3 (s.take mm++[X])):=by
      unfold Hid RI;have hl:(s.take mm).length=mm:=by rw[List.length_take,←HK.out];omega
      rw[qg,hl,List.length_singleton];simpa[ri]using hown
     have hg3:Hid (∃g',v3.ownBlock=some g'):=by
      rcases hown.2 with⟨-,h2⟩|⟨g',cc,cur,h1,-⟩
      ·omega
      ·exact⟨g',by rw[h1];rfl⟩
     have S3:Hid (w3.heap[w.heap.size]? =some (.cells #[.slice a N c] 54)):=zl hgrow (T2.out.alloc _) (zh S2.out _) (by decide);have hbZ:=Hm (zf B2.out (.cells #[.int .i64 X] 2));have B3:Hid (Below w.heap.size w w3):=hbZ.out.grown hgrow hbZ.out.size (fun k hk=>by have:=(T2.out.lt k hk).1;omega)
     have hln:Hid ((s.take mm++[X]).length=(ts.take (ts.length-A)++[mk o (ts.drop (ts.length-A))]).length):=by
      unfold Hid;have:=hsl.out;have:=HK.out;simp only[qg,List.length_take,List.length_singleton];omega
     clear hown hgrow hbZ T2 S2 B2;go_wp2;exact⟨⟨j+1,_,_,by omega,by go_num,hnx,hstep,hln,hO,hg3,S3,B3⟩,by simp[intOf];omega⟩
   ·rw[if_neg hk2]at hwk hstep
    have f2:(o.k==2)=false:=by simpa using hk2
    obtain⟨e0,e1,e2⟩:=HE.out _ B1.out;have x0:=za S1.out 0;simp only[qk,ql]at x0;have OT:Hid (∀(a3:Option Addr) (c3:Nat) (W:World),zq W a3 A 1 (fun i=>[.int .i64 (s.getD (mm+i) 0)])→Calls Tryd.prog 85 #[.agg #[.int .i64 o.k,.int .i64 o.v,.string ⟨o.n.toArray⟩],.slice a3 A c3] W fun e w'=>e=.returned (.int .i64 X)∧Below W.heap.size W w'):=fun a3 c3 W h=>by rw[hwk.out];exact U8 o a3 A c3 (fun i=>s.getD (mm+i) 0) W h hk2 HOB.out HA.out
    have hsl2:Hid (zq w1.drew (some ⟨g,mm,none⟩) A 1 (fun i=>[.int .i64 (s.getD (mm+i) 0)])):=by
     refine Or.inr ⟨g,mm,rfl,fun i hi j u hu=>?_⟩
     have hj:j=0:=by
      have:=(List.getElem?_eq_some_iff.1 hu).1;simp at this;exact this
     subst hj;simp at hu;rw[←hu,Nat.mul_one,Nat.add_zero];exact RI.cell (R1.out.kept (Below.refl _ _).drew) (by rw[←HK.out];omega)
    by_cases hcm:sc=mm
    ·obtain rfl:A=0:=by omega
     subst hcm;go_wp2_with fail;go_still_tail 10,(by kernel_rfl);go_wp2_with (go_at_call 85;refine(OT.out _ _ _ (Or.inl rfl)).mono ?_);rintro r w2 ⟨rfl,hb2⟩;have B2:=Hm (zg B1.out.drew hb2);have T2:=Hm (yj TK.out (zg (Below.refl _ _).drew hb2));have S2:=Hm (ze S1.out (zg (Below.refl _ _).drew hb2));have hsz2:=B2.out.size;clear hb2 TK S1 B1 R1 e0 e1 e2 x0;by_cases hX0:X=0
     ·subst hX0
      rw[if_pos rfl]at hstep;have hfin:Hid (twk lt E n=(2,[])):=by unfold Hid;rw[Xn (j:=j+1) (by rw[hstep.out];decide) (by omega)];exact hstep.out
      go_wp2;go_ret3;exact .mk _ (by rw[hfin.out];rfl) B2.out
     ·have hXf:(X==0)=false:=by simpa using hX0
      rw[if_neg hX0]at hstep;refine Hid.out ?_;refine Lib.hid ?_;go_wp2_with (at_builtin;refine wpList_append_own _ rfl _ _ 45 rfl (w.heap.size+1) 2 i0 (.int .i64 0) 1 8 Tryd.underlying45 hi hz0 hz1 hz2 rfl (by decide) _ _ _ rfl (T2.out.alloc _) ⟨w2.heap.size,0,none⟩ 1 1 [.int .i64 X] rfl rfl (WJ w2 _ 2) (by intro u hu;simp only[List.mem_cons,List.not_mem_nil,or_false]at hu;rcases hu with rfl;rfl) (by unfold maxLen;omega) (by omega) (by simp;omega) ?_);intro v3 w3 hown hgrow hblk
      have hO:Hid (RI (w.heap.size+1) w3 v3 (s.take sc++[X])):=by
       unfold Hid RI;have hl:(s.take sc).length=sc:=by rw[List.length_take,←HK.out];omega
       rw[qg,hl,List.length_singleton];simpa[ri]using hown
      have hg3:Hid (∃g',v3.ownBlock=some g'):=by
       rcases hown.2 with⟨-,h2⟩|⟨g',cc,cur,h1,-⟩
       ·omega
       ·exact⟨g',by rw[h1];rfl⟩
      have S3:Hid (w3.heap[w.heap.size]? =some (.cells #[.slice a N c] 54)):=zl hgrow (T2.out.alloc _) (zh S2.out _) (by decide);have hbZ:=Hm (zf B2.out (.cells #[.int .i64 X] 2));have B3:Hid (Below w.heap.size w w3):=hbZ.out.grown hgrow hbZ.out.size (fun k hk=>by have:=(T2.out.lt k hk).1;omega)
      have hln:Hid ((s.take sc++[X]).length=(ts.take (ts.length-0)++[mk o (ts.drop (ts.length-0))]).length):=by
       unfold Hid;have:=hsl.out;have:=HK.out;simp only[qg,List.length_take,List.length_singleton];omega
      clear hown hgrow hbZ T2 S2 B2;go_wp2;exact⟨⟨j+1,_,_,by omega,by go_num,hnx,hstep,hln,hO,hg3,S3,B3⟩,by simp[intOf];omega⟩
    ·go_wp2_with fail
     go_still_tail 10,(by kernel_rfl);go_wp2_with (go_at_call 85;refine(OT.out _ _ _ hsl2.out).mono ?_);rintro r w2 ⟨rfl,hb2⟩;have B2:=Hm (zg B1.out.drew hb2);have T2:=Hm (yj TK.out (zg (Below.refl _ _).drew hb2));have S2:=Hm (ze S1.out (zg (Below.refl _ _).drew hb2));have hsz2:=B2.out.size;clear hb2 TK S1 B1 R1 e0 e1 e2 x0;by_cases hX0:X=0
     ·subst hX0
      rw[if_pos rfl]at hstep;have hfin:Hid (twk lt E n=(2,[])):=by unfold Hid;rw[Xn (j:=j+1) (by rw[hstep.out];decide) (by omega)];exact hstep.out
      go_wp2;go_ret3;exact .mk _ (by rw[hfin.out];rfl) B2.out
     ·have hXf:(X==0)=false:=by simpa using hX0
      rw[if_neg hX0]at hstep;refine Hid.out ?_;refine Lib.hid ?_;go_wp2_with (at_builtin;refine wpList_append_own _ rfl _ _ 45 rfl (w.heap.size+1) 2 i0 (.int .i64 0) 1 8 Tryd.underlying45 hi hz0 hz1 hz2 rfl (by decide) _ _ _ rfl (T2.out.alloc _) ⟨w2.heap.size,0,none⟩ 1 1 [.int .i64 X] rfl rfl (WJ w2 _ 2) (by intro u hu;simp only[List.mem_cons,List.not_mem_nil,or_false]at hu;rcases hu with rfl;rfl) (by unfold maxLen;omega) (by omega) (by simp;omega) ?_);intro v3 w3 hown hgrow hblk
      have hO:Hid (RI (w.heap.size+1) w3 v3 (s.take mm++[X])):=by
       unfold Hid RI;have hl:(s.take mm).length=mm:=by rw[List.length_take,←HK.out];omega
       rw[qg,hl,List.length_singleton];simpa[ri]using hown
      have hg3:Hid (∃g',v3.ownBlock=some g'):=by
       rcases hown.2 with⟨-,h2⟩|⟨g',cc,cur,h1,-⟩
       ·omega
       ·exact⟨g',by rw[h1];rfl⟩
      have S3:Hid (w3.heap[w.heap.size]? =some (.cells #[.slice a N c] 54)):=zl hgrow (T2.out.alloc _) (zh S2.out _) (by decide);have hbZ:=Hm (zf B2.out (.cells #[.int .i64 X] 2));have B3:Hid (Below w.heap.size w w3):=hbZ.out.grown hgrow hbZ.out.size (fun k hk=>by have:=(T2.out.lt k hk).1;omega)
      have hln:Hid ((s.take mm++[X]).length=(ts.take (ts.length-A)++[mk o (ts.drop (ts.length-A))]).length):=by
       unfold Hid;have:=hsl.out;have:=HK.out;simp only[qg,List.length_take,List.length_singleton];omega
      clear hown hgrow hbZ T2 S2 B2;go_wp2;exact⟨⟨j+1,_,_,by omega,by go_num,hnx,hstep,hln,hO,hg3,S3,B3⟩,by simp[intOf];omega⟩
  ·obtain rfl:j=n:=by omega
   have k1:decide ((j:Int)<(j:Int))=false:=by simp
   have hts:Hid (K=1):=by
    unfold Hid;rw[hsl.out];have:=hst.out.symm.trans HS.out;injection this with this;rw[this];rfl
   have c0:=RI.cell (i:=0) hrow.out (by rw[←HK.out,hts.out];omega);have hfin:Hid (twk lt E j=(0,s)):=htw;have h1:=hts.out;clear hts;subst h1;go_wp2_with fail;go_region;go_wp2;go_ret3;exact .mk _ (by rw[hfin.out];rfl) hb.out.drew
end Go.Proofs.YtbdldkpifanaiaaDoor.Cd
