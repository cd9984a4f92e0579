import Derived.Test.YtbkajklninmhiaaGreatDoorPm45
import Derived.Laws.AppendOwnNone
set_option maxHeartbeats 6400000
set_option maxRecDepth 100000
set_option linter.unusedVariables false
set_option linter.unusedSimpArgs false
open List renaming setIfInBounds_toArray → qa, set_cons_zero → qb, set_cons_succ → qc, getElem_cons_succ → qd, getElem_cons_zero → qe, getElem_toArray → qf, length_append → qg, length_cons → qh, length_nil → qi, append_assoc → ql
open Nat renaming le_refl → qp, le_trans → qq
namespace Go.Proofs.YtbkajklninmhiaaGreatDoor.Par
open Go Syn Parse
theorem Y7 {E:Nat→Po} {n:Nat} (h:yp E n=true) {r:List UInt8} (hr:NW r):Lx (yR E n) (exK E n) r:=by
 obtain⟨t,hs,hg,-,-,-,hk⟩:=YU h;rw[xm hs,hk];exact xU t hg r hr
theorem ZP {E:Nat→Po} {n:Nat} (h:yp E n=true):(yR E n).length≤22*n:=by
 obtain⟨t,hs,hg,-,hm,-,hk⟩:=YU h;rw[xm hs];have:=xF t hg;omega
theorem X4 (k:Nat) {r:List UInt8} (h3:3≤k) (h50:k<50):Lx ([32]++zG k++[32]) [kT k] r:=by
 have:=Lx.app (Lx.app Lx.bl (SA (k:=k) h3 h50 Vp (by simp))) (Lx.bl (r:=r));simpa only[List.nil_append,List.append_nil]using this
theorem QW {i:It} {r:List UInt8} (a:-999999999≤i.lo) (b:i.lo≤999999999) (c:-999999999≤i.hi) (d:i.hi≤999999999) (hr:NW r):Lx (y8 i) (spK i.lo i.hi) r:=by
 have:=Lx.app (Lx.app (Lx.app (s1:=[32,105,110,32]) (X4 44 (by omega) (by omega)) (TN a b (Vp (s:=_)))) (s2:=[32,46,46,32]) (X4 7 (by omega) (by omega))) (TN c d hr);unfold y8 spK;simpa only[ql,List.cons_append,List.nil_append]using this
def xo (i:It):List UInt8:=
 (if i.k=1 then i.n++[32,61,32]++yR i.E i.nE
  else if i.k=4 then yR i.E i.nE++[32,102,114,111,109,32]++Lib.itoa i.K++y8 i
  else if i.k=5 then yR i.E i.nE++[32,116,104,101,110,32]++yR i.F i.nF
  else if i.k=6 then [yW i.K,32,yW i.lo]
  else if i.k=7 then Lib.itoa i.K
  else if i.k=8 then yR i.E i.nE++y8 i
  else if i.k=9 then yR i.E i.nE++[32,109,111,115,116,32]++Lib.itoa i.K
  else yR i.E i.nE)
theorem itT_eq (i:It):itT i=zG (15+i.k.toNat)++[32]++xo i:=rfl
theorem nwsp {i:It} {r:List UInt8}:NW (y8 i++r):=by
 unfold y8;exact yO (c:=32) (by decide)
theorem QK (i:It) (h:itB i=true) {r:List UInt8} (hr:NW r):Lx (xo i) (yz i) r∧(xo i).length≤22*(i.nE+i.nF)+100:=by
 obtain⟨h0,h1,h2,h3,h4,h5,h6⟩:=Zs h
 have hk:i.k=1∨i.k=2∨i.k=3∨i.k=4∨i.k=5∨i.k=6∨i.k=7∨i.k=8∨i.k=9:=by
  simp[inR]at h0;omega
 rcases hk with e|e|e|e|e|e|e|e|e<;>rw[e]at h1 h2 h3 h4 h5 h6<;>clear h0 h
 ·have hn:yj i.n=true:=by simpa[sh,Zo,nmB]using h1
  have hE:yp i.E i.nE=true:=by simpa[sh,Zo,exB]using h2
  have eb:yz i=⟨2,i.n,0⟩::kT 13::exK i.E i.nE:=by unfold yz;rw[if_pos e]
  have et:xo i=i.n++[32,61,32]++yR i.E i.nE:=by unfold xo;rw[if_pos e]
  rw[eb,et];have l1:=ZP hE;have l2:=YD hn;refine⟨?_,by simp only[qg,qh,qi];omega⟩;exact Lx.app (k1:=[⟨2,i.n,0⟩,kT 13]) (Lx.app (k1:=[⟨2,i.n,0⟩]) (UN hn (yO (c:=32) (by decide))) (X4 13 (by omega) (by omega))) (Y7 hE hr)
 ·have hE:yp i.E i.nE=true:=by simpa[sh,Zo,exB]using h2
  have eb:yz i=exK i.E i.nE:=by unfold yz;simp[e]
  have et:xo i=yR i.E i.nE:=by unfold xo;simp[e]
  rw[eb,et];have l1:=ZP hE;exact⟨Y7 hE hr,by omega⟩
 ·have hE:yp i.E i.nE=true:=by simpa[sh,Zo,exB]using h2
  have eb:yz i=exK i.E i.nE:=by unfold yz;simp[e]
  have et:xo i=yR i.E i.nE:=by unfold xo;simp[e]
  rw[eb,et];have l1:=ZP hE;exact⟨Y7 hE hr,by omega⟩
 ·have hE:yp i.E i.nE=true:=by simpa[sh,Zo,exB]using h2
  obtain⟨k0,k1⟩:=XW (x:=i.K) h4;obtain⟨m0,m1⟩:=XW (x:=i.lo) h5;obtain⟨n0,n1⟩:=XW (x:=i.hi) h6;have eb:yz i=exK i.E i.nE++kT 43::(sgK i.K++spK i.lo i.hi):=by unfold yz;simp[e]
  have et:xo i=yR i.E i.nE++[32,102,114,111,109,32]++Lib.itoa i.K++y8 i:=by unfold xo;simp[e]
  rw[eb,et];have l1:=ZP hE;have l2:=xg k0 k1;have l3:=WE m0 m1 n0 n1;refine⟨?_,by simp only[qg,qh,qi];omega⟩;have key:=Lx.app (Lx.app (Lx.app (Y7 hE (yO (c:=32) (by decide))) (s2:=[32,102,114,111,109,32]) (X4 43 (by omega) (by omega))) (TN k0 k1 nwsp)) (QW m0 m1 n0 n1 hr);simpa only[ql,List.cons_append,List.nil_append]using key
 ·have hE:yp i.E i.nE=true:=by simpa[sh,Zo,exB]using h2
  have hF:yp i.F i.nF=true:=by simpa[sh,Zo,exB]using h3
  have eb:yz i=exK i.E i.nE++kT 45::exK i.F i.nF:=by unfold yz;simp[e]
  have et:xo i=yR i.E i.nE++[32,116,104,101,110,32]++yR i.F i.nF:=by unfold xo;simp[e]
  rw[eb,et];have l1:=ZP hE;have l2:=ZP hF;refine⟨?_,by simp only[qg,qh,qi];omega⟩;have key:=Lx.app (Lx.app (Y7 hE (yO (c:=32) (by decide))) (s2:=[32,116,104,101,110,32]) (X4 45 (by omega) (by omega))) (Y7 hF hr);simpa only[ql,List.cons_append,List.nil_append]using key
 ·obtain⟨k0,k1⟩:=QE (x:=i.K) h4
  obtain⟨m0,m1⟩:=QE (x:=i.lo) h5;have eb:yz i=[tgK i.K,tgK i.lo]:=by unfold yz;simp[e]
  have et:xo i=[yW i.K]++([32]++[yW i.lo]):=by unfold xo;simp[e]
  rw[eb,et];refine⟨?_,by simp⟩;exact Lx.app (k1:=[tgK i.K]) (Uq k0 k1 (yO (c:=32) (by decide))) (Lx.app (k1:=[]) Lx.bl (Uq m0 m1 hr))
 ·obtain⟨k0,k1⟩:=QD (x:=i.K) h4
  have eb:yz i=[nmK i.K]:=by unfold yz;simp[e]
  have et:xo i=Lib.itoa i.K:=by unfold xo;simp[e]
  rw[eb,et];have l1:=YH k0 k1;exact⟨Vq k0 k1 hr,by omega⟩
 ·have hE:yp i.E i.nE=true:=by simpa[sh,Zo,exB]using h2
  obtain⟨m0,m1⟩:=XW (x:=i.lo) h5;obtain⟨n0,n1⟩:=XW (x:=i.hi) h6;have eb:yz i=exK i.E i.nE++spK i.lo i.hi:=by unfold yz;simp[e]
  have et:xo i=yR i.E i.nE++y8 i:=by unfold xo;simp[e]
  rw[eb,et];have l1:=ZP hE;have l3:=WE m0 m1 n0 n1;refine⟨?_,by simp only[qg];omega⟩;exact Lx.app (Y7 hE nwsp) (QW m0 m1 n0 n1 hr)
 ·have hE:yp i.E i.nE=true:=by simpa[sh,Zo,exB]using h2
  obtain⟨k0,k1⟩:=QD (x:=i.K) h4;have eb:yz i=exK i.E i.nE++[kT 46,nmK i.K]:=by unfold yz;simp[e]
  have et:xo i=yR i.E i.nE++[32,109,111,115,116,32]++Lib.itoa i.K:=by unfold xo;simp[e]
  rw[eb,et];have l1:=ZP hE;have l2:=YH k0 k1;refine⟨?_,by simp only[qg,qh,qi];omega⟩;have key:=Lx.app (Lx.app (Y7 hE (yO (c:=32) (by decide))) (s2:=[32,109,111,115,116,32]) (X4 46 (by omega) (by omega))) (Vq k0 k1 hr);simpa only[ql,List.cons_append,List.nil_append]using key
theorem UR (i:It) (h:itB i=true) {r:List UInt8}:Lx (itT i++[59,10]) (itK i) r∧(itT i).length≤22*(i.nE+i.nF)+107:=by
 have hk:1≤i.k∧i.k≤9:=by have:=(Zs h).1;simpa[inR]using this
 have hs:Lx [59,10] [kT 3] r:=Lx.app (s1:=[59]) (k1:=[kT 3]) (s2:=[10]) (k2:=[]) (Zy (k:=3) (by omega) (by omega) (by omega)) Lx.nl;obtain⟨hb,hl⟩:=QK i h (r:=[59,10]++r) (yO (c:=59) (by decide));have ht:=Syn.tw_len (15+i.k.toNat);rw[itT_eq];refine⟨?_,by simp only[qg,qh,qi];omega⟩;have key:=Lx.app (Lx.app (Lx.app (xX (k:=15+i.k.toNat) (by omega) (by omega) Vp) Lx.bl) hb) hs;unfold itK;simpa only[ql,List.append_nil,List.cons_append,List.nil_append]using key
def ZI (P:Pr):Nat→List Kd
 |0=>[]
 |k+1=>ZI P k++itK (P.I k)
theorem UE (P:Pr):∀(k:Nat),(∀j,j<k→itB (P.I j)=true)→∀r,Lx (xw P k) (ZI P k) r
 |0,_,r=>.nil r
 |k+1,h,r=>by
  rw[xw,ZI,ql];exact Lx.app (UE P k (fun j hj=>h j (by omega)) _) (UR (P.I k) (h k (by omega))).1
theorem UF (P:Pr):∀(k:Nat),(∀j,j<k→itB (P.I j)=true)→(xw P k).length≤22*Syn.cnt P k+109*k
 |0,_=>by simp[xw]
 |k+1,h=>by
  have h1:=UF P k (fun j hj=>h j (by omega));have h2:=(UR (P.I k) (h k (by omega)) (r:=[])).2;simp only[xw,Syn.cnt,qg,qh,qi];omega
variable {T:Nat→Tk}
theorem S5 (P:Pr):∀(n:Nat),At T 0 (ZI P n)→∀k,k≤n→At T 0 (ZI P k)
 |0,h,k,hk=>by obtain rfl:k=0:=by omega
               exact h
 |n+1,h,k,hk=>by
  by_cases e:k=n+1
  ·rw[e];exact h
  ·exact S5 P n (At.left (b:=itK (P.I n)) h) k (by omega)
def Xf (P:Pr) (n:Nat):List Im:=(List.range n).map fun j=>imO (P.I j)
theorem UD (hT:∀i,(T i).k<50) {F:Nat} (hF:∀i o,pxP T F i o≠.out) (P:Pr) (hv:∀j,j<P.n→itB (P.I j)=true) (hn:P.n≤100) (hc:Syn.cnt P P.n≤2000) (ha:At T 0 (ZI P P.n)) (hz:(T (ZI P P.n).length).k=0):∀(n m f:Nat),m+n=P.n→n<f→ZH T F f (Xf P m) (ZI P m).length (Syn.cnt P m)=.ok (Xf P P.n)
 |0,m,f+1,hm,hf=>by
  obtain rfl:m=P.n:=by omega
  rw[ZH,if_pos hz]
 |n+1,m,f+1,hm,hf=>by
  have h1:=S5 P P.n ha (m+1) (by omega);have h2:=At.right (a:=ZI P m) (b:=itK (P.I m)) h1;rw[Nat.zero_add]at h2;have h3:=cnt_mono P (show m+1≤P.n by omega);have h4:Syn.cnt P (m+1)=Syn.cnt P m+((P.I m).nE+(P.I m).nF):=rfl;obtain⟨i1,i2,i3⟩:=Qp hT hF (P.I m) (hv m (by omega)) (o:=Syn.cnt P m) h2 (by omega);have hl:(Xf P m).length=m:=by simp[Xf]
  rw[ZH,if_neg (by omega),if_pos ⟨i2,i3⟩,if_neg (by omega),i1,zj];have e1:Xf P m++[imO (P.I m)]=Xf P (m+1):=by unfold Xf;rw[List.range_succ,List.map_append];rfl
  have e2:(ZI P m).length+(itK (P.I m)).length=(ZI P (m+1)).length:=by rw[ZI,qg]
  dsimp only;rw[e1,e2,←h4];exact UD hT hF P hv hn hc ha hz n (m+1) f (by omega) (by omega)
theorem S9 (P:Pr) (h:prB P=true):XQ (Ym P)=(0,0,Xf P P.n):=by
 have he:Ym P=xw P P.n:=by unfold Ym;rw[if_pos h]
 unfold prB at h;simp only[Bool.and_eq_true,decide_eq_true_eq]at h;obtain⟨hn,hc,hv⟩:=h;have hv':∀j,j<P.n→itB (P.I j)=true:=fun j hj=>U0 hv hj
 have hl:=UF P P.n hv';rw[he];obtain⟨hT,ha,hz⟩:=(UE P P.n hv' []).all;have key:=UD hT (ZM (xw P P.n)) P hv' hn hc ha hz P.n 0 101 (by omega) (by omega);have h0:=hT 0;unfold XQ;rw[if_neg (by omega)]
 have:ZG (tkT (xw P P.n)) (yQ (xw P P.n))=.ok (Xf P P.n):=by
  unfold ZG;rw[if_neg (by omega),if_neg (by omega)];exact key
 rw[this]
end Go.Proofs.YtbkajklninmhiaaGreatDoor.Par
namespace Go.Proofs.YtbkajklninmhiaaGreatDoor.Pa
open Go Go.RowKit Mem Syn Parse Par Dq
def poD:Po:=⟨0,0,[]⟩
def imD:Im:=⟨0,[],[],[],0,0,0⟩
def Qr (im:Im):It:=⟨im.k,im.n,im.E.length,im.F.length,fun j=>im.E.getD j poD,fun j=>im.F.getD j poD,im.K,im.lo,im.hi⟩
def Xe (L:List Im):Pr:=⟨L.length,fun i=>Qr (L.getD i imD)⟩
theorem R6 (L:List Po):∀(j q:Nat),j<L.length→q<3→(zH L)[j*3+q]? =(L.getD j poD).cells[q]?:=by
 induction L with
 |nil=>intro j q hj;simp at hj
 |cons o r ih=>
  intro j q hj hq;have e:zH (o::r)=o.cells++zH r:=by unfold zH;simp
  rw[e];have hl:o.cells.length=3:=rfl
  cases j with
  |zero=>rw[List.getElem?_append_left (by rw[hl];omega)];simp
  |succ j=>
   rw[List.getElem?_append_right (by rw[hl];omega),hl,show(j+1)*3+q-3=j*3+q by omega,ih j q (by simpa using hj) hq];simp
theorem Sg {B:Nat} {w:World} {v:Value} {L:List Po} (h:OwnO B w v L):∃a c,v=.slice a L.length c∧zK w a L.length 3 (fun j=>(L.getD j poD).cells):=by
 obtain⟨a,c,rfl⟩:=h.sl;refine⟨a,c,rfl,?_⟩;rcases h.2 with⟨h1,h2⟩|⟨g,cap,cur,h1,h2,h3,h4⟩
 ·exact Or.inl h2
 ·injection h1 with e1 _ _
  refine Or.inr ⟨g,0,e1,fun i hi j u hu=>?_⟩
  have hj:j<3:=by
   rcases Nat.lt_or_ge j 3 with e|e
   ·exact e
   ·rw[List.getElem?_eq_none (by show(Po.cells _).length≤j;exact e)]at hu;cases hu
  rw[e1]at h;have:=World.ownsRow.cellAt h (i*3+j) (by omega);rw[show(0+i*3)+j=i*3+j by omega,this,R6 L i j hi hj];exact hu
inductive Itr (w:World):List Value→List Im→Prop
 |nil:Itr w [] []
 |snoc (cs:List Value) (L:List Im) (im:Im) (vE vF:Value) (BE BF:Nat) (h:Itr w cs L) (hE:OwnO BE w vE im.E) (hF:OwnO BF w vF im.F):Itr w (cs++itC im vE vF) (L++[im])
theorem Qn {w:World} {s e:Nat} {cs:List Value} {L:List Im} (h:Its w s e cs L):Itr w cs L:=by
 induction h with
 |nil=>exact .nil
 |snoc e e' cs L im vE vF m h hi hb hm ih=>exact .snoc cs L im vE vF _ _ ih hi.e hi.f
theorem Itr.len {w:World} {cs:List Value} {L:List Im} (h:Itr w cs L):cs.length=L.length*7:=by
 induction h with
 |nil=>rfl
 |snoc cs L im vE vF BE BF h hE hF ih=>rw[qg,qg,ih];simp[itC];omega
theorem Itr.lo {w:World} {cs:List Value} {L:List Im} (h:Itr w cs L):∃lo:Nat→Lo,(∀i,i<L.length→∀q,q<7→cs[i*7+q]? =((Qr (L.getD i imD)).cells (lo i))[q]?)∧(∀i,i<L.length→zK w (lo i).aE (L.getD i imD).E.length 3 (fun j=>((L.getD i imD).E.getD j poD).cells))∧∀i,i<L.length→zK w (lo i).aF (L.getD i imD).F.length 3 (fun j=>((L.getD i imD).F.getD j poD).cells):=by
 induction h with
 |nil=>exact⟨fun _=>⟨none,none,0,0⟩,fun i hi=>by simp at hi,fun i hi=>by simp at hi,fun i hi=>by simp at hi⟩
 |snoc cs L im vE vF BE BF h hE hF ih=>
  obtain⟨lo,h1,h2,h3⟩:=ih;obtain⟨aE,cE,rfl,sE⟩:=(Sg hE);obtain⟨aF,cF,rfl,sF⟩:=(Sg hF);have hlen:=h.len;have hold:∀i,i<L.length→(L++[im]).getD i imD=L.getD i imD:=fun i hi=>by simp[List.getElem?_append_left hi]
  have hnew:(L++[im]).getD L.length imD=im:=by simp
  refine⟨fun i=>if i<L.length then lo i else ⟨aE,aF,cE,cF⟩,?_,?_,?_⟩
  ·intro i hi q hq
   rcases Nat.lt_or_ge i L.length with hi2|hi2
   ·rw[List.getElem?_append_left (by rw[hlen];omega),h1 i hi2 q hq,hold i hi2];simp only[if_pos hi2]
   ·have:i=L.length:=by simp at hi;omega
    subst this;rw[List.getElem?_append_right (by rw[hlen];omega),hlen,show L.length*7+q-L.length*7=q by omega,hnew];simp only[Nat.lt_irrefl,if_false];rfl
  ·intro i hi
   rcases Nat.lt_or_ge i L.length with hi2|hi2
   ·rw[hold i hi2];simp only[if_pos hi2];exact h2 i hi2
   ·have:i=L.length:=by simp at hi;omega
    subst this;rw[hnew];simp only[Nat.lt_irrefl,if_false];exact sE
  ·intro i hi
   rcases Nat.lt_or_ge i L.length with hi2|hi2
   ·rw[hold i hi2];simp only[if_pos hi2];exact h3 i hi2
   ·have:i=L.length:=by simp at hi;omega
    subst this;rw[hnew];simp only[Nat.lt_irrefl,if_false];exact sF
theorem Pb {B:Nat} {w:World} {iv:Value} {cs:List Value} {L:List Im} (h:w.ownsRow B 38 7 iv L.length cs) (hi:Itr w cs L):∃a c lo,iv=.slice a L.length c∧Yu w a (Xe L) lo:=by
 obtain⟨a,c,rfl,-⟩:=zh h;obtain⟨lo,h1,h2,h3⟩:=hi.lo;refine⟨a,c,lo,rfl,?_,h2,h3⟩;rcases h.2 with⟨e1,e2⟩|⟨g,cap,cur,e1,e2,e3,e4⟩
 ·exact Or.inl e2
 ·injection e1 with e1 _ _
  refine Or.inr ⟨g,0,e1,fun i hi j u hu=>?_⟩;have hi:i<L.length:=hi
  have hj:j<7:=by
   rcases Nat.lt_or_ge j 7 with e|e
   ·exact e
   ·rw[List.getElem?_eq_none (by rw[It.len];exact e)]at hu;cases hu
  rw[e1]at h;rw[show(0+i*7)+j=i*7+j by omega,World.ownsRow.cellAt h (i*7+j) (by omega),h1 i hi j hj];exact hu
theorem SE {w:World}:∀(Y X:List Xi),(∀x∈X,(∃B,OwnO B w x.e x.im.E)∧∃B,OwnO B w x.f x.im.F)→Itr w (Y.flatMap Xi.cs) (Y.map Xi.im)→Itr w ((Y++X).flatMap Xi.cs) ((Y++X).map Xi.im)
 |Y,[],_,hY=>by simpa using hY
 |Y,x::X,h,hY=>by
  obtain⟨⟨BE,hE⟩,BF,hF⟩:=h x (by simp);have h1:=Itr.snoc _ _ x.im x.e x.f BE BF hY hE hF;have:=SE (Y++[x]) X (fun y hy=>h y (by simp[hy])) (by simpa[Xi.cs]using h1);simpa using this
theorem pg_at {B:Nat} {w:World} {iv:Value} {X:List Xi} (h:PgR B w iv X):∃a c lo,iv=.slice a X.length c∧Yu w a (Xe (X.map Xi.im)) lo:=by
 have h1:=SE [] X (fun x hx=>⟨⟨_,h.e x hx⟩,_,h.f x hx⟩) .nil;have hr:=h.row;rw[List.nil_append]at h1;have e:X.length=(X.map Xi.im).length:=by simp
 rw[e]at hr;obtain⟨a,c,lo,h2,h3⟩:=Pb hr h1;exact⟨a,c,lo,by rw[h2,←e],h3⟩
theorem UK (L:List Po):opL (fun j=>L.getD j poD) L.length=L:=by
 unfold opL;apply List.ext_getElem
 ·simp
 ·intro i h1 h2
  simp at h1;simp[h1]
theorem imO_of (im:Im):imO (Qr im)=im:=by
 unfold imO Qr;simp only;rw[UK,UK]
theorem ims_of (L:List Im):Xf (Xe L) L.length=L:=by
 unfold Xf Xe;apply List.ext_getElem
 ·simp
 ·intro i h1 h2
  simp at h1;simp[h1,imO_of]
theorem back {L:List Im} (h:prB (Xe L)=true):XQ (Ym (Xe L))=(0,0,L):=by
 rw[S9 _ h];show(0,0,Xf (Xe L) L.length)=_;rw[ims_of]
theorem YX (P:Pr) (m:Nat):∀k,(∀j,j<k→(P.I j).nE+(P.I j).nF≤m)→Syn.cnt P k≤m*k
 |0,_=>by simp[Syn.cnt]
 |k+1,h=>by
  have h1:=YX P m k fun j hj=>h j (by omega)
  have h2:=h k (by omega);simp only[Syn.cnt];rw[Nat.mul_succ];omega
theorem pg_cnt {B:Nat} {w:World} {iv:Value} {X:List Xi} (h:PgR B w iv X) (hX:X.length≤101):Syn.cnt (Xe (X.map Xi.im)) (X.map Xi.im).length≤1048576:=by
 have:=YX (Xe (X.map Xi.im)) 6020 (X.map Xi.im).length ?_
 ·rw[List.length_map]at this ⊢
  omega
 ·intro j hj
  rw[List.length_map]at hj;have h1:=h.le X[j] (List.getElem_mem hj);have e:(X.map Xi.im).getD j imD=X[j].im:=by simp[hj]
  show((X.map Xi.im).getD j imD).E.length+((X.map Xi.im).getD j imD).F.length≤6020;rw[e];omega
end Go.Proofs.YtbkajklninmhiaaGreatDoor.Pa
namespace Go.Proofs.YtbkajklninmhiaaGreatDoor.Pa
open Go Go.RowKit Mem Syn
attribute [local go_sem ↓] Go.wp_at_zero Go.wp_at_succ
theorem Su (a a':Option Addr) (n cap cap':Nat) (V:Nat→Po) (w:World) (hs:zK w a n 3 (fun i=>(V i).cells)) (hs':zK w a' n 3 (fun i=>(V i).cells)) (hn:n≤1048576):
  Calls Tryz.prog 19 #[.slice a n cap,.slice a' n cap'] w fun e w'=>e=.returned (.bool true)∧Below w.heap.size w w':=by
 go_enter Tryz.func19,Tryz.ntmps19;have HS:Hid (zK w a n 3 (fun i=>(V i).cells)):=hs;have HS':Hid (zK w a' n 3 (fun i=>(V i).cells)):=hs';clear hs hs';go_wp2;go_loopw [5] (fun i wr=>∃k:Nat,k≤n∧i=.int .i64 k∧Hid (Below w.heap.size w wr)) (fun i _=>n- (intOf i).toNat)
 case atStart=>exact⟨0,Nat.zero_le _,rfl,Below.refl _ _⟩
 case round=>
  obtain⟨k,hk,rfl,hb⟩:=hrel;by_cases hlt:k<n
  ·rcases HS.out with hs|⟨b,off,rfl,hs⟩
   ·omega
   rcases HS'.out with hs'|⟨b',off',rfl,hs'⟩
   ·omega
   have hr:=z8 (hs k hlt) hb.out;have hr':=z8 (hs' k hlt) hb.out;obtain⟨O,hO⟩:∃O,O=V k:=⟨_,rfl⟩;simp only[←hO]at hr hr';clear hO;obtain⟨c0,c1,c2⟩:=Po.at hr;obtain⟨e0,e1,e2⟩:=Po.at hr';have HS9:Hid ((fun w'=>w'.cell? ⟨b,off+k*3,none⟩=some (.int .i64 O.k)∧w'.cell? ⟨b,off+k*3+1,none⟩=some (.int .i64 O.v)∧w'.cell? ⟨b,off+k*3+2,none⟩=some (.string ⟨O.n.toArray⟩)∧w'.cell? ⟨b',off'+k*3,none⟩=some (.int .i64 O.k)∧w'.cell? ⟨b',off'+k*3+1,none⟩=some (.int .i64 O.v)∧w'.cell? ⟨b',off'+k*3+2,none⟩=some (.string ⟨O.n.toArray⟩)) wr):=⟨c0,c1,c2,e0,e1,e2⟩;clear hs hs' hr hr' c0 c1 c2 e0 e1 e2;have k0:(0:Int)≤(k:Int):=by omega
   have k1:(k:Int)<(n:Int):=by omega
   go_upto_region 6 with fail;refine wp_region_held_drew (S:=(fun w'=>w'.cell? ⟨b,off+k*3,none⟩=some (.int .i64 O.k)∧w'.cell? ⟨b,off+k*3+1,none⟩=some (.int .i64 O.v)∧w'.cell? ⟨b,off+k*3+2,none⟩=some (.string ⟨O.n.toArray⟩)∧w'.cell? ⟨b',off'+k*3,none⟩=some (.int .i64 O.k)∧w'.cell? ⟨b',off'+k*3+1,none⟩=some (.int .i64 O.v)∧w'.cell? ⟨b',off'+k*3+2,none⟩=some (.string ⟨O.n.toArray⟩))) (by kernel_rfl) ?_ (fun hHeld=>?_)
   ·exact HS9.out
   refine tK 0 ?_ rfl (by kernel_rfl) (fun _ _ _ h=>h) (by rfl) ?_ (by assumption) ?_;rotate_left
   ·intro w hSw;(try dsimp only at hSw);go_simp;(try with_reducible rfl)
   rotate_left;simp only[Act.put,qa,qb,qc,qf,qe,qd];refine tK 1 ?_ rfl (by kernel_rfl) (fun _ _ _ h=>h) (by rfl) ?_ (by assumption) ?_;rotate_left
   ·intro w hSw;(try dsimp only at hSw);go_simp;(try with_reducible rfl)
   rotate_left;simp only[Act.put,qa,qb,qc,qf,qe,qd];refine tK 2 ?_ rfl (by kernel_rfl) (fun _ _ _ h=>h) (by rfl) ?_ (by assumption) ?_;rotate_left
   ·intro w hSw;(try dsimp only at hSw);go_simp;(try with_reducible rfl)
   rotate_left;simp only[Act.put,qa,qb,qc,qf,qe,qd];refine tK 3 ?_ rfl (by kernel_rfl) (fun _ _ _ h=>h) (by rfl) ?_ (by assumption) ?_;rotate_left
   ·intro w hSw;(try dsimp only at hSw);go_simp;(try with_reducible rfl)
   rotate_left;simp only[Act.put,qa,qb,qc,qf,qe,qd];refine tK 4 ?_ rfl (by kernel_rfl) (fun _ _ _ h=>h) (by rfl) ?_ (by assumption) ?_;rotate_left
   ·intro w hSw;(try dsimp only at hSw);go_simp;(try with_reducible rfl)
   rotate_left;simp only[Act.put,qa,qb,qc,qf,qe,qd];refine tK 5 ?_ rfl (by kernel_rfl) (fun _ _ _ h=>h) (by rfl) ?_ (by assumption) ?_;rotate_left
   ·intro w hSw;(try dsimp only at hSw);go_simp;(try with_reducible rfl)
   rotate_left;simp only[Act.put,qa,qb,qc,qf,qe,qd];refine tK 6 ?_ rfl (by kernel_rfl) (fun _ _ _ h=>h) (by rfl) ?_ (by assumption) ?_;rotate_left
   ·intro w hSw;(try dsimp only at hSw);go_simp;(try with_reducible rfl)
   rotate_left;simp only[Act.put,qa,qb,qc,qf,qe,qd];refine tK 7 ?_ rfl (by kernel_rfl) (fun _ _ _ h=>h) (by rfl) ?_ (by assumption) ?_;rotate_left
   ·intro w hSw;(try dsimp only at hSw);go_simp;(try with_reducible rfl)
   rotate_left;simp only[Act.put,qa,qb,qc,qf,qe,qd];refine tK 8 ?_ rfl (by kernel_rfl) (fun _ _ _ h=>h) (by rfl) ?_ (by assumption) ?_;rotate_left
   ·intro w hSw;(try dsimp only at hSw);go_simp;(try with_reducible rfl)
   rotate_left;simp only[Act.put,qa,qb,qc,qf,qe,qd];refine wpAnyH_done (by kernel_rfl) ?_ _;go_wp2_with fail;exact⟨⟨k+1,by omega,by first|rfl|go_num,hb.out.drew⟩,by simp[intOf];omega⟩
  ·go_wp2
   go_ret;exact⟨rfl,hb.out⟩
theorem Qa (P:Pr) (a a':Option Addr) (cap cap':Nat) (L L':Nat→Lo) (w:World) (hs:Yu w a P L) (hs':Yu w a' P L') (hn:P.n≤1048576) (hc:Syn.cnt P P.n≤1048576):
  Calls Tryz.prog 9 #[.agg #[.slice a P.n cap],.agg #[.slice a' P.n cap']] w fun e w'=>e=.returned (.bool true)∧Below w.heap.size w w':=by
 have HC:Hid (∀k,k<P.n→(P.I k).nE+(P.I k).nF≤1048576):=fun k hk=>qq (XL P hk) hc
 obtain⟨n,hN⟩:∃n,n=P.n:=⟨_,rfl⟩;have HN:=Hm hN;rw[←hN]at hn HC;rw[←hN];obtain⟨W0,hW0⟩:∃W,W=w.alloc (.cells #[.slice a n cap] 25):=⟨_,rfl⟩;have hz0:W0.heap.size=w.heap.size+1:=by rw[hW0];simp
 have A0:Hid (Below w.heap.size w W0):=by rw[hW0];exact zd (Below.refl _ _) _
 have X0:Hid (W0.heap[w.heap.size]? =some (.cells #[.slice a n cap] 25)):=by rw[hW0];exact zo _ _
 obtain⟨W1,hW1⟩:∃W,W=W0.alloc (.cells #[.slice a' n cap'] 25):=⟨_,rfl⟩;have A1:Hid (Below W0.heap.size W0 W1):=by rw[hW1];exact zd (Below.refl _ _) _
 have XA:Hid (W1.heap[w.heap.size]? =some (.cells #[.slice a n cap] 25)):=zg X0.out A1.out;have XB:Hid (W1.heap[w.heap.size+1]? =some (.cells #[.slice a' n cap'] 25)):=by rw[hW1,←hz0];exact zo _ _
 have HA:=Hm (zn A0.out A1.out);have HS:=Hm (hs.below HA.out);have HS':=Hm (hs'.below HA.out);clear hs hs' A0 A1 X0 hz0 hN hc;go_enter Tryz.func9,Tryz.ntmps9;have y0:=cL0 XA.out;have x0:=cL0 XB.out;refine wp_seq_k (fun K0 h0=>?_);have H0:=Hm h0;clear h0;go_wp2_with fail;rw[←hW0,←hW1];clear hW0 hW1;refine H0.out _ _ ?_;clear H0 K0;go_wp2_with fail;go_loopw [5] (fun i wr=>∃k:Nat,k≤n∧i=.int .i64 k∧Hid (Below W1.heap.size W1 wr)) (fun i _=>n- (intOf i).toNat)
 case atStart=>exact⟨0,Nat.zero_le _,rfl,Below.refl _ _⟩
 case round=>
  obtain⟨k,hk,rfl,hb⟩:=hrel;clear y0 x0;have y0:=(zb (zg XA.out hb.out) 0).trans (show _=some (.slice a n cap)from rfl);have x0:=(zb (zg XB.out hb.out) 0).trans (show _=some (.slice a' n cap')from rfl);by_cases hlt:k<n
  ·have hltP:k<P.n:=by rw[←HN.out];exact hlt
   have hcc:=HC.out k hlt;have EE:=Hm ((HS.out.below hb.out).e k hltP);have EF:=Hm ((HS.out.below hb.out).f k hltP);have EE':=Hm ((HS'.out.below hb.out).e k hltP);have EF':=Hm ((HS'.out.below hb.out).f k hltP);rcases(HS.out.below hb.out).s with hs|⟨b,off,rfl,hs⟩
   ·omega
   rcases(HS'.out.below hb.out).s with hs'|⟨b',off',rfl,hs'⟩
   ·omega
   obtain⟨c0,c1,c2,c3,c4,c5,c6⟩:=It.at (hs k hltP);obtain⟨e0,e1,e2,e3,e4,e5,e6⟩:=It.at (hs' k hltP);clear hs hs' hltP;obtain⟨I,hI⟩:∃I,I=P.I k:=⟨_,rfl⟩;obtain⟨l,hl⟩:∃l,l=L k:=⟨_,rfl⟩;obtain⟨l',hl'⟩:∃l,l=L' k:=⟨_,rfl⟩;rw[←hI]at c0 c1 c2 c3 c4 c5 c6 e0 e1 e2 e3 e4 e5 e6 EE EF EE' EF' hcc;rw[←hl]at c2 c3 EE EF;rw[←hl']at e2 e3 EE' EF';clear hI hl hl';have k0:(0:Int)≤(k:Int):=by omega
   have k1:(k:Int)<(n:Int):=by omega
   have g0:=lt_of_cell c0;have g1:=lt_of_cell e0;have g2:=lt_of_cell y0;have g3:=lt_of_cell x0;go_wp2_with fail;clear c0 c1 c2 c3 c4 c5 c6 e0 e1 e2 e3 e4 e5 e6 y0 x0 g0 g1 g2 g3;obtain⟨W2,hW2⟩:∃W:World,W=(wr.alloc (.cells #[.int .i64 I.k,.string ⟨I.n.toArray⟩,.slice l.aE I.nE l.cE,.slice l.aF I.nF l.cF,.int .i64 I.K,.int .i64 I.lo,.int .i64 I.hi] 38)).alloc (.cells #[.int .i64 I.k,.string ⟨I.n.toArray⟩,.slice l'.aE I.nE l'.cE,.slice l'.aF I.nF l'.cF,.int .i64 I.K,.int .i64 I.lo,.int .i64 I.hi] 38):=⟨_,rfl⟩;have P0:Hid (W2.heap[wr.heap.size]? =some (.cells #[.int .i64 I.k,.string ⟨I.n.toArray⟩,.slice l.aE I.nE l.cE,.slice l.aF I.nF l.cF,.int .i64 I.K,.int .i64 I.lo,.int .i64 I.hi] 38)):=by unfold Hid;rw[hW2];exact zv (zo wr _) _
   have P1:Hid (W2.heap[wr.heap.size+1]? =some (.cells #[.int .i64 I.k,.string ⟨I.n.toArray⟩,.slice l'.aE I.nE l'.cE,.slice l'.aF I.nF l'.cF,.int .i64 I.K,.int .i64 I.lo,.int .i64 I.hi] 38)):=by unfold Hid;rw[hW2];exact yb wr _ _
   have B0:Hid (Below wr.heap.size wr W2):=by unfold Hid;rw[hW2];go_grown
   rw[←hW2];clear hW2;refine(Su l.aE l'.aE I.nE l.cE l'.cE I.E _ (EE.out.below B0.out) (EE'.out.below B0.out) (by omega)).mono ?_;rintro e w1 ⟨rfl,hb1⟩;have P0:=Hm (zg P0.out hb1);have P1:=Hm (zg P1.out hb1);have B1:=Hm (zn B0.out hb1);clear hb1 B0;have q1:=cL3 P0.out;have q2:=cL3 P1.out;go_wp2_with fail;clear q1 q2;refine(Su l.aF l'.aF I.nF l.cF l'.cF I.F _ (EF.out.below B1.out) (EF'.out.below B1.out) (by omega)).mono ?_;rintro e w2 ⟨rfl,hb2⟩;have B2:=Hm (zn hb.out (zn B1.out hb2));clear hb2 B1;go_wp2_with fail;exact⟨⟨k+1,by omega,by first|rfl|go_num,B2⟩,by simp[intOf];omega⟩
  ·obtain rfl:n=k:=by omega
   have k2:¬((n:Int)<(n:Int)):=by omega
   go_wp2_with fail;go_ret;exact⟨rfl,zn HA.out hb.out⟩
end Go.Proofs.YtbkajklninmhiaaGreatDoor.Pa
namespace Go.Proofs.YtbkajklninmhiaaGreatDoor.Syn
open Go Go.RowKit Mem
attribute [local go_sem ↓] Go.wp_at_zero Go.wp_at_succ
theorem bstrS (v:Int) (w:World):Calls Tryz.prog 100 #[.int .i64 v] w fun e w'=>e=.returned (.int .i64 (z9 v))∧w'=w:=by
 have:v=0∨v=1∨v=2∨v=6∨v=7∨(v≠0∧v≠1∧v≠2∧v≠6∧v≠7):=by omega
 rcases this with rfl|rfl|rfl|rfl|rfl|⟨h0,h1,h2,h6,h7⟩
 ·go_enter Tryz.func100,Tryz.ntmps100
  go_wp2;go_ret;exact⟨rfl,rfl⟩
 ·go_enter Tryz.func100,Tryz.ntmps100
  go_wp2;go_ret;exact⟨rfl,rfl⟩
 ·go_enter Tryz.func100,Tryz.ntmps100
  go_wp2;go_ret;exact⟨rfl,rfl⟩
 ·go_enter Tryz.func100,Tryz.ntmps100
  go_wp2;go_ret;exact⟨rfl,rfl⟩
 ·go_enter Tryz.func100,Tryz.ntmps100
  go_wp2;go_ret;exact⟨rfl,rfl⟩
 ·have hv:Hid (z9 v=3):=by unfold Hid z9;rw[if_neg h0,if_neg (by omega),if_neg h6,if_neg h7]
  have f0:(v==0)=false:=by simpa using h0
  have f1:(v==1)=false:=by simpa using h1
  have f2:(v==2)=false:=by simpa using h2
  have f6:(v==6)=false:=by simpa using h6
  have f7:(v==7)=false:=by simpa using h7
  go_enter Tryz.func100,Tryz.ntmps100;go_wp2;go_ret;rw[hv.out];exact⟨rfl,rfl⟩
theorem X7 (o:Po) (w:World):Calls Tryz.prog 134 #[.agg #[.int .i64 o.k,.int .i64 o.v,.string ⟨o.n.toArray⟩]] w fun e w'=>e=.returned (.int .i64 (yS o))∧Below w.heap.size w w':=by
 obtain⟨k,v,n⟩:=o;simp only;by_cases h9:k=9
 ·subst h9
  have hv:Hid (yS ⟨9,v,n⟩=z9 v):=by unfold Hid yS;rw[if_pos rfl]
  go_enter Tryz.func134,Tryz.ntmps134;go_wp2_with (go_at_call 100;refine(bstrS _ _).mono ?_;rintro e w' ⟨rfl,hw⟩;rw[hw];clear hw);go_ret;rw[hv.out];exact⟨rfl,by go_grown⟩
 have f9:(k==9)=false:=by simpa using h9
 by_cases h7:k=7
 ·subst h7
  have hv:Hid (yS ⟨7,v,n⟩=6):=by unfold Hid yS;simp
  go_enter Tryz.func134,Tryz.ntmps134;go_wp2;go_ret;rw[hv.out];exact⟨rfl,by go_grown⟩
 have f7:(k==7)=false:=by simpa using h7
 by_cases h8:k=8
 ·subst h8
  have hv:Hid (yS ⟨8,v,n⟩=6):=by unfold Hid yS;simp
  go_enter Tryz.func134,Tryz.ntmps134;go_wp2;go_ret;rw[hv.out];exact⟨rfl,by go_grown⟩
 have f8:(k==8)=false:=by simpa using h8
 have hv:Hid (yS ⟨k,v,n⟩=7):=by unfold Hid yS;simp[h7,h8,h9]
 go_enter Tryz.func134,Tryz.ntmps134;go_wp2;go_ret;rw[hv.out];exact⟨rfl,by go_grown⟩
def wrp (o:Po) (i:Nat) (s:Int):Bool:=if o.k=7∨o.k=8 then decide (s≤5)else if o.k=9 then (if i=0 then (decide (s<z9 o.v)||(s==3&&z9 o.v==3))else decide (s≤z9 o.v))else false
theorem Tl (o:Po) (i:Nat) (s:Int) (w:World) (hi:i≤100):Calls Tryz.prog 136 #[.agg #[.int .i64 o.k,.int .i64 o.v,.string ⟨o.n.toArray⟩],.int .i64 (i:Int),.int .i64 s] w fun e w'=>e=.returned (.bool (wrp o i s))∧Below w.heap.size w w':=by
 by_cases h7:o.k=7
 ·have hv:Hid (wrp o i s=decide (s≤5)):=by unfold Hid wrp;rw[if_pos (Or.inl h7)]
  rw[h7];go_enter Tryz.func136,Tryz.ntmps136;go_wp2;go_ret;rw[hv.out];exact⟨rfl,by go_grown⟩
 have f7:(o.k==7)=false:=by simpa using h7
 by_cases h8:o.k=8
 ·have hv:Hid (wrp o i s=decide (s≤5)):=by unfold Hid wrp;rw[if_pos (Or.inr h8)]
  rw[h8];clear f7;go_enter Tryz.func136,Tryz.ntmps136;go_wp2;go_ret;rw[hv.out];exact⟨rfl,by go_grown⟩
 have f8:(o.k==8)=false:=by simpa using h8
 by_cases h9:o.k=9
 ·have hp:Hid (yS o=z9 o.v):=by unfold Hid yS;rw[if_pos h9]
  have hB:=Hm ((Below.refl w.heap.size w).alloc (qp _) (.cells #[.int .i64 o.k,.int .i64 o.v,.string ⟨o.n.toArray⟩] 88));have f9:(o.k !=9)=false:=by simpa using h9
  have g9:(o.k==9)=true:=by simpa using h9
  have hw0:Hid (wrp o i s=if i=0 then (decide (s<z9 o.v)||(s==3&&z9 o.v==3))else decide (s≤z9 o.v)):=by unfold Hid wrp;rw[if_neg (by omega),if_pos h9]
  obtain⟨t,ht⟩:∃t,t=z9 o.v:=⟨_,rfl⟩;rw[←ht]at hp hw0;have SC:Hid (∀W:World,Calls Tryz.prog 134 #[.agg #[.int .i64 o.k,.int .i64 o.v,.string ⟨o.n.toArray⟩]] W fun e w'=>e=.returned (.int .i64 t)∧Below W.heap.size W w'):=fun W=>by have:=X7 o W;rw[hp.out]at this;exact this
  clear ht h9 hp;by_cases hi0:i=0
  ·subst hi0
   have hv:Hid (wrp o 0 s=(decide (s<t)||(s==3&&t==3))):=by unfold Hid;rw[hw0.out,if_pos rfl]
   by_cases h1:s<t
   ·go_enter Tryz.func136,Tryz.ntmps136
    go_wp2_with fail;refine(SC.out _).mono ?_;rintro e w1 ⟨rfl,hb⟩;have HB:=Hm (zn hB.out hb);clear hb;go_wp2;go_ret;exact⟨zJ (by rw[hv.out];simp[h1]),HB.out⟩
   ·have d1:decide (s<t)=false:=by simpa using h1
    cases h3:(s==3)with
    |true=>
     go_enter Tryz.func136,Tryz.ntmps136;go_wp2_with fail;refine(SC.out _).mono ?_;rintro e w1 ⟨rfl,hb⟩;have HB:=Hm (zn hB.out hb);clear hb;go_wp2;go_ret;exact⟨zJ (by rw[hv.out];simp[d1,h3]),HB.out⟩
    |false=>
     go_enter Tryz.func136,Tryz.ntmps136;go_wp2_with fail;refine(SC.out _).mono ?_;rintro e w1 ⟨rfl,hb⟩;have HB:=Hm (zn hB.out hb);clear hb;go_wp2;go_ret;exact⟨zJ (by rw[hv.out];simp[d1,h3]),HB.out⟩
  ·have hv:Hid (wrp o i s=decide (s≤t)):=by unfold Hid;rw[hw0.out,if_neg hi0]
   have hi':((i:Int)==0)=false:=by simp;omega
   go_enter Tryz.func136,Tryz.ntmps136;go_wp2_with fail;refine(SC.out _).mono ?_;rintro e w1 ⟨rfl,hb⟩;have HB:=Hm (zn hB.out hb);clear hb;go_wp2;go_ret;rw[hv.out];exact⟨rfl,HB.out⟩
 ·have hv:Hid (wrp o i s=false):=by unfold Hid wrp;rw[if_neg (by omega),if_neg h9]
  have f9:(o.k !=9)=true:=by simpa using h9
  have g9:(o.k==9)=false:=by simpa using h9
  go_enter Tryz.func136,Tryz.ntmps136;go_wp2;go_ret;rw[hv.out];exact⟨rfl,by go_grown⟩
theorem SQ:(Tryz.prog.info? 5).map (fun i=>(i.zero,i.size,i.bytes))=some (some (.int .u8 0),1,1):=by kernel_rfl
theorem infoSl:(Tryz.prog.info? 22).map (fun i=>(i.zero,i.size,i.bytes))=some (some (.slice none 0 0),1,24):=by kernel_rfl
theorem infoVl:(Tryz.prog.info? 120).map (fun i=>(i.zero,i.size,i.bytes))=some (some (.agg #[.int .i64 0,.int .i64 0,.slice none 0 0]),3,40):=by kernel_rfl
theorem TS {P:Program} (w:World) (t e:TypeId) (g:Nat) (C:Array Value) (fr:Nat×Nat) (n c:Nat) (ht:P.underlying t=some (.slice e)) (he:P.underlying e=some (.int .u8)) (hb:w.heap[g]? =some (.cells C e fr)):
  (convert t t (.slice (some ⟨g,0,none⟩) n c)).run P w=.ok (.slice (some ⟨g,0,none⟩) n c) (w.freeze ⟨g,C.size,none⟩ 1):=by
 have hsh:w.shape? g=some (e,C.size):=by
  unfold World.shape?;rw[hb]
 simp[convert,run_underlying ht,run_underlying he,markStringish,hsh]
theorem Uc {w:World} {g:Nat} {C:Array Value} {e:TypeId} {fr:Nat×Nat} (hb:w.heap[g]? =some (.cells C e fr)) (p:Addr) (n:Nat):∃fr',(w.freeze p n).heap[g]? =some (.cells C e fr'):=by
 unfold World.freeze
 split
 ·exact⟨fr,hb⟩
 ·simp only[Array.getElem?_modify]
  split
  ·rw[hb];exact⟨_,rfl⟩
  ·exact⟨fr,hb⟩
theorem ZK (w:World) (p:Addr) (n:Nat):(w.freeze p n).heap.size=w.heap.size:=by
 unfold World.freeze
 split<;>simp
theorem below_freeze {B:Nat} {a w:World} (h:Below B a w) (g k n:Nat) (hg:B≤g):Below B a (w.freeze ⟨g,k,none⟩ n):=by
 have hblk:∀i,i<B→(w.freeze ⟨g,k,none⟩ n).heap[i]? =w.heap[i]?:=fun i hi=>by
  unfold World.freeze
  split
  ·rfl
  ·simp only[Array.getElem?_modify]
   rw[if_neg (by show ¬g=i;omega)]
 have ho:(w.freeze ⟨g,k,none⟩ n).os=w.os∧(w.freeze ⟨g,k,none⟩ n).tape=w.tape∧(w.freeze ⟨g,k,none⟩ n).output=w.output:=by
  unfold World.freeze;split<;>exact⟨rfl,rfl,rfl⟩
 exact⟨ho.1.trans h.os,ho.2.1.trans h.tape,ho.2.2.trans h.output,by rw[ZK];exact h.size,fun i hi=>(hblk i hi).trans (h.block i hi)⟩
def RdC (w:World) (a:Option Addr) (xs:List Value):Prop:=(a=none∧xs=[])∨∃g off,a=some ⟨g,off,none⟩∧∀j u,xs[j]? =some u→w.cell? ⟨g,off+j,none⟩=some u
theorem RdC.below {w w':World} {a:Option Addr} {xs:List Value} (h:RdC w a xs) (hb:Below w.heap.size w w'):RdC w' a xs:=by
 rcases h with h|⟨g,off,ha,h⟩
 ·exact Or.inl h
 ·exact Or.inr ⟨g,off,ha,fun j u hu=>zB hb (h j u hu)⟩
theorem catS (a b:Option Addr) (n m c d:Nat) (xs ys:List Value) (w:World) (hn:n=xs.length) (hm:m=ys.length) (ha:RdC w a xs) (hb:RdC w b ys) (h1:∀u∈xs,u.oneCell'=true) (h2:∀u∈ys,u.oneCell'=true) (b1:n≤10000000000) (b2:m≤10000000000) (ha0:a=none→c=0) (hb0:b=none→d=0):
  Calls Tryz.prog 137 #[.slice a n c,.slice b m d] w fun e w'=>∃v,e=.returned v∧w'.ownsRow w.heap.size 5 1 v (n+m) (xs++ys)∧Below w.heap.size w w':=by
 obtain⟨i0,hi,hz0,hz1,hz2⟩:=info_parts SQ;have HA:=Hm ha;have HB:=Hm hb;have HN:=Hm hn;have HM:=Hm hm;clear ha hb hn hm;have hrow:Hid ((w.alloc (.cells #[] 5)).ownsRow w.heap.size 5 1 (.slice (some ⟨w.heap.size,0,none⟩) 0 0) 0 []):=World.ownsRow_made w #[] 0 (qp _) (by unfold maxLen;omega) (by simp);rcases HA.out with⟨rfl,hx⟩|⟨g,off,rfl,hx⟩
 ·obtain rfl:n=0:=by rw[HN.out,hx];rfl
  obtain rfl:=ha0 rfl;subst hx;have B1:Hid (Below w.heap.size w (w.alloc (.cells #[] 5))):=(Below.refl _ _).alloc (qp _) _;rcases HB.out with⟨rfl,hy⟩|⟨g',off',rfl,hy⟩
  ·obtain rfl:m=0:=by rw[HM.out,hy];rfl
   obtain rfl:=hb0 rfl;subst hy;clear hb0 ha0;go_enter Tryz.func137,Tryz.ntmps137;go_wp2_with (at_builtin;refine wpList_append_own_none rfl _ _ 22 rfl w.heap.size 5 i0 1 Tryz.underlying22 hi _ _ _ rfl hrow.out rfl ?_);go_ret;exact⟨_,rfl,hrow.out,B1.out⟩
  ·clear hb0 ha0
   go_enter Tryz.func137,Tryz.ntmps137;go_wp2_with (first|(at_builtin;refine wpList_append_own_none rfl _ _ 22 rfl w.heap.size 5 i0 1 Tryz.underlying22 hi _ _ _ rfl hrow.out rfl ?_)|(at_builtin;refine wpList_append_own _ rfl _ _ 22 rfl w.heap.size 5 i0 (.int .u8 0) 1 1 Tryz.underlying22 hi hz0 hz1 hz2 rfl (by decide) _ _ _ rfl hrow.out ⟨g',off',none⟩ m d ys rfl (by rw[HM.out];simp) (fun j u hu=>by rw[Addr.add_mid];exact zB B1.out (hy j u hu)) h2 (by unfold maxLen;omega) (by omega) B1.out.size ?_));intro v2 w2 hown hgrow _;have O2:=Hm hown;have B2:Hid (Below w.heap.size w w2):=B1.out.grown hgrow B1.out.size (fun j hj=>(hrow.out.lt j hj).1);clear hown hgrow hrow B1;refine Hid.out ?_;refine Lib.hid ?_;go_wp2;go_ret;exact⟨_,rfl,by simpa using O2.out,B2.out⟩
 ·rcases HB.out with⟨rfl,hy⟩|⟨g',off',rfl,hy⟩
  ·obtain rfl:m=0:=by rw[HM.out,hy];rfl
   obtain rfl:=hb0 rfl;clear hb0 ha0;go_enter Tryz.func137,Tryz.ntmps137;go_wp2_with (at_builtin;refine wpList_append_own _ rfl _ _ 22 rfl w.heap.size 5 i0 (.int .u8 0) 1 1 Tryz.underlying22 hi hz0 hz1 hz2 rfl (by decide) _ _ _ rfl hrow.out ⟨g,off,none⟩ n c xs rfl (by rw[HN.out];simp) (fun j u hu=>by rw[Addr.add_mid];exact zB (by go_grown) (hx j u hu)) h1 (by unfold maxLen;omega) (by omega) (by simp) ?_);intro v1 w1 hown hgrow _;have O1:=Hm hown;have B1:Hid (Below w.heap.size w w1):=((Below.refl _ _).alloc (qp _) _).grown hgrow (by simp) (fun j hj=>(hrow.out.lt j hj).1);clear hown hgrow hrow;refine Hid.out ?_;refine Lib.hid ?_;go_wp2_with (at_builtin;refine wpList_append_own_none rfl _ _ 22 rfl w.heap.size 5 i0 1 Tryz.underlying22 hi _ _ _ rfl O1.out rfl ?_);go_ret;exact⟨_,rfl,by simpa[hy]using O1.out,B1.out⟩
  ·clear hb0 ha0
   go_enter Tryz.func137,Tryz.ntmps137;go_wp2_with (at_builtin;refine wpList_append_own _ rfl _ _ 22 rfl w.heap.size 5 i0 (.int .u8 0) 1 1 Tryz.underlying22 hi hz0 hz1 hz2 rfl (by decide) _ _ _ rfl hrow.out ⟨g,off,none⟩ n c xs rfl (by rw[HN.out];simp) (fun j u hu=>by rw[Addr.add_mid];exact zB (by go_grown) (hx j u hu)) h1 (by unfold maxLen;omega) (by omega) (by simp) ?_);intro v1 w1 hown hgrow _;have O1:=Hm hown;have B1:Hid (Below w.heap.size w w1):=((Below.refl _ _).alloc (qp _) _).grown hgrow (by simp) (fun j hj=>(hrow.out.lt j hj).1);clear hown hgrow hrow;refine Hid.out ?_;refine Lib.hid ?_
   go_wp2_with (at_builtin;refine wpList_append_own _ rfl _ _ 22 rfl w.heap.size 5 i0 (.int .u8 0) 1 1 Tryz.underlying22 hi hz0 hz1 hz2 rfl (by decide) _ _ _ rfl O1.out ⟨g',off',none⟩ m d ys rfl (by rw[HM.out];simp) (fun j u hu=>by rw[Addr.add_mid];exact zB B1.out (hy j u hu)) h2 (by unfold maxLen;omega) (by omega) B1.out.size ?_);intro v2 w2 hown hgrow _;have O2:=Hm hown;have B2:Hid (Below w.heap.size w w2):=B1.out.grown hgrow B1.out.size (fun j hj=>(O1.out.lt j hj).1);clear hown hgrow O1 B1;refine Hid.out ?_;refine Lib.hid ?_;go_wp2;go_ret;exact⟨_,rfl,O2.out,B2.out⟩
end Go.Proofs.YtbkajklninmhiaaGreatDoor.Syn
