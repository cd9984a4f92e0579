import Derived.Test.YtbdldkpifanaiaaDoorCr02
import Derived.Lib.Hide
import Derived.OwnWalk
import Derived.ArgAppend
import Derived.Deep.RegionLaw
import Derived.Maps.AppendAt
import Derived.Deep.DeepCutAuto
import Derived.Deep.Cut
import Derived.Deep.CutRange
set_option maxHeartbeats 1600000
set_option linter.unusedVariables false
set_option linter.unusedSimpArgs false
open List renaming length_cons → qh, getElem?_toArray → qk, getElem?_cons_zero → ql
open Nat renaming le_refl → qn, le_trans → qo, le_of_lt → qq
namespace Go.Proofs.YtbdldkpifanaiaaDoor.Syn
open Go Go.RowKit Mem
attribute [local go_sem ↓] Go.wp_at_zero Go.wp_at_succ
def Tr.wf:Tr→Prop
 |.leaf o=>1≤o.k∧o.k≤6
 |.pre o a=>(o.k=7∨o.k=8)∧a.wf
 |.bin o a b=>(o.k=9∧0≤o.v∧o.v≤7)∧a.wf∧b.wf
 |.two o a b=>(o.k=10∧0≤o.v∧o.v≤1)∧a.wf∧b.wf
 |.three o a b c=>(o.k=10∧o.v=2)∧a.wf∧b.wf∧c.wf
def Tr.sz:Tr→Nat
 |.leaf _=>1
 |.pre _ a=>1+a.sz
 |.bin _ a b=>1+a.sz+b.sz
 |.two _ a b=>1+a.sz+b.sz
 |.three _ a b c=>1+a.sz+b.sz+c.sz
theorem xF (t:Tr):0≤t.nst∧t.nst≤2*(t.sz:Int):=by
 induction t with
 |leaf o=>simp[Tr.nst,Tr.sz]
 |pre o a ih=>simp only[Tr.nst,Tr.sz,opn];split<;>omega
 |bin o a b ih ih'=>simp only[Tr.nst,Tr.sz,opn];split<;>split<;>omega
 |two o a b ih ih'=>simp only[Tr.nst,Tr.sz];omega
 |three o a b c ih ih' ih''=>simp only[Tr.nst,Tr.sz];omega
theorem zP {a b:Int} (h:a=b):Ending.returned (.int .i64 a)=.returned (.int .i64 b):=by rw[h]
theorem Wq {o:Po} (h:opB o=true):1≤o.k∧o.k≤10∧0≤o.v∧o.v≤Zn o.k:=by
 unfold opB at h;simp only[Bool.and_eq_true,decide_eq_true_eq]at h;exact⟨h.1.1.1.1,h.1.1.1.2,h.1.1.2,h.1.2⟩
def szs (l:List Tr):Nat:=(l.map Tr.sz).sum
theorem Xo (a b:List Tr):szs (a++b)=szs a+szs b:=by simp[szs]
theorem mk_wf {o:Po} {l:List Tr} (h:opB o=true) (hl:l.length=ar o) (hw:∀t∈l,t.wf):(mk o l).wf∧(mk o l).sz=1+szs l:=by
 obtain⟨k0,k1,v0,v1⟩:=Wq h;clear h;unfold ar at hl
 split at hl
 ·rename_i hk
  match l,hl with
  |[a],_=>exact⟨⟨hk,hw a (by simp)⟩,by simp[mk,Tr.sz,szs]⟩
 ·rename_i hk
  split at hl
  ·rename_i hk'
   match l,hl with
   |[a,b],_=>
    have hv:Zn o.k=7:=by rw[hk'];rfl
    simp only[mk];rw[if_pos hk'];exact⟨⟨⟨hk',v0,by omega⟩,hw a (by simp),hw b (by simp)⟩,by simp[Tr.sz,szs];omega⟩
  ·rename_i hk'
   split at hl
   ·rename_i hk2
    have hv:Zn o.k=2:=by rw[hk2];rfl
    split at hl
    ·rename_i hv2
     match l,hl with
     |[a,b,c],_=>exact⟨⟨⟨hk2,hv2⟩,hw a (by simp),hw b (by simp),hw c (by simp)⟩,by simp[mk,Tr.sz,szs];omega⟩
    ·rename_i hv2
     match l,hl with
     |[a,b],_=>
      simp only[mk];rw[if_neg hk'];exact⟨⟨⟨hk2,v0,by omega⟩,hw a (by simp),hw b (by simp)⟩,by simp[Tr.sz,szs];omega⟩
   ·rename_i hk2
    match l,hl with
    |[],_=>exact⟨⟨k0,by omega⟩,by simp[mk,Tr.sz,szs]⟩
theorem Xq {E:Nat→Po}:∀{n:Nat} {s:List Tr},stk E n=some s→(∀t∈s,t.wf)∧szs s=n:=by
 intro n
 induction n with
 |zero=>intro s h;simp[stk]at h;subst h;simp[szs]
 |succ n ih=>
  intro s h;simp only[stk]at h;obtain⟨s0,hs0,h⟩:=Option.bind_eq_some_iff.1 h
  split at h
  ·rename_i hc
   have h:=Option.some.inj h;obtain⟨hw,hz⟩:=ih hs0;have hm:=mk_wf (l:=s0.drop (s0.length-ar (E n))) hc.1 (by rw[List.length_drop];omega) (fun t ht=>hw t (List.mem_of_mem_drop ht));rw[←h];refine⟨fun t ht=>?_,?_⟩
   ·rcases List.mem_append.1 ht with ht|ht
    ·exact hw t (List.mem_of_mem_take ht)
    ·rw[List.mem_singleton.1 ht];exact hm.1
   ·rw[Xo]
    have e1:szs [mk (E n) (s0.drop (s0.length-ar (E n)))]=1+szs (s0.drop (s0.length-ar (E n))):=by rw[←hm.2];simp[szs]
    have e2:szs (s0.take (s0.length-ar (E n)))+szs (s0.drop (s0.length-ar (E n)))=n:=by rw[←Xo,List.take_append_drop,hz]
    omega
  ·cases h
theorem sz_pos (t:Tr):1≤t.sz:=by cases t<;>simp[Tr.sz]<;>omega
theorem WA {E:Nat→Po} {n:Nat} {s:List Tr} (h:stk E n=some s):s.length≤n:=by
 have:=(Xq h).2;rw[←this];clear this h
 induction s with
 |nil=>simp
 |cons t r ih=>have:=sz_pos t;simp only[qh,szs,List.map_cons,List.sum_cons]at*;omega
theorem ya {B s n:Nat} {e:TypeId} {w:World} {v:Value} {xs:List Value} (h:w.ownsRow B e s v n xs):∃a c,v=.slice a n c∧n≤c:=by
 rcases h.2 with⟨rfl,h0⟩|⟨g,cap,cur,rfl,h1,h2,h3,h4⟩
 ·exact⟨none,0,by rw[h0],by omega⟩
 ·exact⟨_,_,rfl,h3⟩
theorem zm {P:Program} {ops:Array Oper} {o:Oper} {a:Act} {w:World} {K:Act→World→Prop} {Q:Exit→Act→World→Prop} {E:Prop}
  (hg:o.guard=none) (s x:Operand) (t:TypeId) (hop:o.op=Op.call {callee:=Callee.builtin Builtin.append,args:=#[s,x],argTypes:=#[t,t]})
  (B:Nat) (e:TypeId) (i:TypeInfo) (z:Value) (size bytes:Nat) (h1:P.underlying t=some (.slice e)) (h2:P.info? e=some i) (h3:i.zero=some z) (h4:i.size=size) (h5:i.bytes=bytes) (h6:z.cells.size=size) (h7:0<size)
  (v:Value) (n:Nat) (xs:List Value) (hs:a.eval s=v) (hrow:w.ownsRow B e size v n xs)
  (ad:Addr) (m c:Nat) (news:List Value) (hx:a.eval x=.slice (some ad) m c) (hn:news.length=m*size) (hc:∀j u,news[j]? =some u→w.cell? (ad.add j)=some u) (h1c:∀u∈news,u.oneCell'=true)
  (b1:n+m≤maxLen) (b2:(n+m)*bytes≤140737488355328) (hB:B≤w.heap.size)
  (hK:∀v' w',w'.ownsRow B e size v' (n+m) (xs++news)→w.grownBy w' v.ownBlock→(v'.ownBlock=v.ownBlock∨v'.ownBlock=some w.heap.size)→K (a.put o.dst v') w'):
  if Region.wanted o (yielded ops a.tmps)=true then Oper.wp P o a w K Q else E:=by
 have hw:Region.wanted o (yielded ops a.tmps)=true:=by simp[Region.wanted,hg]
 rw[if_pos hw];obtain⟨v',w',hrun,r1,r2,-,r3⟩:=run_append_own_at (P:=P) w B t o.type e i z size bytes h1 h2 h3 h4 h5 h6 h7 v n xs hrow ad m c news hn hc h1c b1 b2 hB;have hk:=hK v' w' r1 r2 r3;unfold Oper.wp;simp[execOp,hop,resolve,invoke,builtin,hs,hx,hrun,Result.andThen];exact hk
theorem yj {w w':World} {B n s:Nat} {v:Value} {t:TypeId} {xs:List Value} (h:w.ownsRow B t s v n xs) (hb:Below w.heap.size w w'):w'.ownsRow B t s v n xs:=by
 refine⟨h.1,?_⟩;rcases h.2 with h0|⟨g,cap,cur,h1,h2,h3,h4⟩
 ·exact Or.inl h0
 ·exact Or.inr ⟨g,cap,cur,h1,h2,by rw[hb.block g (zu h3)];exact h3,h4⟩
theorem ZB (w:World) (v:Value) (t:TypeId):∀j u,[v][j]? =some u→(w.alloc (.cells #[v] t)).cell? ((⟨w.heap.size,0,none⟩:Addr).add j)=some u:=fun j u h=>by
 rw[Addr.add_mid,Nat.zero_add,za (zi w _) j];simpa using h
theorem WB {E:Nat→Po} {j n:Nat} {s:List Tr} (hs:stk E j=some s) (hj:j<n) (h:opB (E j)=false∨s.length<ar (E j)):∀t,stk E n≠some [t]:=fun t e=>by
 have:stk E (j+1)=none:=by
  simp only[stk,hs,Option.bind_some];rw[if_neg];rintro⟨h1,h2⟩;rcases h with h|h
  ·rw[h]at h1;cases h1
  ·omega
 rw[XI this (by omega)]at e
 cases e
theorem XJ {E:Nat→Po} {j:Nat} {s:List Tr} (hs:stk E j=some s) (h1:opB (E j)=true) (h2:ar (E j)≤s.length):stk E (j+1)=some (s.take (s.length-ar (E j))++[mk (E j) (s.drop (s.length-ar (E j)))]):=by
 simp only[stk,hs,Option.bind_some];rw[if_pos ⟨h1,h2⟩]
theorem Wc (o:Po):ar o≤3:=by unfold ar;split<;>(try split)<;>(try split)<;>(try split)<;>omega
def exB (E:Nat→Po) (n:Nat) (u:Bool):Bool:=if u=true then xo E n else n==0
def nmB (n:List UInt8) (u:Bool):Bool:=if u=true then xl n else n==[]
def yc (x u:Int):Bool:=if u=1 then inR x 0 15 else if u=2 then inR x 0 999999999 else if u=3 then inR x (-999999999) 999999999 else x==0
structure It where
 (k:Int) (n:List UInt8) (nE nF:Nat) (E F:Nat→Po) (K lo hi:Int)
structure Lo where
 (aE aF:Option Addr) (cE cF:Nat)
def It.cells (i:It) (l:Lo):List Value:=[.int .i64 i.k,.string ⟨i.n.toArray⟩,.slice l.aE i.nE l.cE,.slice l.aF i.nF l.cF,.int .i64 i.K,.int .i64 i.lo,.int .i64 i.hi]
theorem It.len (i:It) (l:Lo):(i.cells l).length=7:=rfl
theorem It.one (i:It) (l:Lo):(i.cells l).toArray.all (·.oneCell')=true:=by simp[It.cells,Value.oneCell']
theorem It.at {w:World} {b o:Nat} {i:It} {l:Lo} (h:w.rangeAt b o (i.cells l)):w.cell? ⟨b,o,none⟩=some (.int .i64 i.k)∧w.cell? ⟨b,o+1,none⟩=some (.string ⟨i.n.toArray⟩)∧w.cell? ⟨b,o+2,none⟩=some (.slice l.aE i.nE l.cE)∧w.cell? ⟨b,o+3,none⟩=some (.slice l.aF i.nF l.cF)∧w.cell? ⟨b,o+4,none⟩=some (.int .i64 i.K)∧w.cell? ⟨b,o+5,none⟩=some (.int .i64 i.lo)∧w.cell? ⟨b,o+6,none⟩=some (.int .i64 i.hi):=
 ⟨h 0 _ rfl,h 1 _ rfl,h 2 _ rfl,h 3 _ rfl,h 4 _ rfl,h 5 _ rfl,h 6 _ rfl⟩
structure Pr where
 (n:Nat) (I:Nat→It)
structure yr (w:World) (a:Option Addr) (P:Pr) (L:Nat→Lo):Prop where
 s:zq w a P.n 7 (fun i=>(P.I i).cells (L i))
 e:∀i,i<P.n→zq w (L i).aE (P.I i).nE 3 (fun j=>((P.I i).E j).cells)
 f:∀i,i<P.n→zq w (L i).aF (P.I i).nF 3 (fun j=>((P.I i).F j).cells)
theorem yr.below {w w':World} {a:Option Addr} {P:Pr} {L:Nat→Lo} (h:yr w a P L) (hb:Below w.heap.size w w'):yr w' a P L:=⟨h.s.below hb,fun i hi=>(h.e i hi).below hb,fun i hi=>(h.f i hi).below hb⟩
structure Sh where
 (n e f:Bool) (k lo hi:Int)
def Yn:List Sh:=[⟨false,false,false,0,0,0⟩,⟨true,true,false,0,0,0⟩,⟨false,true,false,0,0,0⟩,⟨false,true,false,0,0,0⟩,⟨false,true,false,3,3,3⟩,⟨false,true,true,0,0,0⟩,⟨false,false,false,1,1,0⟩,⟨false,false,false,2,0,0⟩,⟨false,true,false,0,3,3⟩,⟨false,true,false,2,0,0⟩]
def sh (m:Nat):Sh:=Yn.getD m ⟨false,false,false,0,0,0⟩
theorem TB (m:Nat) (h:m<10):0≤(sh m).k∧(sh m).k≤3∧0≤(sh m).lo∧(sh m).lo≤3∧0≤(sh m).hi∧(sh m).hi≤3:=by
 have:m=0∨m=1∨m=2∨m=3∨m=4∨m=5∨m=6∨m=7∨m=8∨m=9:=by omega
 rcases this with rfl|rfl|rfl|rfl|rfl|rfl|rfl|rfl|rfl|rfl<;>decide
def itB (i:It):Bool:=inR i.k 1 9&&(nmB i.n (sh i.k.toNat).n&&(exB i.E i.nE (sh i.k.toNat).e&&(exB i.F i.nF (sh i.k.toNat).f&&(yc i.K (sh i.k.toNat).k&&(yc i.lo (sh i.k.toNat).lo&&yc i.hi (sh i.k.toNat).hi)))))
def cnt (P:Pr):Nat→Nat
 |0=>0
 |k+1=>cnt P k+((P.I k).nE+(P.I k).nF)
theorem cnt_mono (P:Pr) {k n:Nat} (h:k≤n):cnt P k≤cnt P n:=by
 induction n with
 |zero=>obtain rfl:k=0:=by omega
        exact qn _
 |succ n ih=>
  by_cases e:k=n+1
  ·rw[e];exact qn _
  ·exact qo (ih (by omega)) (by simp only[cnt];omega)
theorem UF (P:Pr) {k n:Nat} (h:k<n):(P.I k).nE+(P.I k).nF≤cnt P n:=by
 have:=cnt_mono P (show k+1≤n from h);simp only[cnt]at this;omega
def prB (P:Pr):Bool:=decide (P.n≤100)&&(decide (cnt P P.n≤2000)&&Zc P.n (fun i=>itB (P.I i)))
theorem Vh {P:Pr} {k:Nat} (hk:k<P.n) (h:itB (P.I k)=false):prB P=false:=by
 simp[prB,xC (f:=fun i=>itB (P.I i)) hk h]
end Go.Proofs.YtbdldkpifanaiaaDoor.Syn
namespace Go.Proofs.YtbdldkpifanaiaaDoor.Mem
open Go Go.RowKit
structure Is where
 (p a b c:Int)
def Is.cells (v:Is):List Value:=[.int .i64 v.p,.int .i64 v.a,.int .i64 v.b,.int .i64 v.c]
theorem Is.at {w:World} {b o:Nat} {v:Is} (h:w.rangeAt b o v.cells):w.cell? ⟨b,o,none⟩=some (.int .i64 v.p)∧w.cell? ⟨b,o+1,none⟩=some (.int .i64 v.a)∧w.cell? ⟨b,o+2,none⟩=some (.int .i64 v.b)∧w.cell? ⟨b,o+3,none⟩=some (.int .i64 v.c):=
 ⟨h 0 _ rfl,h 1 _ rfl,h 2 _ rfl,h 3 _ rfl⟩
theorem Is.len (v:Is):v.cells.length=4:=rfl
theorem Is.one (v:Is):v.cells.toArray.all (·.oneCell')=true:=by simp[Is.cells,Value.oneCell']
structure Co where
 (R S:Int) (n1 n2 n3:Nat) (B1 B2 B3:Nat→Is)
structure Zl (w:World) (a1 a2 a3:Option Addr) (C:Co):Prop where
 b1:zq w a1 C.n1 4 (fun i=>(C.B1 i).cells)
 b2:zq w a2 C.n2 4 (fun i=>(C.B2 i).cells)
 b3:zq w a3 C.n3 4 (fun i=>(C.B3 i).cells)
theorem Zl.below {w w':World} {a1 a2 a3:Option Addr} {C:Co} (h:Zl w a1 a2 a3 C) (hb:Below w.heap.size w w'):Zl w' a1 a2 a3 C:=⟨h.b1.below hb,h.b2.below hb,h.b3.below hb⟩
end Go.Proofs.YtbdldkpifanaiaaDoor.Mem
namespace Go.Proofs.YtbdldkpifanaiaaDoor.Cd
open Go Go.RowKit Mem Syn
attribute [local go_sem ↓] Go.wp_at_zero Go.wp_at_succ
theorem zP {a b:Int} (h:a=b):Ending.returned (.int .i64 a)=.returned (.int .i64 b):=by rw[h]
def xS (k:Int):Nat:=if k=4∨k=5∨k=7∨k=9 then 1 else if k=6 then 3 else 0
def Zq (k:Int):Nat:=if k=7∨k=8 then 1 else 0
def Ws (k:Int):Int:=if k=1 then 0 else if k=4∨k=8 then 1 else 2
theorem xV (k:Int):xS k≤3:=by unfold xS;split<;>(try split)<;>omega
theorem YZ (k:Int):Zq k≤1:=by unfold Zq;split<;>omega
theorem ZO (k:Int) (w:World):Calls Tryd.prog 43 #[.int .i64 k] w fun e w'=>e=.returned (.int .i64 (xS k:Int))∧w'=w:=by
 by_cases h4:k=4
 ·subst h4;go_enter Tryd.func43,Tryd.ntmps43;go_wp2;go_ret;exact⟨rfl,rfl⟩
 by_cases h5:k=5
 ·subst h5;go_enter Tryd.func43,Tryd.ntmps43;go_wp2;go_ret;exact⟨rfl,rfl⟩
 by_cases h7:k=7
 ·subst h7;go_enter Tryd.func43,Tryd.ntmps43;go_wp2;go_ret;exact⟨rfl,rfl⟩
 by_cases h9:k=9
 ·subst h9;go_enter Tryd.func43,Tryd.ntmps43;go_wp2;go_ret;exact⟨rfl,rfl⟩
 by_cases h6:k=6
 ·subst h6;go_enter Tryd.func43,Tryd.ntmps43;go_wp2;go_ret;exact⟨rfl,rfl⟩
 have e4:(k==4)=false:=by simpa using h4
 have e5:(k==5)=false:=by simpa using h5
 have e7:(k==7)=false:=by simpa using h7
 have e9:(k==9)=false:=by simpa using h9
 have e6:(k==6)=false:=by simpa using h6
 go_enter Tryd.func43,Tryd.ntmps43;go_wp2;go_ret;exact⟨zP (by simp[xS,h4,h5,h6,h7,h9]),rfl⟩
theorem Wl (k:Int) (w:World):Calls Tryd.prog 57 #[.int .i64 k] w fun e w'=>e=.returned (.int .i64 (Zq k:Int))∧w'=w:=by
 by_cases h7:k=7
 ·subst h7;go_enter Tryd.func57,Tryd.ntmps57;go_wp2;go_ret;exact⟨rfl,rfl⟩
 by_cases h8:k=8
 ·subst h8;go_enter Tryd.func57,Tryd.ntmps57;go_wp2;go_ret;exact⟨rfl,rfl⟩
 have e7:(k==7)=false:=by simpa using h7
 have e8:(k==8)=false:=by simpa using h8
 go_enter Tryd.func57,Tryd.ntmps57;go_wp2;go_ret;exact⟨zP (by simp[Zq,h7,h8]),rfl⟩
theorem needS (k:Int) (w:World):Calls Tryd.prog 71 #[.int .i64 k] w fun e w'=>e=.returned (.int .i64 (Ws k))∧w'=w:=by
 by_cases h1:k=1
 ·subst h1;go_enter Tryd.func71,Tryd.ntmps71;go_wp2;go_ret;exact⟨rfl,rfl⟩
 by_cases h4:k=4
 ·subst h4;go_enter Tryd.func71,Tryd.ntmps71;go_wp2;go_ret;exact⟨rfl,rfl⟩
 by_cases h8:k=8
 ·subst h8;go_enter Tryd.func71,Tryd.ntmps71;go_wp2;go_ret;exact⟨rfl,rfl⟩
 have e1:(k==1)=false:=by simpa using h1
 have e4:(k==4)=false:=by simpa using h4
 have e8:(k==8)=false:=by simpa using h8
 go_enter Tryd.func71,Tryd.ntmps71;go_wp2;go_ret;exact⟨zP (by simp[Ws,h1,h4,h8]),rfl⟩
def lets (P:Pr):Nat→Nat
 |0=>0
 |k+1=>lets P k+(if (P.I k).k=1 then 1 else 0)
theorem ZC (P:Pr) (k:Nat):lets P k≤k:=by
 induction k with
 |zero=>exact qn _
 |succ k ih=>unfold lets;split<;>omega
theorem letsS (P:Pr) (a:Option Addr) (c m:Nat) (L:Nat→Lo) (w:World) (h:yr w a P L) (hn:P.n≤1048576) (hm:m≤P.n):
  Calls Tryd.prog 56 #[.agg #[.slice a P.n c],.int .i64 (m:Int)] w fun e w'=>e=.returned (.int .i64 (lets P m:Int))∧Below w.heap.size w w':=by
 have H:=Hm h;clear h;obtain⟨N,hN⟩:∃N,N=P.n:=⟨_,rfl⟩;rw[←hN]at hn hm;have HN:=Hm hN;rw[←hN];clear hN;go_enter Tryd.func56,Tryd.ntmps56;go_wp2;go_loopw [5,6] (fun s i wr=>∃k:Nat,k≤m∧i=.int .i64 (k:Int)∧s=.int .i64 (lets P k:Int)∧Hid (wr.heap[w.heap.size]? =some (.cells #[.slice a N c] 54))∧Hid (Below w.heap.size w wr)) (fun _ i _=>m- (intOf i).toNat)
 case atStart=>exact⟨0,Nat.zero_le _,rfl,rfl,zi w _,by unfold Hid;go_grown⟩
 case round=>
  obtain⟨k,hk,rfl,rfl,hA,hb⟩:=hrel;have x0:=za hA.out 0;simp only[qk,ql]at x0;by_cases hlt:k<m
  ·have hkP:k<P.n:=by rw[←HN.out];omega
   rcases H.out.s with h0|⟨b,off,rfl,h0⟩
   ·omega
   obtain⟨e0,-,-,-,-,-,-⟩:=It.at (zt (h0 k hkP) hb.out);clear h0;have k0:(0:Int)≤(k:Int):=by omega
   have k1:(k:Int)<(m:Int):=by omega
   have k2:(k:Int)<(N:Int):=by omega
   have hl:=ZC P k;have hs:Hid (lets P (k+1)=lets P k+(if (P.I k).k=1 then 1 else 0)):=rfl;obtain⟨x,hx⟩:∃x,x=(P.I k).k:=⟨_,rfl⟩;obtain⟨s,hs1⟩:∃s,s=lets P k:=⟨_,rfl⟩;rw[←hx]at e0 hs;rw[←hs1]at hs hl ⊢;clear hx hs1;by_cases h1:x=1
   ·subst h1
    go_wp2;exact⟨⟨k+1,by omega,by go_num,by rw[hs.out];simp,hA,hb⟩,by simp[intOf];omega⟩
   ·have e1:(x==1)=false:=by simpa using h1
    go_wp2;exact⟨⟨k+1,by omega,by go_num,by rw[hs.out,if_neg h1];rfl,hA,hb⟩,by simp[intOf];omega⟩
  ·obtain rfl:k=m:=by omega
   go_wp2;go_ret;exact⟨rfl,hb.out⟩
def rrs (P:Pr):Nat→Nat
 |0=>0
 |k+1=>rrs P k+xS (P.I k).k
def zM (P:Pr):Nat→Nat
 |0=>0
 |k+1=>zM P k+Zq (P.I k).k
theorem Wm (P:Pr) (k:Nat):rrs P k≤3*k:=by
 induction k with
 |zero=>exact qn _
 |succ k ih=>have:=xV (P.I k).k;unfold rrs;omega
theorem yC (P:Pr) (k:Nat):zM P k≤k:=by
 induction k with
 |zero=>exact qn _
 |succ k ih=>have:=YZ (P.I k).k;unfold zM;omega
def reg (P:Pr) (n:Nat):Nat:=if n<P.n∧(P.I n).k=1 then 13+lets P n else 13+lets P P.n+rrs P n
theorem xw (P:Pr) {n:Nat} (h:n≤P.n):reg P n≤13+4*P.n:=by
 have:=ZC P n;have:=ZC P P.n;have:=Wm P n;unfold reg;split<;>omega
theorem Zm (P:Pr) (a:Option Addr) (c m:Nat) (L:Nat→Lo) (w:World) (h:yr w a P L) (hn:P.n≤1048576) (hm:m≤P.n):
  Calls Tryd.prog 42 #[.agg #[.slice a P.n c],.int .i64 (m:Int)] w fun e w'=>e=.returned (.int .i64 (zM P m:Int))∧Below w.heap.size w w':=by
 have H:=Hm h;clear h;obtain⟨N,hN⟩:∃N,N=P.n:=⟨_,rfl⟩;rw[←hN]at hn hm;have HN:=Hm hN;rw[←hN];clear hN;go_enter Tryd.func42,Tryd.ntmps42;go_wp2;go_loopw [5,6] (fun s i wr=>∃k:Nat,k≤m∧i=.int .i64 (k:Int)∧s=.int .i64 (zM P k:Int)∧Hid (wr.heap[w.heap.size]? =some (.cells #[.slice a N c] 54))∧Hid (Below w.heap.size w wr)) (fun _ i _=>m- (intOf i).toNat)
 case atStart=>exact⟨0,Nat.zero_le _,rfl,rfl,zi w _,by unfold Hid;go_grown⟩
 case round=>
  obtain⟨k,hk,rfl,rfl,hA,hb⟩:=hrel;have x0:=za hA.out 0;simp only[qk,ql]at x0;by_cases hlt:k<m
  ·have hkP:k<P.n:=by rw[←HN.out];omega
   rcases H.out.s with h0|⟨b,off,rfl,h0⟩
   ·omega
   obtain⟨e0,-,-,-,-,-,-⟩:=It.at (zt (h0 k hkP) hb.out);clear h0;have k0:(0:Int)≤(k:Int):=by omega
   have k1:(k:Int)<(m:Int):=by omega
   have k2:(k:Int)<(N:Int):=by omega
   have hl:=yC P k;have hs:Hid (zM P (k+1)=zM P k+Zq (P.I k).k):=rfl;obtain⟨x,hx⟩:∃x,x=(P.I k).k:=⟨_,rfl⟩;obtain⟨s,hs1⟩:∃s,s=zM P k:=⟨_,rfl⟩;rw[←hx]at e0 hs;rw[←hs1]at hs hl ⊢;clear hx hs1;have hr:=YZ x;obtain⟨z,hz⟩:∃z,z=Zq x:=⟨_,rfl⟩;have C:Hid (∀w,Calls Tryd.prog 57 #[.int .i64 x] w fun e w'=>e=.returned (.int .i64 (z:Int))∧w'=w):=fun w=>by rw[hz];exact Wl x w
   rw[←hz]at hs hr;clear hz;go_wp2_with (go_at_call 57;refine(C.out _).mono ?_;rintro e w' ⟨rfl,hw⟩;rw[hw];clear hw);exact⟨⟨k+1,by omega,by go_num,by rw[hs.out];go_num,hA,hb⟩,by simp[intOf];omega⟩
  ·obtain rfl:k=m:=by omega
   go_wp2;go_ret;exact⟨rfl,hb.out⟩
theorem Yp (P:Pr) (a:Option Addr) (c m:Nat) (L:Nat→Lo) (w:World) (h:yr w a P L) (hn:P.n≤1048576) (hm:m≤P.n):
  Calls Tryd.prog 41 #[.agg #[.slice a P.n c],.int .i64 (m:Int)] w fun e w'=>e=.returned (.int .i64 (reg P m:Int))∧Below w.heap.size w w':=by
 have H:=Hm h;clear h;have LS:Hid (∀(w':World) (m:Nat),Below w.heap.size w w'→m≤P.n→Calls Tryd.prog 56 #[.agg #[.slice a P.n c],.int .i64 (m:Int)] w' fun e w''=>e=.returned (.int .i64 (lets P m:Int))∧Below w'.heap.size w' w''):=fun w' m hb hm=>letsS P a c m L w' (H.out.below hb) hn hm
 obtain⟨N,hN⟩:∃N,N=P.n:=⟨_,rfl⟩;have hl1:=ZC P m;have hl2:=ZC P N;rw[←hN]at hn hm LS;have HR:Hid (reg P m=if m<N∧(P.I m).k=1 then 13+lets P m else 13+lets P N+rrs P m):=by unfold Hid;rw[hN];rfl
 have HN:=Hm hN;rw[←hN];clear hN;obtain⟨w1,hw1⟩:∃w1,w1=w.alloc (.cells #[.slice a N c] 54):=⟨_,rfl⟩;have B1:Hid (Below w.heap.size w w1):=by rw[hw1];exact zf (Below.refl _ _) _
 have K1:Hid (w1.heap[w.heap.size]? =some (.cells #[.slice a N c] 54)):=by rw[hw1];exact zi _ _
 obtain⟨lm,hlm⟩:∃x,x=lets P m:=⟨_,rfl⟩;obtain⟨lN,hlN⟩:∃x,x=lets P N:=⟨_,rfl⟩;have CM:=Hm (LS.out w1 m B1.out hm);have CN:=Hm (LS.out w1 N B1.out (qn _));rw[←hlm]at CM HR hl1;rw[←hlN]at CN HR hl2;clear hlm hlN LS;have x0:=za K1.out 0;simp only[qk,ql]at x0;have HW1:=Hm hw1;by_cases hlt:m<N
 ·have hkP:m<P.n:=by rw[←HN.out];omega
  have HS:Hid (∃b off,a=some ⟨b,off,none⟩∧∀k W,k<P.n→Below w.heap.size w W→W.cell? ⟨b,off+k*7,none⟩=some (.int .i64 (P.I k).k)):=by
   rcases H.out.s with h0|⟨b,off,h1,h0⟩
   ·omega
   ·exact⟨b,off,h1,fun k W hk hW=>(It.at (zt (h0 k hk) hW)).1⟩
  obtain⟨b,off,ha,hcell⟩:=HS.out;have CELL:=Hm hcell;have e0:=hcell m w1 hkP B1.out;clear HS hcell;obtain⟨x,hx⟩:∃x,x=(P.I m).k:=⟨_,rfl⟩;rw[←hx]at e0 HR;have HX:=Hm hx;clear hx;have k0:(0:Int)≤(m:Int):=by omega
  have k1:(m:Int)<(N:Int):=by omega
  by_cases h1:x=1
  ·have HR':Hid (reg P m=13+lm):=by unfold Hid;rw[HR.out,if_pos ⟨hlt,h1⟩]
   clear HR;subst h1;subst ha;go_enter Tryd.func41,Tryd.ntmps41;go_upto_region 1 with fail;rw[←HW1.out];clear hw1 HW1;go_wp2_with (go_at_call 56;refine CM.out.mono ?_);rintro e w2 ⟨rfl,hb2⟩;have B2:=Hm (zg B1.out hb2);clear hb2;go_wp2;go_ret;exact⟨zP (by rw[HR'.out];go_num),B2.out⟩
  ·have HR':Hid (reg P m=13+lN+rrs P m):=by unfold Hid;rw[HR.out,if_neg (fun h=>h1 h.2)]
   have e1:(x==1)=false:=by simpa using h1
   clear HR;subst ha;go_enter Tryd.func41,Tryd.ntmps41;go_upto_region 1 with fail;rw[←HW1.out];clear hw1 HW1;go_wp2_with (go_at_call 56;refine CN.out.mono ?_);rintro e w2 ⟨rfl,hb2⟩;have B2:=Hm (zg B1.out hb2);have K2:=Hm (ze K1.out hb2);clear hb2 x0 e0;go_wp2;go_loopw [5,6] (fun s i wr=>∃k:Nat,k≤m∧i=.int .i64 (k:Int)∧s=.int .i64 ((13+lN+rrs P k:Nat):Int)∧Hid (wr.heap[w.heap.size]? =some (.cells #[.slice (some ⟨b,off,none⟩) N c] 54))∧Hid (Below w.heap.size w wr)) (fun _ i _=>m- (intOf i).toNat)
   case atStart=>exact⟨0,Nat.zero_le _,rfl,by go_num,K2,B2⟩
   case round=>
    obtain⟨k,hk,rfl,rfl,hA,hb⟩:=hrel;have x0:=za hA.out 0;simp only[qk,ql]at x0;by_cases hlt2:k<m
    ·have hkP:k<P.n:=by rw[←HN.out];omega
     have e0:=CELL.out k _ hkP hb.out;have k0:(0:Int)≤(k:Int):=by omega
     have k1:(k:Int)<(m:Int):=by omega
     have k2:(k:Int)<(N:Int):=by omega
     have hl:=Wm P k;have hs:Hid (rrs P (k+1)=rrs P k+xS (P.I k).k):=rfl;obtain⟨x,hx⟩:∃x,x=(P.I k).k:=⟨_,rfl⟩;obtain⟨s,hs1⟩:∃s,s=rrs P k:=⟨_,rfl⟩;rw[←hx]at e0 hs;rw[←hs1]at hs hl ⊢;clear hx hs1;have hr:=xV x;obtain⟨z,hz⟩:∃z,z=xS x:=⟨_,rfl⟩;have C:Hid (∀w,Calls Tryd.prog 43 #[.int .i64 x] w fun e w'=>e=.returned (.int .i64 (z:Int))∧w'=w):=fun w=>by rw[hz];exact ZO x w
     rw[←hz]at hs hr;clear hz;go_wp2_with (go_at_call 43;refine(C.out _).mono ?_;rintro e w' ⟨rfl,hw⟩;rw[hw];clear hw);exact⟨⟨k+1,by omega,by go_num,by rw[hs.out];go_num,hA,hb⟩,by simp[intOf];omega⟩
    ·obtain rfl:k=m:=by omega
     go_wp2;go_ret;exact⟨zP (by rw[HR'.out]),hb.out⟩
 ·obtain rfl:m=N:=by omega
  have HR':Hid (reg P m=13+lN+rrs P m):=by unfold Hid;rw[HR.out,if_neg (fun h=>hlt h.1)]
  have k1:decide ((m:Int)<(m:Int))=false:=by simp
  clear HR;go_enter Tryd.func41,Tryd.ntmps41;go_upto_region 1 with fail;rw[←HW1.out];clear hw1 HW1;go_wp2_with (go_at_call 56;refine CN.out.mono ?_);rintro e w2 ⟨rfl,hb2⟩;have B2:=Hm (zg B1.out hb2);have K2:=Hm (ze K1.out hb2);clear hb2 x0 k1;go_wp2;go_loopw [5,6] (fun s i wr=>∃k:Nat,k≤m∧i=.int .i64 (k:Int)∧s=.int .i64 ((13+lN+rrs P k:Nat):Int)∧Hid (wr.heap[w.heap.size]? =some (.cells #[.slice a m c] 54))∧Hid (Below w.heap.size w wr)) (fun _ i _=>m- (intOf i).toNat)
  case atStart=>exact⟨0,Nat.zero_le _,rfl,by go_num,K2,B2⟩
  case round=>
   obtain⟨k,hk,rfl,rfl,hA,hb⟩:=hrel;have x0:=za hA.out 0;simp only[qk,ql]at x0;by_cases hlt2:k<m
   ·have hkP:k<P.n:=by rw[←HN.out];omega
    rcases H.out.s with h0|⟨b,off,rfl,h0⟩
    ·omega
    obtain⟨e0,-,-,-,-,-,-⟩:=It.at (zt (h0 k hkP) hb.out);clear h0;have k0:(0:Int)≤(k:Int):=by omega
    have k1:(k:Int)<(m:Int):=by omega
    have hl:=Wm P k;have hs:Hid (rrs P (k+1)=rrs P k+xS (P.I k).k):=rfl;obtain⟨x,hx⟩:∃x,x=(P.I k).k:=⟨_,rfl⟩;obtain⟨s,hs1⟩:∃s,s=rrs P k:=⟨_,rfl⟩;rw[←hx]at e0 hs;rw[←hs1]at hs hl ⊢;clear hx hs1;have hr:=xV x;obtain⟨z,hz⟩:∃z,z=xS x:=⟨_,rfl⟩;have C:Hid (∀w,Calls Tryd.prog 43 #[.int .i64 x] w fun e w'=>e=.returned (.int .i64 (z:Int))∧w'=w):=fun w=>by rw[hz];exact ZO x w
    rw[←hz]at hs hr;clear hz;go_wp2_with (go_at_call 43;refine(C.out _).mono ?_;rintro e w' ⟨rfl,hw⟩;rw[hw];clear hw);exact⟨⟨k+1,by omega,by go_num,by rw[hs.out];go_num,hA,hb⟩,by simp[intOf];omega⟩
   ·obtain rfl:k=m:=by omega
    go_wp2;go_ret;exact⟨zP (by rw[HR'.out]),hb.out⟩
def nrF (P:Pr) (nm:List UInt8):Nat→Nat→Nat
 |0,_=>0
 |f+1,i=>if (P.I i).k=1∧((P.I i).n==nm)=true then reg P i else nrF P nm f (i+1)
def zG (P:Pr) (nm:List UInt8):Nat:=nrF P nm P.n 0
theorem Ud (P:Pr) (a:Option Addr) (c:Nat) (nm:List UInt8) (L:Nat→Lo) (w:World) (h:yr w a P L) (hn:P.n≤1048576):
  Calls Tryd.prog 61 #[.agg #[.slice a P.n c],.string ⟨nm.toArray⟩] w fun e w'=>e=.returned (.int .i64 (zG P nm:Int))∧Below w.heap.size w w':=by
 have H:=Hm h;clear h;have RS:Hid (∀(w':World) (m:Nat),Below w.heap.size w w'→m<P.n→Calls Tryd.prog 41 #[.agg #[.slice a P.n c],.int .i64 (m:Int)] w' fun e w''=>e=.returned (.int .i64 (reg P m:Int))∧Below w'.heap.size w' w''):=fun w' m hb hm=>Yp P a c m L w' (H.out.below hb) hn (qq hm)
 obtain⟨R,hR⟩:∃R,R=zG P nm:=⟨_,rfl⟩;have HR:Hid (nrF P nm P.n 0=R):=hR.symm;rw[←hR];clear hR;obtain⟨N,hN⟩:∃N,N=P.n:=⟨_,rfl⟩;rw[←hN]at hn RS HR;have HN:=Hm hN;rw[←hN];clear hN;go_enter Tryd.func61,Tryd.ntmps61;go_wp2;go_loopw [5] (fun i wr=>∃k:Nat,k≤N∧i=.int .i64 (k:Int)∧Hid (nrF P nm (N-k) k=R)∧Hid (wr.heap[w.heap.size]? =some (.cells #[.slice a N c] 54))∧Hid (Below w.heap.size w wr)) (fun i _=>N- (intOf i).toNat)
 case atStart=>exact⟨0,Nat.zero_le _,rfl,HR,zi w _,by unfold Hid;go_grown⟩
 case round=>
  obtain⟨k,hk,rfl,hs,hA,hb⟩:=hrel;have x0:=za hA.out 0;simp only[qk,ql]at x0;by_cases hlt:k<N
  ·have hkP:k<P.n:=by rw[←HN.out];omega
   have HS:Hid (∃b off,a=some ⟨b,off,none⟩∧wr.cell? ⟨b,off+k*7,none⟩=some (.int .i64 (P.I k).k)∧wr.cell? ⟨b,off+k*7+1,none⟩=some (.string ⟨(P.I k).n.toArray⟩)):=by
    rcases H.out.s with h0|⟨b,off,h1,h0⟩
    ·omega
    ·exact⟨b,off,h1,(It.at (zt (h0 k hkP) hb.out)).1,(It.at (zt (h0 k hkP) hb.out)).2.1⟩
   obtain⟨b,off,ha,e0,e1⟩:=HS.out;have CR:=Hm (RS.out _ k hb.out hlt);rw[show N-k=(N- (k+1))+1 by omega,nrF]at hs;obtain⟨z,hz⟩:∃z,z=reg P k:=⟨_,rfl⟩;rw[←hz]at CR hs;clear hz HS;subst ha;obtain⟨x,hx⟩:∃x,x=(P.I k).k:=⟨_,rfl⟩;obtain⟨y,hy⟩:∃y,y=(P.I k).n:=⟨_,rfl⟩;rw[←hx]at e0 hs;rw[←hy]at e1 hs;clear hx hy;have k0:(0:Int)≤(k:Int):=by omega
   have k1:(k:Int)<(N:Int):=by omega
   by_cases h1:x=1
   ·subst h1
    cases he:(y==nm)with
    |true=>
     rw[if_pos ⟨rfl,he⟩]at hs;go_wp2_with (go_at_call 41;refine CR.out.mono ?_);rintro e w2 ⟨rfl,hb2⟩;have B2:=Hm (zg hb.out hb2);clear hb2;go_wp2;go_ret;exact⟨zP (by rw[hs.out]),B2.out⟩
    |false=>
     rw[if_neg (by rw[he];simp)]at hs;go_wp2;exact⟨⟨k+1,by omega,by go_num,hs,hA,hb⟩,by simp[intOf];omega⟩
   ·have e2:(x==1)=false:=by simpa using h1
    rw[if_neg (fun h=>h1 h.1)]at hs;go_wp2;exact⟨⟨k+1,by omega,by go_num,hs,hA,hb⟩,by simp[intOf];omega⟩
  ·obtain rfl:k=N:=by omega
   have k1:decide ((k:Int)<(k:Int))=false:=by simp
   rw[Nat.sub_self,nrF]at hs;go_wp2;go_ret;exact⟨zP (by rw[←hs.out];rfl),hb.out⟩
def ltF (P:Pr) (T:Nat→Int) (m:Nat) (nm:List UInt8):Nat→Nat→Nat→Int
 |0,_,_=>0
 |f+1,i,k=>if k<m then (if (P.I i).k=1 then (if (P.I i).n==nm then T k else ltF P T m nm f (i+1) (k+1))else ltF P T m nm f (i+1) k)else 0
def yv (P:Pr) (T:Nat→Int) (m:Nat) (nm:List UInt8):Int:=ltF P T m nm P.n 0 0
theorem Uj (P:Pr) (a:Option Addr) (c:Nat) (nm:List UInt8) (T:Nat→Int) (t:Option Addr) (m d:Nat) (L:Nat→Lo) (w:World) (h:yr w a P L) (hn:P.n≤1048576) (ht:zq w t m 1 (fun i=>[.int .i64 (T i)])) (hm:m≤1048576):
  Calls Tryd.prog 84 #[.agg #[.slice a P.n c],.slice t m d,.string ⟨nm.toArray⟩] w fun e w'=>e=.returned (.int .i64 (yv P T m nm))∧Below w.heap.size w w':=by
 have H:=Hm h;have HT:=Hm ht;clear h ht;obtain⟨R,hR⟩:∃R,R=yv P T m nm:=⟨_,rfl⟩;have HR:Hid (ltF P T m nm P.n 0 0=R):=hR.symm;rw[←hR];clear hR;obtain⟨N,hN⟩:∃N,N=P.n:=⟨_,rfl⟩;rw[←hN]at hn HR;have HN:=Hm hN;rw[←hN];clear hN;go_enter Tryd.func84,Tryd.ntmps84;go_wp2;go_loopw [7,8] (fun kk i wr=>∃k q:Nat,k≤N∧q≤m∧i=.int .i64 (k:Int)∧kk=.int .i64 (q:Int)∧Hid (ltF P T m nm (N-k) k q=R)∧Hid (wr.heap[w.heap.size]? =some (.cells #[.slice a N c] 54))∧Hid (Below w.heap.size w wr)) (fun _ i _=>N- (intOf i).toNat)
 case atStart=>exact⟨0,0,Nat.zero_le _,Nat.zero_le _,rfl,rfl,HR,zi w _,by unfold Hid;go_grown⟩
 case round=>
  obtain⟨k,q,hk,hq,rfl,rfl,hs,hA,hb⟩:=hrel;have x0:=za hA.out 0;simp only[qk,ql]at x0;by_cases hlt:k<N
  ·have hkP:k<P.n:=by rw[←HN.out];omega
   have k0:(0:Int)≤(k:Int):=by omega
   have k1:(k:Int)<(N:Int):=by omega
   rw[show N-k=(N- (k+1))+1 by omega,ltF]at hs;by_cases hqm:q<m
   ·have HS:Hid (∃b off,a=some ⟨b,off,none⟩∧wr.cell? ⟨b,off+k*7,none⟩=some (.int .i64 (P.I k).k)∧wr.cell? ⟨b,off+k*7+1,none⟩=some (.string ⟨(P.I k).n.toArray⟩)):=by
     rcases H.out.s with h0|⟨b,off,h1,h0⟩
     ·omega
     ·exact⟨b,off,h1,(It.at (zt (h0 k hkP) hb.out)).1,(It.at (zt (h0 k hkP) hb.out)).2.1⟩
    have HQ:Hid (∃b off,t=some ⟨b,off,none⟩∧wr.cell? ⟨b,off+q,none⟩=some (.int .i64 (T q))):=by
     rcases HT.out with h0|⟨b,off,h1,h0⟩
     ·omega
     ·refine⟨b,off,h1,?_⟩
      have:=zt (h0 q hqm) hb.out 0 _ rfl;rw[Nat.mul_one]at this;exact this
    rw[if_pos hqm]at hs;obtain⟨b,off,ha,e0,e1⟩:=HS.out;obtain⟨b',off',ha',e2⟩:=HQ.out;clear HS HQ;obtain⟨x,hx⟩:∃x,x=(P.I k).k:=⟨_,rfl⟩;obtain⟨y,hy⟩:∃y,y=(P.I k).n:=⟨_,rfl⟩;obtain⟨z,hz⟩:∃z,z=T q:=⟨_,rfl⟩;rw[←hx]at e0 hs;rw[←hy]at e1 hs;rw[←hz]at e2 hs;clear hx hy hz;subst ha;subst ha';have q0:(0:Int)≤(q:Int):=by omega
    have q1:(q:Int)<(m:Int):=by omega
    by_cases h1:x=1
    ·subst h1
     rw[if_pos rfl]at hs
     cases he:(y==nm)with
     |true=>
      rw[if_pos he]at hs;go_wp2;go_ret;exact⟨zP hs.out,hb.out⟩
     |false=>
      rw[if_neg (by rw[he];simp)]at hs;go_wp2;exact⟨⟨k+1,q+1,by omega,by omega,by go_num,by go_num,hs,hA,hb⟩,by simp[intOf];omega⟩
    ·have e3:(x==1)=false:=by simpa using h1
     rw[if_neg h1]at hs;go_wp2;exact⟨⟨k+1,q,by omega,by omega,by go_num,rfl,hs,hA,hb⟩,by simp[intOf];omega⟩
   ·rw[if_neg hqm]at hs
    have q1:decide ((q:Int)<(m:Int))=false:=by simp;omega
    go_wp2;go_ret;exact⟨zP hs.out,hb.out⟩
  ·obtain rfl:k=N:=by omega
   have k1:decide ((k:Int)<(k:Int))=false:=by simp
   rw[Nat.sub_self,ltF]at hs;go_wp2;go_ret;exact⟨zP hs.out,hb.out⟩
end Go.Proofs.YtbdldkpifanaiaaDoor.Cd
