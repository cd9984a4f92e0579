import Derived.OrdersHeld
import Derived.Deep.MidRow
import Derived.Laws.MakeOwn
import Derived.Below
import Derived.Handy
import Derived.Deep.Draws
import Derived.Test.YtbdldkpifanaiaaDoorProg
import Derived.WalkKit
import Derived.WalkSpells
import Derived.WalkLawsBesides
import Derived.Deep.QuietTactic
import Derived.BigQuiet
import Derived.Deep.RegionHeld3
import Derived.Deep.DrawnRows
set_option linter.unusedVariables false
set_option linter.unusedSimpArgs false
open Nat renaming le_refl → qn
namespace Go.Proofs.YtbdldkpifanaiaaDoor.Mem
open Go Go.RowKit
def zq (w:World) (a:Option Addr) (n k:Nat) (C:Nat→List Value):Prop:=
 n=0∨∃b off,a=some ⟨b,off,none⟩∧∀i,i<n→w.rangeAt b (off+i*k) (C i)
theorem Hm {p:Prop} (h:p):Hid p:=h
theorem below_drewN' {B:Nat} {a w:World} (h:Below B a w) (n:Nat):Below B a (w.drewN n):=h.trans ⟨rfl,rfl,rfl,qn _,fun _ _=>rfl⟩
theorem zg {w W w1:World} (h:Below w.heap.size w W) (hb:Below W.heap.size W w1):Below w.heap.size w w1:=h.trans (hb.mono h.size)
theorem TO {W w1:World} (hb:Below W.heap.size W w1):(∀b o,b<W.heap.size→w1.cell? ⟨b,o,none⟩=W.cell? ⟨b,o,none⟩)∧(∀b o,b<W.heap.size→w1.frozen? ⟨b,o,none⟩=W.frozen? ⟨b,o,none⟩):=
 ⟨fun b o h=>hb.cell (p:=⟨b,o,none⟩) h,fun b o h=>hb.frozen (p:=⟨b,o,none⟩) h⟩
theorem lt_of_cell {w:World} {b o:Nat} {v:Value} (h:w.cell? ⟨b,o,none⟩=some v):b<w.heap.size:=World.block_lt_of_cell? w _ h
theorem zt {w w':World} {b o:Nat} {cs:List Value} (h:w.rangeAt b o cs) (hb:Below w.heap.size w w'):w'.rangeAt b o cs:=fun j v hv=>by
 have:=h j v hv;rw[hb.cell (p:=⟨b,o+j,none⟩) (lt_of_cell this)];exact this
theorem zw {W w1:World} (hb:Below W.heap.size W w1) {p:Addr} {v:Value} (h:W.cell? p=some v):w1.cell? p=some v:=by
 rw[hb.cell (World.block_lt_of_cell? W _ h)];exact h
theorem zq.below {w w':World} {a:Option Addr} {n k:Nat} {C:Nat→List Value} (h:zq w a n k C) (hb:Below w.heap.size w w'):zq w' a n k C:=by
 rcases h with h|⟨b,off,ha,h⟩
 ·exact Or.inl h
 ·exact Or.inr ⟨b,off,ha,fun i hi=>zt (h i hi) hb⟩
theorem Below.setCells' {B:Nat} {a:World} (b:Nat) (hB:B≤b):∀(vs:List Value) (o:Nat) (w:World),Below B a w→Below B a (w.setCells b o vs)
 |[],_,_,h=>h
 |v::r,o,w,h=>Below.setCells' b hB r (o+1) _ (h.setCell (p:=⟨b,o,none⟩) hB v)
theorem ZA {w:World} {b o:Nat} {cs:List Value} (h:w.rangeAt b o cs) {p:Addr} (hne:p.block≠b) (v:Value):(w.setCell p v).rangeAt b o cs:=fun j u hu=>by
 rw[World.cell?_setCell_other _ _ _ _ (fun e=>hne (by rw[e]))];exact h j u hu
theorem zy {w W:World} (h:Below w.heap.size w W) (p:Addr) (hp:w.heap.size≤p.block) (v:Value):Below w.heap.size w (W.setCell p v):=h.setCell hp v
theorem yt (w:World) (p:Addr) (v:Value):(w.setCell p v).heap.size=w.heap.size:=by simp[World.setCell]
theorem za {w:World} {g:Nat} {cs:Array Value} {t:TypeId} {fr:Nat×Nat} (h:w.heap[g]? =some (.cells cs t fr)) (i:Nat):w.cell? ⟨g,i,none⟩=cs[i]?:=by simp[World.cell?,h]
theorem cl0 {w:World} {g:Nat} {v0:Value} {l:List Value} {t:TypeId} {fr:Nat×Nat} (h:w.heap[g]? =some (.cells (v0::l).toArray t fr)):w.cell? ⟨g,0,none⟩=some v0:=(za h 0).trans rfl
theorem cl1 {w:World} {g:Nat} {v0 v1:Value} {l:List Value} {t:TypeId} {fr:Nat×Nat} (h:w.heap[g]? =some (.cells (v0::v1::l).toArray t fr)):w.cell? ⟨g,1,none⟩=some v1:=(za h 1).trans rfl
theorem cl2 {w:World} {g:Nat} {v0 v1 v2:Value} {l:List Value} {t:TypeId} {fr:Nat×Nat} (h:w.heap[g]? =some (.cells (v0::v1::v2::l).toArray t fr)):w.cell? ⟨g,2,none⟩=some v2:=(za h 2).trans rfl
theorem cl3 {w:World} {g:Nat} {v0 v1 v2 v3:Value} {l:List Value} {t:TypeId} {fr:Nat×Nat} (h:w.heap[g]? =some (.cells (v0::v1::v2::v3::l).toArray t fr)):w.cell? ⟨g,3,none⟩=some v3:=(za h 3).trans rfl
theorem cl4 {w:World} {g:Nat} {v0 v1 v2 v3 v4:Value} {l:List Value} {t:TypeId} {fr:Nat×Nat} (h:w.heap[g]? =some (.cells (v0::v1::v2::v3::v4::l).toArray t fr)):w.cell? ⟨g,4,none⟩=some v4:=(za h 4).trans rfl
theorem cl5 {w:World} {g:Nat} {v0 v1 v2 v3 v4 v5:Value} {l:List Value} {t:TypeId} {fr:Nat×Nat} (h:w.heap[g]? =some (.cells (v0::v1::v2::v3::v4::v5::l).toArray t fr)):w.cell? ⟨g,5,none⟩=some v5:=(za h 5).trans rfl
theorem cl6 {w:World} {g:Nat} {v0 v1 v2 v3 v4 v5 v6:Value} {l:List Value} {t:TypeId} {fr:Nat×Nat} (h:w.heap[g]? =some (.cells (v0::v1::v2::v3::v4::v5::v6::l).toArray t fr)):w.cell? ⟨g,6,none⟩=some v6:=(za h 6).trans rfl
theorem cl9 {w:World} {g:Nat} {v0 v1 v2 v3 v4 v5 v6:Value} {l:List Value} {t:TypeId} {fr:Nat×Nat} (h:w.heap[g]? =some (.cells (v0::v1::v2::v3::v4::v5::v6::l).toArray t fr)):w.cell? ⟨g,0,none⟩=some v0∧w.cell? ⟨g,1,none⟩=some v1∧w.cell? ⟨g,2,none⟩=some v2∧w.cell? ⟨g,3,none⟩=some v3∧w.cell? ⟨g,4,none⟩=some v4∧w.cell? ⟨g,5,none⟩=some v5∧w.cell? ⟨g,6,none⟩=some v6:=⟨cl0 h,cl1 h,cl2 h,cl3 h,cl4 h,cl5 h,cl6 h⟩
theorem tK {P:Program} {md:Region.Mode} {ops:Array Oper} {Q:Exit→Act→World→Prop} {S:World→Prop} (i:Nat) {oi:Oper} (v:Value) {fuel:Nat} {listed:Array Bool} {a:Act} {w:World} (hi:ops[i]? =some oi)
  (hs:(Region.noSelect ops&&Region.free md ops listed i&&(Region.ready md ops listed).contains i)=true)
  (hQ:∀c a w,Q (.panic c) (a.put oi.dst v) w→Q (.panic c) a w) (hc:Region.wanted oi (yielded ops a.tmps)=true) (hy:∀w,S w→(execOp a.eval oi).run P w=.ok (.value v) w) (hS:S w)
  (h:wpAnyH P md ops Q S fuel (listed.setIfInBounds i true) (a.put oi.dst v) w):wpAnyH P md ops Q S (fuel+1) listed a w:=by
 simp only[Bool.and_eq_true]at hs;exact wpAnyH_take hi hs.1.1 hs.1.2 hs.2 hQ (Or.inl ⟨hc,hy⟩) hS h
theorem zb {w:World} {g:Nat} {cs:Array Value} {t:TypeId} (h:w.heap[g]? =some (.cells cs t (0,0))) (i:Nat):w.frozen? ⟨g,i,none⟩=false:=by simp[World.frozen?,h]
theorem zk {w:World} {g:Nat} {cs:Array Value} {t:TypeId} {fr:Nat×Nat} (h:w.heap[g]? =some (.cells cs t fr)) (i:Nat) (v:Value):(w.setCell ⟨g,i,none⟩ v).heap[g]? =some (.cells (cs.setIfInBounds i v) t fr):=by
 simp[World.setCell,Array.getElem?_modify,h]
theorem zd {w:World} {g:Nat} {o:Obj} (h:w.heap[g]? =some o) {p:Addr} (hne:g≠p.block) (v:Value):(w.setCell p v).heap[g]? =some o:=by
 rw[Below.heap_setCell _ _ _ _ hne];exact h
theorem zu {w:World} {g:Nat} {o:Obj} (h:w.heap[g]? =some o):g<w.heap.size:=(Array.getElem?_eq_some_iff.1 h).1
theorem ze {w w':World} {g:Nat} {o:Obj} (h:w.heap[g]? =some o) (hb:Below w.heap.size w w'):w'.heap[g]? =some o:=by rw[hb.block g (zu h)];exact h
theorem zh {w:World} {g:Nat} {o:Obj} (h:w.heap[g]? =some o) (o':Obj):(w.alloc o').heap[g]? =some o:=by rw[Below.heap_alloc _ _ _ (zu h)];exact h
theorem zi (w:World) (o:Obj):(w.alloc o).heap[w.heap.size]? =some o:=by show(w.heap.push o)[w.heap.size]? =some o;simp
theorem zx (w:World) (o o':Obj):((w.alloc o').alloc o).heap[w.heap.size+1]? =some o:=by have:=zi (w.alloc o') o;simpa using this
def Zc:Nat→(Nat→Bool)→Bool
 |0,_=>true
 |n+1,f=>Zc n f&&f n
theorem xC {n:Nat} {f:Nat→Bool} {k:Nat} (hk:k<n) (h:f k=false):Zc n f=false:=by
 induction n with
 |zero=>omega
 |succ m ih=>
  by_cases e:k=m
  ·subst e;simp[Zc,h]
  ·simp[Zc,ih (by omega)]
theorem Z6 {k:Nat} {f:Nat→Bool} (h:Zc k f=true) (h':f k=true):Zc (k+1) f=true:=by simp[Zc,h,h']
structure Veh where
 (a b x y o c h:Int)
structure Req where
 (a b x y o c h x' y' o' c' h':Int)
structure Rd where
 (a b t:Int)
def Veh.cells (v:Veh):List Value:=[.int .i64 v.a,.int .i64 v.b,.int .i64 v.x,.int .i64 v.y,.int .i64 v.o,.int .i64 v.c,.int .i64 v.h]
def Req.cells (q:Req):List Value:=[.int .i64 q.a,.int .i64 q.b,.int .i64 q.x,.int .i64 q.y,.int .i64 q.o,.int .i64 q.c,.int .i64 q.h,.int .i64 q.x',.int .i64 q.y',.int .i64 q.o',.int .i64 q.c',.int .i64 q.h']
def Rd.cells (r:Rd):List Value:=[.int .i64 r.a,.int .i64 r.b,.int .i64 r.t]
theorem Veh.at {w:World} {b o:Nat} {v:Veh} (h:w.rangeAt b o v.cells):w.cell? ⟨b,o,none⟩=some (.int .i64 v.a)∧w.cell? ⟨b,o+1,none⟩=some (.int .i64 v.b)∧w.cell? ⟨b,o+2,none⟩=some (.int .i64 v.x)∧w.cell? ⟨b,o+3,none⟩=some (.int .i64 v.y)∧w.cell? ⟨b,o+4,none⟩=some (.int .i64 v.o)∧w.cell? ⟨b,o+5,none⟩=some (.int .i64 v.c)∧w.cell? ⟨b,o+6,none⟩=some (.int .i64 v.h):=
 ⟨h 0 _ rfl,h 1 _ rfl,h 2 _ rfl,h 3 _ rfl,h 4 _ rfl,h 5 _ rfl,h 6 _ rfl⟩
theorem Veh.len (v:Veh):v.cells.length=7:=rfl
theorem Veh.one (v:Veh):v.cells.toArray.all (·.oneCell')=true:=by simp[Veh.cells,Value.oneCell']
theorem Req.at {w:World} {b o:Nat} {v:Req} (h:w.rangeAt b o v.cells):w.cell? ⟨b,o,none⟩=some (.int .i64 v.a)∧w.cell? ⟨b,o+1,none⟩=some (.int .i64 v.b)∧w.cell? ⟨b,o+2,none⟩=some (.int .i64 v.x)∧w.cell? ⟨b,o+3,none⟩=some (.int .i64 v.y)∧w.cell? ⟨b,o+4,none⟩=some (.int .i64 v.o)∧w.cell? ⟨b,o+5,none⟩=some (.int .i64 v.c)∧w.cell? ⟨b,o+6,none⟩=some (.int .i64 v.h)∧w.cell? ⟨b,o+7,none⟩=some (.int .i64 v.x')∧w.cell? ⟨b,o+8,none⟩=some (.int .i64 v.y')∧w.cell? ⟨b,o+9,none⟩=some (.int .i64 v.o')∧w.cell? ⟨b,o+10,none⟩=some (.int .i64 v.c')∧w.cell? ⟨b,o+11,none⟩=some (.int .i64 v.h'):=
 ⟨h 0 _ rfl,h 1 _ rfl,h 2 _ rfl,h 3 _ rfl,h 4 _ rfl,h 5 _ rfl,h 6 _ rfl,h 7 _ rfl,h 8 _ rfl,h 9 _ rfl,h 10 _ rfl,h 11 _ rfl⟩
theorem Req.len (v:Req):v.cells.length=12:=rfl
theorem Req.one (v:Req):v.cells.toArray.all (·.oneCell')=true:=by simp[Req.cells,Value.oneCell']
theorem Rd.at {w:World} {b o:Nat} {v:Rd} (h:w.rangeAt b o v.cells):w.cell? ⟨b,o,none⟩=some (.int .i64 v.a)∧w.cell? ⟨b,o+1,none⟩=some (.int .i64 v.b)∧w.cell? ⟨b,o+2,none⟩=some (.int .i64 v.t):=
 ⟨h 0 _ rfl,h 1 _ rfl,h 2 _ rfl⟩
theorem Rd.len (v:Rd):v.cells.length=3:=rfl
theorem Rd.one (v:Rd):v.cells.toArray.all (·.oneCell')=true:=by simp[Rd.cells,Value.oneCell']
structure In where
 (nV nQ nR:Nat) (V:Nat→Veh) (Q:Nat→Req) (R:Nat→Rd)
structure InAt (w:World) (a1 a2 a3:Option Addr) (I:In):Prop where
 v:zq w a1 I.nV 7 (fun i=>(I.V i).cells)
 q:zq w a2 I.nQ 12 (fun i=>(I.Q i).cells)
 r:zq w a3 I.nR 3 (fun i=>(I.R i).cells)
theorem InAt.below {w w':World} {a1 a2 a3:Option Addr} {I:In} (h:InAt w a1 a2 a3 I) (hb:Below w.heap.size w w'):InAt w' a1 a2 a3 I:=⟨h.v.below hb,h.q.below hb,h.r.below hb⟩
theorem zf {w W:World} (h:Below w.heap.size w W) (o:Obj):Below w.heap.size w (W.alloc o):=h.alloc h.size o
end Go.Proofs.YtbdldkpifanaiaaDoor.Mem
namespace Go.Proofs.YtbdldkpifanaiaaDoor.Syn
open Go Go.RowKit Mem
structure Po where
 (k v:Int) (n:List UInt8)
instance : Inhabited Po:=⟨⟨0,0,[]⟩⟩
def Po.cells (o:Po):List Value:=[.int .i64 o.k,.int .i64 o.v,.string ⟨o.n.toArray⟩]
theorem Po.len (v:Po):v.cells.length=3:=rfl
theorem Po.one (v:Po):v.cells.toArray.all (·.oneCell')=true:=by simp[Po.cells,Value.oneCell']
theorem Po.at {w:World} {b o:Nat} {v:Po} (h:w.rangeAt b o v.cells):w.cell? ⟨b,o,none⟩=some (.int .i64 v.k)∧w.cell? ⟨b,o+1,none⟩=some (.int .i64 v.v)∧w.cell? ⟨b,o+2,none⟩=some (.string ⟨v.n.toArray⟩):=
 ⟨h 0 _ rfl,h 1 _ rfl,h 2 _ rfl⟩
def tw:List (List UInt8):=[[],[],[],[59],[44],[40],[41],[46,46],[42],[43],[45],[60],[60,61],[61],[97,110,100],[111,114],[108,101,116],[101,97,99,104],[101,110,100],[115,117,109],[110,101,118,101,114],[97,112,97,114,116],[108,105,102,111],[114,105,100,101],[115,116,114,101,97,107],[109,105,110],[109,97,120],[105,102],[102,97,108,115,101],[116,114,117,101],[116,105,109,101],[108,101,103],[119,97,105,116],[100,105,115,116],[108,111,97,100],[115,105,122,101],[111,112,101,110],[99,108,111,115,101],[104,111,108,100],[114,111,111,109],[112,111,115],[112,105,99,107],[100,114,111,112],[102,114,111,109],[105,110],[116,104,101,110],[109,111,115,116],[110,111,116],[104,97,115],[115,107,105,108,108]]
def Z9 (m:Nat):List UInt8:=tw.getD m []
def rw:List (List UInt8):=tw.drop 14
def VO (n:List UInt8):Bool:=rw.contains n
def wkF (n:List UInt8) (m:Nat):Nat→Nat
 |0=>2
 |f+1=>if n==Z9 m then m else wkF n (m+1) f
def wk (n:List UInt8):Nat:=wkF n 14 36
def YS (c:UInt8):Bool:=97≤c.toNat&&c.toNat≤122
def digB (c:UInt8):Bool:=48≤c.toNat&&c.toNat≤57
def wB (c:UInt8):Bool:=YS c||digB c||c.toNat==95
def xl (n:List UInt8):Bool:=1≤n.length&&n.length≤16&&YS (n.getD 0 0)&&n.all wB&&!VO n
def Zn (k:Int):Int:=if k=1 then 999999999 else if k=3 then 12 else if k=4 then 15 else if k=5 then 15 else if k=6 then 1 else if k=9 then 7 else if k=10 then 2 else 0
def opB (o:Po):Bool:=decide (1≤o.k)&&decide (o.k≤10)&&decide (0≤o.v)&&decide (o.v≤Zn o.k)&&(if o.k=2 then xl o.n else o.n==[])
def ar (o:Po):Nat:=if o.k=7∨o.k=8 then 1 else if o.k=9 then 2 else if o.k=10 then (if o.v=2 then 3 else 2)else 0
inductive Tr where
 |leaf (o:Po)
 |pre (o:Po) (a:Tr)
 |bin (o:Po) (a b:Tr)
 |two (o:Po) (a b:Tr)
 |three (o:Po) (a b c:Tr)
def Tr.op:Tr→Po
 |.leaf o|.pre o _|.bin o _ _|.two o _ _|.three o _ _ _=>o
def yL (v:Int):Int:=if v=0 then 5 else if v=1∨v=2 then 4 else if v=6 then 2 else if v=7 then 1 else 3
def xx (o:Po):Int:=if o.k=9 then yL o.v else if o.k=7∨o.k=8 then 6 else 7
def Tr.str (t:Tr):Int:=xx t.op
def lL (s:Int):Int:=if s=3 then 4 else s
def opn (n s least:Int):Int:=if s<least then n+1 else n
def Tr.nst:Tr→Int
 |.leaf _=>0
 |.pre _ a=>1+opn a.nst a.str 6
 |.bin o a b=>max (opn a.nst a.str (lL (yL o.v))) (opn b.nst b.str (yL o.v+1))
 |.two _ a b=>1+max a.nst b.nst
 |.three _ a b c=>1+max (max a.nst b.nst) c.nst
def mk (o:Po):List Tr→Tr
 |[a]=>.pre o a
 |[a,b]=>if o.k=9 then .bin o a b else .two o a b
 |[a,b,c]=>.three o a b c
 |_=>.leaf o
def stk (E:Nat→Po):Nat→Option (List Tr)
 |0=>some []
 |n+1=>(stk E n).bind fun s=>if opB (E n)=true∧ar (E n)≤s.length then some (s.take (s.length-ar (E n))++[mk (E n) (s.drop (s.length-ar (E n)))])else none
def xo (E:Nat→Po) (n:Nat):Bool:=match stk E n with
 |some [t]=>decide (t.nst≤64)
 |_=>false
theorem XI {E:Nat→Po} {m n:Nat} (h:stk E m=none) (hmn:m≤n):stk E n=none:=by
 induction n with
 |zero=>obtain rfl:m=0:=by omega
        exact h
 |succ n ih=>
  by_cases e:m=n+1
  ·rw[←e];exact h
  ·simp[stk,ih (by omega)]
end Go.Proofs.YtbdldkpifanaiaaDoor.Syn
namespace Go.Proofs.YtbdldkpifanaiaaDoor.Leaf
open Go Go.RowKit
theorem TO {W w1:World} (hb:Below W.heap.size W w1):(∀b o,b<W.heap.size→w1.cell? ⟨b,o,none⟩=W.cell? ⟨b,o,none⟩)∧(∀b o,b<W.heap.size→w1.frozen? ⟨b,o,none⟩=W.frozen? ⟨b,o,none⟩):=
 ⟨fun b o h=>hb.cell (p:=⟨b,o,none⟩) h,fun b o h=>hb.frozen (p:=⟨b,o,none⟩) h⟩
theorem zg {w W w1:World} (h:Below w.heap.size w W) (hb:Below W.heap.size W w1):Below w.heap.size w w1:=h.trans (hb.mono h.size)
end Go.Proofs.YtbdldkpifanaiaaDoor.Leaf
namespace Go.Proofs.YtbdldkpifanaiaaDoor.Syn
open Go Go.RowKit Mem
attribute [local go_sem ↓] Go.wp_at_zero Go.wp_at_succ
theorem zH {a b:Bool} (h:a=b):Ending.returned (.bool a)=.returned (.bool b):=by rw[h]
theorem Xh (k:Nat) (w:World) (hk:k<13):Calls Tryd.prog 92 #[.int .i64 (k:Int)] w fun e w'=>e=.returned (.string ⟨(Z9 (30+k)).toArray⟩)∧w'=w:=by
 have:k=0∨k=1∨k=2∨k=3∨k=4∨k=5∨k=6∨k=7∨k=8∨k=9∨k=10∨k=11∨k=12:=by omega
 clear hk;rcases this with rfl|rfl|rfl|rfl|rfl|rfl|rfl|rfl|rfl|rfl|rfl|rfl|rfl
 all_goals
  go_enter Tryd.func92,Tryd.ntmps92;go_wp2;go_ret;exact⟨rfl,rfl⟩
def atF (n:List UInt8) (m:Nat):Nat→Int
 |0=>-1
 |f+1=>if Z9 (30+m)==n then (m:Int)else atF n (m+1) f
theorem UM {n:List UInt8} {k:Nat} (hk:k≤13) (h:∀j,j<k→(Z9 (30+j)==n)=false):atF n 0 13=atF n k (13-k):=by
 induction k with
 |zero=>rfl
 |succ k ih=>
  rw[ih (by omega) (fun j hj=>h j (by omega)),show 13-k=(13- (k+1))+1 by omega,atF,if_neg (by have:=h k (by omega);simpa using this)]
theorem Tu (n:List UInt8) (w:World):Calls Tryd.prog 89 #[.string ⟨n.toArray⟩] w fun e w'=>e=.returned (.int .i64 (atF n 0 13))∧w'=w:=by
 go_enter Tryd.func89,Tryd.ntmps89;go_wp2
 go_loop [3] (fun i=>∃k:Nat,k≤13∧i=.int .i64 (k:Int)∧Hid (∀j,j<k→(Z9 (30+j)==n)=false)) (fun i=>13- (intOf i).toNat)
 case atStart=>exact⟨0,by omega,rfl,fun j hj=>by omega⟩
 case round=>
  obtain⟨k,hk,rfl,ha⟩:=hrel;by_cases hlt:k<13
  ·cases he:(Z9 (30+k)==n)with
   |true=>
    have hv:Hid (atF n 0 13=(k:Int)):=by
     unfold Hid;rw[UM hk ha.out,show 13-k=(12-k)+1 by omega,atF,if_pos he]
    go_wp2_with (go_at_call 92;refine(Xh k _ hlt).mono ?_;rintro e w' ⟨rfl,rfl⟩);go_ret;rw[hv.out];exact⟨rfl,rfl⟩
   |false=>
    have hv:Hid (∀j,j<k+1→(Z9 (30+j)==n)=false):=fun j hj=>by
     by_cases e:j=k
     ·rw[e];exact he
     ·exact ha.out j (by omega)
    go_wp2_with (go_at_call 92;refine(Xh k _ hlt).mono ?_;rintro e w' ⟨rfl,rfl⟩);exact⟨⟨k+1,by omega,by go_num,hv⟩,by simp[intOf];omega⟩
  ·obtain rfl:k=13:=by omega
   have hv:Hid (atF n 0 13=-1):=by unfold Hid;rw[UM hk ha.out];rfl
   go_wp2;go_ret;rw[hv.out];exact⟨rfl,rfl⟩
def rwS:List (List UInt8):=[[108,101,116],[101,97,99,104],[101,110,100],[115,117,109],[102,114,111,109],[105,110],[110,101,118,101,114],[116,104,101,110],[97,112,97,114,116],[108,105,102,111],[114,105,100,101],[115,116,114,101,97,107],[109,111,115,116],[97,110,100],[111,114],[110,111,116],[109,105,110],[109,97,120],[105,102],[104,97,115],[115,107,105,108,108],[116,114,117,101],[102,97,108,115,101]]
def Zr (n:List UInt8):List (List UInt8)→Bool
 |[]=>false
 |x::r=>n==x||Zr n r
theorem YR (n:List UInt8) (l:List (List UInt8)):Zr n l=l.contains n:=by
 induction l with
 |nil=>rfl
 |cons x r ih=>rw[Zr,ih,List.contains_cons]
theorem Tv (n:List UInt8) (m f:Nat):decide (0≤atF n m f)=((List.range f).any fun j=>Z9 (30+(m+j))==n):=by
 induction f generalizing m with
 |zero=>simp[atF]
 |succ f ih=>
  unfold atF;rw[List.range_succ_eq_map,List.any_cons,List.any_map]
  split
  ·rename_i h;simp at h;simp[h]
  ·rename_i h
   rw[ih (m+1)];simp only[Nat.add_zero];rw[show(Z9 (30+m)==n)=false by simpa using h,Bool.false_or]
   congr 1
   funext j
   simp only[Function.comp];rw[Nat.succ_eq_add_one,show m+1+j=m+(j+1) by omega]
theorem Xp {a b:List (List UInt8)} (h:(a.all fun x=>b.contains x)=true) {n:List UInt8} (hn:n∈a):n∈b:=by
 rw[List.all_eq_true]at h;have:=h n hn;simpa using this
theorem U0 (n:List UInt8):(decide (0≤atF n 0 13)||Zr n rwS)=VO n:=by
 rw[Tv,YR];unfold VO;rw[Bool.eq_iff_iff,Bool.or_eq_true,List.any_eq_true,List.contains_iff_mem,List.contains_iff_mem];have k1:(((List.range 13).map fun j=>Z9 (30+(0+j))).all fun x=>rw.contains x)=true:=by decide+kernel
 have k2:(rwS.all fun x=>rw.contains x)=true:=by decide+kernel
 have k3:(rw.all fun x=>(((List.range 13).map fun j=>Z9 (30+(0+j)))++rwS).contains x)=true:=by decide+kernel
 constructor
 ·rintro(⟨j,hj,he⟩|h)
  ·refine Xp k1 (List.mem_map.2 ⟨j,hj,by simpa using he⟩)
  ·exact Xp k2 h
 ·intro h
  rcases List.mem_append.1 (Xp k3 h)with h|h
  ·obtain⟨j,hj,he⟩:=List.mem_map.1 h
   exact Or.inl ⟨j,hj,by simpa using he⟩
  ·exact Or.inr h
end Go.Proofs.YtbdldkpifanaiaaDoor.Syn
