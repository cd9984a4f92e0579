import Derived.OrdersHeld
import Derived.Deep.MidRow
import Derived.Laws.MakeOwn
import Derived.Below
import Derived.Handy
import Derived.Deep.Draws
import Derived.Test.YtbkajklninmhiaaGreatDoorProg
import Derived.WalkKit
import Derived.WalkSpells
import Derived.WalkLawsBesides
import Derived.Deep.QuietTactic
import Derived.BigQuiet
import Derived.Deep.RegionHeld3
import Derived.Lib.UnsafeStr
import Derived.OwnWalk
import Derived.Lib.Hide
import Derived.Lib.SmallJoins
import Derived.Lib.SlBytesConst
import Derived.Lib.OthersKept
import Derived.ArgAppend
import Derived.Deep.DrawnRows
import Derived.Lib.IndexLaws
import Derived.Lib.Bytealg
import Derived.Lib.BytesEntry
import Derived.WalkSmall
import Derived.Laws.IdiomStrings
import Derived.Lib.BufferWrite
set_option maxHeartbeats 1600000
set_option maxRecDepth 1000000
set_option linter.unusedVariables false
set_option linter.unusedSimpArgs false
open List renaming length_append → qg
open Nat renaming le_refl → qp, le_trans → qq
namespace Go.Proofs.YtbkajklninmhiaaGreatDoor.Mem
open Go Go.RowKit
def zK (w:World) (a:Option Addr) (n k:Nat) (C:Nat→List Value):Prop:=
 n=0∨∃b off,a=some ⟨b,off,none⟩∧∀i,i<n→w.rangeAt b (off+i*k) (C i)
theorem Hm {p:Prop} (h:p):Hid p:=h
theorem below_drewN' {B:Nat} {a w:World} (h:Below B a w) (n:Nat):Below B a (w.drewN n):=h.trans ⟨rfl,rfl,rfl,qp _,fun _ _=>rfl⟩
theorem zn {w W w1:World} (h:Below w.heap.size w W) (hb:Below W.heap.size W w1):Below w.heap.size w w1:=h.trans (hb.mono h.size)
theorem lt_of_cell {w:World} {b o:Nat} {v:Value} (h:w.cell? ⟨b,o,none⟩=some v):b<w.heap.size:=World.block_lt_of_cell? w _ h
theorem z8 {w w':World} {b o:Nat} {cs:List Value} (h:w.rangeAt b o cs) (hb:Below w.heap.size w w'):w'.rangeAt b o cs:=fun j v hv=>by
 have:=h j v hv;rw[hb.cell (p:=⟨b,o+j,none⟩) (lt_of_cell this)];exact this
theorem zB {W w1:World} (hb:Below W.heap.size W w1) {p:Addr} {v:Value} (h:W.cell? p=some v):w1.cell? p=some v:=by
 rw[hb.cell (World.block_lt_of_cell? W _ h)];exact h
theorem zK.below {w w':World} {a:Option Addr} {n k:Nat} {C:Nat→List Value} (h:zK w a n k C) (hb:Below w.heap.size w w'):zK w' a n k C:=by
 rcases h with h|⟨b,off,ha,h⟩
 ·exact Or.inl h
 ·exact Or.inr ⟨b,off,ha,fun i hi=>z8 (h i hi) hb⟩
theorem zR {w W:World} (h:Below w.heap.size w W) (p:Addr) (hp:w.heap.size≤p.block) (v:Value):Below w.heap.size w (W.setCell p v):=h.setCell hp v
theorem yn (w:World) (p:Addr) (v:Value):(w.setCell p v).heap.size=w.heap.size:=by simp[World.setCell]
theorem zb {w:World} {g:Nat} {cs:Array Value} {t:TypeId} {fr:Nat×Nat} (h:w.heap[g]? =some (.cells cs t fr)) (i:Nat):w.cell? ⟨g,i,none⟩=cs[i]?:=by simp[World.cell?,h]
theorem cL0 {w:World} {g:Nat} {v0:Value} {l:List Value} {t:TypeId} {fr:Nat×Nat} (h:w.heap[g]? =some (.cells (v0::l).toArray t fr)):w.cell? ⟨g,0,none⟩=some v0:=(zb h 0).trans rfl
theorem cL1 {w:World} {g:Nat} {v0 v1:Value} {l:List Value} {t:TypeId} {fr:Nat×Nat} (h:w.heap[g]? =some (.cells (v0::v1::l).toArray t fr)):w.cell? ⟨g,1,none⟩=some v1:=(zb h 1).trans rfl
theorem cL2 {w:World} {g:Nat} {v0 v1 v2:Value} {l:List Value} {t:TypeId} {fr:Nat×Nat} (h:w.heap[g]? =some (.cells (v0::v1::v2::l).toArray t fr)):w.cell? ⟨g,2,none⟩=some v2:=(zb h 2).trans rfl
theorem cL3 {w:World} {g:Nat} {v0 v1 v2 v3:Value} {l:List Value} {t:TypeId} {fr:Nat×Nat} (h:w.heap[g]? =some (.cells (v0::v1::v2::v3::l).toArray t fr)):w.cell? ⟨g,3,none⟩=some v3:=(zb h 3).trans rfl
theorem cL4 {w:World} {g:Nat} {v0 v1 v2 v3 v4:Value} {l:List Value} {t:TypeId} {fr:Nat×Nat} (h:w.heap[g]? =some (.cells (v0::v1::v2::v3::v4::l).toArray t fr)):w.cell? ⟨g,4,none⟩=some v4:=(zb h 4).trans rfl
theorem cL5 {w:World} {g:Nat} {v0 v1 v2 v3 v4 v5:Value} {l:List Value} {t:TypeId} {fr:Nat×Nat} (h:w.heap[g]? =some (.cells (v0::v1::v2::v3::v4::v5::l).toArray t fr)):w.cell? ⟨g,5,none⟩=some v5:=(zb h 5).trans rfl
theorem cL6 {w:World} {g:Nat} {v0 v1 v2 v3 v4 v5 v6:Value} {l:List Value} {t:TypeId} {fr:Nat×Nat} (h:w.heap[g]? =some (.cells (v0::v1::v2::v3::v4::v5::v6::l).toArray t fr)):w.cell? ⟨g,6,none⟩=some v6:=(zb h 6).trans rfl
theorem cL9 {w:World} {g:Nat} {v0 v1 v2 v3 v4 v5 v6:Value} {l:List Value} {t:TypeId} {fr:Nat×Nat} (h:w.heap[g]? =some (.cells (v0::v1::v2::v3::v4::v5::v6::l).toArray t fr)):w.cell? ⟨g,0,none⟩=some v0∧w.cell? ⟨g,1,none⟩=some v1∧w.cell? ⟨g,2,none⟩=some v2∧w.cell? ⟨g,3,none⟩=some v3∧w.cell? ⟨g,4,none⟩=some v4∧w.cell? ⟨g,5,none⟩=some v5∧w.cell? ⟨g,6,none⟩=some v6:=⟨cL0 h,cL1 h,cL2 h,cL3 h,cL4 h,cL5 h,cL6 h⟩
theorem tK {P:Program} {md:Region.Mode} {ops:Array Oper} {Q:Exit→Act→World→Prop} {S:World→Prop} (i:Nat) {oi:Oper} (v:Value) {fuel:Nat} {listed:Array Bool} {a:Act} {w:World} (hi:ops[i]? =some oi)
  (hs:(Region.noSelect ops&&Region.free md ops listed i&&(Region.ready md ops listed).contains i)=true)
  (hQ:∀c a w,Q (.panic c) (a.put oi.dst v) w→Q (.panic c) a w) (hc:Region.wanted oi (yielded ops a.tmps)=true) (hy:∀w,S w→(execOp a.eval oi).run P w=.ok (.value v) w) (hS:S w)
  (h:wpAnyH P md ops Q S fuel (listed.setIfInBounds i true) (a.put oi.dst v) w):wpAnyH P md ops Q S (fuel+1) listed a w:=by
 simp only[Bool.and_eq_true]at hs;exact wpAnyH_take hi hs.1.1 hs.1.2 hs.2 hQ (Or.inl ⟨hc,hy⟩) hS h
theorem zc {w:World} {g:Nat} {cs:Array Value} {t:TypeId} (h:w.heap[g]? =some (.cells cs t (0,0))) (i:Nat):w.frozen? ⟨g,i,none⟩=false:=by simp[World.frozen?,h]
theorem zq {w:World} {g:Nat} {cs:Array Value} {t:TypeId} {fr:Nat×Nat} (h:w.heap[g]? =some (.cells cs t fr)) (i:Nat) (v:Value):(w.setCell ⟨g,i,none⟩ v).heap[g]? =some (.cells (cs.setIfInBounds i v) t fr):=by
 simp[World.setCell,Array.getElem?_modify,h]
theorem zt {w:World} {g:Nat} {o:Obj} (h:w.heap[g]? =some o) {p:Addr} (hne:g≠p.block) (v:Value):(w.setCell p v).heap[g]? =some o:=by
 rw[Below.heap_setCell _ _ _ _ hne];exact h
theorem zN {w:World} {g:Nat} {o:Obj} (h:w.heap[g]? =some o):g<w.heap.size:=(Array.getElem?_eq_some_iff.1 h).1
theorem zg {w w':World} {g:Nat} {o:Obj} (h:w.heap[g]? =some o) (hb:Below w.heap.size w w'):w'.heap[g]? =some o:=by rw[hb.block g (zN h)];exact h
theorem zv {w:World} {g:Nat} {o:Obj} (h:w.heap[g]? =some o) (o':Obj):(w.alloc o').heap[g]? =some o:=by rw[Below.heap_alloc _ _ _ (zN h)];exact h
theorem zo (w:World) (o:Obj):(w.alloc o).heap[w.heap.size]? =some o:=by show(w.heap.push o)[w.heap.size]? =some o;simp
theorem yb (w:World) (o o':Obj):((w.alloc o').alloc o).heap[w.heap.size+1]? =some o:=by have:=zo (w.alloc o') o;simpa using this
def YZ:Nat→(Nat→Bool)→Bool
 |0,_=>true
 |n+1,f=>YZ n f&&f n
theorem XR {n:Nat} {f:Nat→Bool} {k:Nat} (hk:k<n) (h:f k=false):YZ n f=false:=by
 induction n with
 |zero=>omega
 |succ m ih=>
  by_cases e:k=m
  ·subst e;simp[YZ,h]
  ·simp[YZ,ih (by omega)]
theorem Wx {k:Nat} {f:Nat→Bool} (h:YZ k f=true) (h':f k=true):YZ (k+1) f=true:=by simp[YZ,h,h']
structure Veh where
 (a b x y o c h:Int)
structure Req where
 (a b x y o c h x' y' o' c' h':Int)
structure Rd where
 (a b t:Int)
def Veh.cells (v:Veh):List Value:=[.int .i64 v.a,.int .i64 v.b,.int .i64 v.x,.int .i64 v.y,.int .i64 v.o,.int .i64 v.c,.int .i64 v.h]
def Req.cells (q:Req):List Value:=[.int .i64 q.a,.int .i64 q.b,.int .i64 q.x,.int .i64 q.y,.int .i64 q.o,.int .i64 q.c,.int .i64 q.h,.int .i64 q.x',.int .i64 q.y',.int .i64 q.o',.int .i64 q.c',.int .i64 q.h']
def Rd.cells (r:Rd):List Value:=[.int .i64 r.a,.int .i64 r.b,.int .i64 r.t]
theorem Veh.at {w:World} {b o:Nat} {v:Veh} (h:w.rangeAt b o v.cells):w.cell? ⟨b,o,none⟩=some (.int .i64 v.a)∧w.cell? ⟨b,o+1,none⟩=some (.int .i64 v.b)∧w.cell? ⟨b,o+2,none⟩=some (.int .i64 v.x)∧w.cell? ⟨b,o+3,none⟩=some (.int .i64 v.y)∧w.cell? ⟨b,o+4,none⟩=some (.int .i64 v.o)∧w.cell? ⟨b,o+5,none⟩=some (.int .i64 v.c)∧w.cell? ⟨b,o+6,none⟩=some (.int .i64 v.h):=
 ⟨h 0 _ rfl,h 1 _ rfl,h 2 _ rfl,h 3 _ rfl,h 4 _ rfl,h 5 _ rfl,h 6 _ rfl⟩
theorem Veh.len (v:Veh):v.cells.length=7:=rfl
theorem Veh.one (v:Veh):v.cells.toArray.all (·.oneCell')=true:=by simp[Veh.cells,Value.oneCell']
theorem Req.at {w:World} {b o:Nat} {v:Req} (h:w.rangeAt b o v.cells):w.cell? ⟨b,o,none⟩=some (.int .i64 v.a)∧w.cell? ⟨b,o+1,none⟩=some (.int .i64 v.b)∧w.cell? ⟨b,o+2,none⟩=some (.int .i64 v.x)∧w.cell? ⟨b,o+3,none⟩=some (.int .i64 v.y)∧w.cell? ⟨b,o+4,none⟩=some (.int .i64 v.o)∧w.cell? ⟨b,o+5,none⟩=some (.int .i64 v.c)∧w.cell? ⟨b,o+6,none⟩=some (.int .i64 v.h)∧w.cell? ⟨b,o+7,none⟩=some (.int .i64 v.x')∧w.cell? ⟨b,o+8,none⟩=some (.int .i64 v.y')∧w.cell? ⟨b,o+9,none⟩=some (.int .i64 v.o')∧w.cell? ⟨b,o+10,none⟩=some (.int .i64 v.c')∧w.cell? ⟨b,o+11,none⟩=some (.int .i64 v.h'):=
 ⟨h 0 _ rfl,h 1 _ rfl,h 2 _ rfl,h 3 _ rfl,h 4 _ rfl,h 5 _ rfl,h 6 _ rfl,h 7 _ rfl,h 8 _ rfl,h 9 _ rfl,h 10 _ rfl,h 11 _ rfl⟩
theorem Req.len (v:Req):v.cells.length=12:=rfl
theorem Req.one (v:Req):v.cells.toArray.all (·.oneCell')=true:=by simp[Req.cells,Value.oneCell']
theorem Rd.at {w:World} {b o:Nat} {v:Rd} (h:w.rangeAt b o v.cells):w.cell? ⟨b,o,none⟩=some (.int .i64 v.a)∧w.cell? ⟨b,o+1,none⟩=some (.int .i64 v.b)∧w.cell? ⟨b,o+2,none⟩=some (.int .i64 v.t):=
 ⟨h 0 _ rfl,h 1 _ rfl,h 2 _ rfl⟩
theorem Rd.len (v:Rd):v.cells.length=3:=rfl
theorem Rd.one (v:Rd):v.cells.toArray.all (·.oneCell')=true:=by simp[Rd.cells,Value.oneCell']
structure In where
 (nV nQ nR:Nat) (V:Nat→Veh) (Q:Nat→Req) (R:Nat→Rd)
structure InAt (w:World) (a1 a2 a3:Option Addr) (I:In):Prop where
 v:zK w a1 I.nV 7 (fun i=>(I.V i).cells)
 q:zK w a2 I.nQ 12 (fun i=>(I.Q i).cells)
 r:zK w a3 I.nR 3 (fun i=>(I.R i).cells)
theorem InAt.below {w w':World} {a1 a2 a3:Option Addr} {I:In} (h:InAt w a1 a2 a3 I) (hb:Below w.heap.size w w'):InAt w' a1 a2 a3 I:=⟨h.v.below hb,h.q.below hb,h.r.below hb⟩
theorem zd {w W:World} (h:Below w.heap.size w W) (o:Obj):Below w.heap.size w (W.alloc o):=h.alloc h.size o
theorem Y9 {w:World} {p:Addr} {v:Value} (h:w.cell? p=some v) (o:Obj):(w.alloc o).cell? p=some v:=by
 rw[World.cell?_alloc_lt _ _ _ (World.block_lt_of_cell? w _ h)];exact h
end Go.Proofs.YtbkajklninmhiaaGreatDoor.Mem
namespace Go.Proofs.YtbkajklninmhiaaGreatDoor.Parse
open Go Go.RowKit Mem
theorem Zt:(Tryz.prog.info? 5).map (fun i=>(i.zero,i.size,i.bytes))=some (some (.int .u8 0),1,1):=by kernel_rfl
def Rd (w:World) (a:Option Addr) (bs:List UInt8):Prop:=∀j (h:j<bs.length),∃g o,a=some ⟨g,o,none⟩∧w.cell? ⟨g,o+j,none⟩=some (.int .u8 (bs[j].toNat:Int))
theorem Rd.below {w w':World} {a:Option Addr} {bs:List UInt8} (h:Rd w a bs) (hb:Below w.heap.size w w'):Rd w' a bs:=fun j hj=>by
 obtain⟨g,o,e,hc⟩:=h j hj;exact⟨g,o,e,zB hb hc⟩
theorem Rd.at {w:World} {g o:Nat} {bs:List UInt8} (h:Rd w (some ⟨g,o,none⟩) bs) (j:Nat) (hj:j<bs.length):w.cell? ⟨g,o+j,none⟩=some (.int .u8 (bs[j].toNat:Int)):=by
 obtain⟨g',o',e,hc⟩:=h j hj;injection e with e;injection e with e1 e2;subst e1 e2;exact hc
theorem Rd.some {w:World} {a:Option Addr} {bs:List UInt8} (h:Rd w a bs) (hp:0<bs.length):∃g o,a=some ⟨g,o,none⟩:=by
 obtain⟨g,o,e,_⟩:=h 0 hp;exact⟨g,o,e⟩
theorem Rd.drop {w:World} {g o:Nat} {bs:List UInt8} (h:Rd w (Option.some ⟨g,o,none⟩) bs) (k:Nat):Rd w (Option.some ⟨g,o+k,none⟩) (bs.drop k):=fun j hj=>by
 have:=h.at (k+j) (by rw[List.length_drop]at hj;omega);refine⟨g,o+k,rfl,?_⟩;rw[List.getElem_drop,Nat.add_assoc];exact this
theorem Rd.take {w:World} {a:Option Addr} {bs:List UInt8} (h:Rd w a bs) (k:Nat):Rd w a (bs.take k):=fun j hj=>by
 obtain⟨g,o,e,hc⟩:=h j (by rw[List.length_take]at hj;omega);exact⟨g,o,e,by rw[List.getElem_take];exact hc⟩
def digit (b:UInt8):Bool:=decide (48≤b.toNat)&&decide (b.toNat≤57)
def dec (ds:List UInt8):Int:=ds.foldl (fun n b=>10*n+b.toNat-48) 0
def num (f:List UInt8):Int:=if f.head? =some 45 then-dec f.tail else dec f
theorem XH (ds:List UInt8) (b:UInt8):dec (ds++[b])=10*dec ds+b.toNat-48:=by
 unfold dec;rw[List.foldl_append];rfl
theorem Vd {p:List UInt8→Prop} (h0:p []) (hs:∀l b,p l→p (l++[b])) (l:List UInt8):p l:=by
 have:∀n (l:List UInt8),l.length=n→p l:=by
  intro n
  induction n with
  |zero=>intro l h;rw[List.eq_nil_of_length_eq_zero h];exact h0
  |succ m ih=>
   intro l h;have hne:l≠[]:=by intro e;subst e;simp at h
   rw[←List.dropLast_concat_getLast hne];exact hs _ _ (ih _ (by simp[h]))
 exact this _ l rfl
theorem Ws:∀(ds:List UInt8),ds.all digit=true→0≤dec ds∧dec ds<10 ^ ds.length:=by
 refine Vd ?_ ?_
 ·intro _;simp[dec]
 ·intro l b ih h
  rw[List.all_append]at h;simp only[List.all_cons,List.all_nil,Bool.and_true,Bool.and_eq_true]at h;obtain⟨h1,h2⟩:=h;have ih':=ih h1;unfold digit at h2;simp only[Bool.and_eq_true,decide_eq_true_eq]at h2;rw[XH,qg,List.length_singleton,Int.pow_succ];omega
end Go.Proofs.YtbkajklninmhiaaGreatDoor.Parse
namespace Go.Proofs.YtbkajklninmhiaaGreatDoor.Parse
open Go Go.RowKit Mem
attribute [local go_sem ↓] Go.wp_at_zero Go.wp_at_succ
def stp (sep:UInt8) (s:List (List UInt8)×List UInt8) (b:UInt8):List (List UInt8)×List UInt8:=if b=sep then (s.1++[s.2],[])else (s.1,s.2++[b])
def spl (sep:UInt8) (bs:List UInt8):List (List UInt8)×List UInt8:=bs.foldl (stp sep) ([],[])
def split (sep:UInt8) (bs:List UInt8):List (List UInt8):=(spl sep bs).1++[(spl sep bs).2]
theorem TG (sep:UInt8) (bs:List UInt8) (b:UInt8):spl sep (bs++[b])=stp sep (spl sep bs) b:=by unfold spl;rw[List.foldl_append];rfl
theorem Uw (sep:UInt8):∀(bs:List UInt8),(spl sep bs).1.length+(spl sep bs).2.length≤bs.length:=by
 refine Vd ?_ ?_
 ·simp[spl]
 ·intro l b ih
  rw[TG,qg,List.length_singleton];unfold stp
  split
  ·simp;omega
  ·simp;omega
def Own (B:Nat) (w':World) (v:Value) (bs:List UInt8):Prop:=w'.ownsRow B 5 1 v bs.length (Lib.byteCells bs)
def Piece (B:Nat) (w:World) (v:Value) (bs:List UInt8):Prop:=∃a c,v=.slice a bs.length c∧bs.length≤c∧∀j (h:j<bs.length),∃g C fr,a=some ⟨g,0,none⟩∧g<B∧w.heap[g]? =some (.cells C 5 fr)∧C[j]? =some (.int .u8 (bs[j].toNat:Int))
theorem Piece.keep {B B':Nat} {w w':World} {v:Value} {bs:List UInt8} (h:Piece B w v bs) (hB:B≤B') (hk:∀g C fr,g<B→w.heap[g]? =some (.cells C 5 fr)→w'.heap[g]? =some (.cells C 5 fr)):Piece B' w' v bs:=by
 obtain⟨a,c,e,hc,h⟩:=h;refine⟨a,c,e,hc,fun j hj=>?_⟩;obtain⟨g,C,fr,e1,h1,h2,h3⟩:=h j hj;exact⟨g,C,fr,e1,by omega,hk g C fr h1 h2,h3⟩
theorem Piece.rd {B:Nat} {w:World} {v:Value} {bs:List UInt8} (h:Piece B w v bs):∃a c,v=.slice a bs.length c∧bs.length≤c∧Rd w a bs:=by
 obtain⟨a,c,e,hc,h⟩:=h;refine⟨a,c,e,hc,fun j hj=>?_⟩;obtain⟨g,C,fr,e1,h1,h2,h3⟩:=h j hj;exact⟨g,0,e1,by rw[Nat.zero_add,zb h2 j];exact h3⟩
def xu (B:Nat) (w:World):List Value→List (List UInt8)→Prop
 |[],[]=>True
 |v::vs,b::bs=>Piece B w v b∧xu B w vs bs
 |_,_=>False
theorem xu.keep {B B':Nat} {w w':World} (hB:B≤B') (hk:∀g C fr,g<B→w.heap[g]? =some (.cells C 5 fr)→w'.heap[g]? =some (.cells C 5 fr)):∀{vs:List Value} {L:List (List UInt8)},xu B w vs L→xu B' w' vs L
 |[],[],_=>trivial
 |_::_,_::_,h=>⟨h.1.keep hB hk,xu.keep hB hk h.2⟩
theorem xu.snoc {B:Nat} {w:World} {v:Value} {b:List UInt8} (hv:Piece B w v b):∀{vs:List Value} {L:List (List UInt8)},xu B w vs L→xu B w (vs++[v]) (L++[b])
 |[],[],_=>⟨hv,trivial⟩
 |_::_,_::_,h=>⟨h.1,xu.snoc hv h.2⟩
theorem xu.len {B:Nat} {w:World}:∀{vs:List Value} {L:List (List UInt8)},xu B w vs L→vs.length=L.length
 |[],[],_=>rfl
 |_::_,_::_,h=>by simp[xu.len h.2]
theorem xu.get {B:Nat} {w:World}:∀{vs:List Value} {L:List (List UInt8)},xu B w vs L→∀(k:Nat) (hk:k<L.length),∃v,vs[k]? =some v∧Piece B w v L[k]
 |[],[],_,k,hk=>by simp at hk
 |_::_,_::_,h,0,_=>⟨_,rfl,h.1⟩
 |_::_,_::_,h,k+1,hk=>by
  obtain⟨v,h1,h2⟩:=xu.get h.2 k (by simpa using hk);exact⟨v,by simpa using h1,by simpa using h2⟩
def Flds (w:World) (a:Option Addr) (L:List (List UInt8)):Prop:=∀k (h:k<L.length),∃g p c,a=some ⟨g,0,none⟩∧w.cell? ⟨g,k,none⟩=some (.slice p L[k].length c)∧L[k].length≤c∧Rd w p L[k]
theorem Flds.below {w w':World} {a:Option Addr} {L:List (List UInt8)} (h:Flds w a L) (hb:Below w.heap.size w w'):Flds w' a L:=fun k hk=>by
 obtain⟨g,p,c,e,h1,h2,h3⟩:=h k hk;exact⟨g,p,c,e,zB hb h1,h2,h3.below hb⟩
theorem yC {B n:Nat} {w:World} {v:Value} {e:TypeId} {s:Nat} {xs:List Value} (h:w.ownsRow B e s v n xs):∀g,v.ownBlock=some g→∃c fz,w.heap[g]? =some (.cells c e fz):=by
 intro g hg;rcases h.2 with⟨rfl,_⟩|⟨g',cap,cur,rfl,_,hgg,_⟩
 ·simp[Value.ownBlock]at hg
 ·simp[Value.ownBlock]at hg
  subst hg;exact⟨cur,_,hgg⟩
theorem zh {B n:Nat} {w:World} {v:Value} {e:TypeId} {s:Nat} {xs:List Value} (h:w.ownsRow B e s v n xs):∃a c,v=.slice a n c∧n≤c:=by
 rcases h.2 with⟨rfl,h0⟩|⟨g,cap,cur,rfl,_,_,hc,_⟩
 ·exact⟨none,0,by rw[h0],by omega⟩
 ·exact⟨_,_,rfl,hc⟩
theorem zz {w w':World} {g:Nat} {C:Array Value} {t e:TypeId} {fr:Nat×Nat} {v:Value} {B n s:Nat} {xs:List Value} (hg:w.grownBy w' v.ownBlock) (hrow:w.ownsRow B e s v n xs) (hb:w.heap[g]? =some (.cells C t fr)) (hne:t≠e):w'.heap[g]? =some (.cells C t fr):=by
 rw[hg.block g (zN hb) ?_]
 ·exact hb
 ·intro e1
  obtain⟨c,fz,h⟩:=yC hrow g e1.symm;rw[hb]at h;injection h with h;injection h with _ h2;exact hne h2
theorem yY {w w':World} {B B' n n' s s':Nat} {v u:Value} {t e:TypeId} {xs ys:List Value} (h:w.ownsRow B t s v n xs) (hg:w.grownBy w' u.ownBlock) (hrow:w.ownsRow B' e s' u n' ys) (hne:t≠e):w'.ownsRow B t s v n xs:=by
 refine⟨h.1,?_⟩;rcases h.2 with h0|⟨g,cap,cur,h1,h2,h3,h4⟩
 ·exact Or.inl h0
 ·exact Or.inr ⟨g,cap,cur,h1,h2,zz hg hrow h3 hne,h4⟩
theorem z7 {w w':World} {B n s:Nat} {v:Value} {t:TypeId} {xs:List Value} (h:w.ownsRow B t s v n xs) (hb:Below w.heap.size w w'):w'.ownsRow B t s v n xs:=by
 refine⟨h.1,?_⟩;rcases h.2 with h0|⟨g,cap,cur,h1,h2,h3,h4⟩
 ·exact Or.inl h0
 ·exact Or.inr ⟨g,cap,cur,h1,h2,zg h3 hb,h4⟩
end Go.Proofs.YtbkajklninmhiaaGreatDoor.Parse
namespace Go.Proofs.YtbkajklninmhiaaGreatDoor.Parse
open Go Go.RowKit Mem
theorem S6 {bs:List UInt8} {sep:UInt8} {k:Nat} (h:Lib.indexByte bs sep=k):∃hk:k<bs.length,bs=bs.take k++sep::bs.drop (k+1)∧sep ∉ bs.take k:=by
 obtain⟨h1,h2⟩:=Lib.indexByte_some h;obtain⟨hk,e⟩:=List.getElem?_eq_some_iff.1 h1;refine⟨hk,?_,?_⟩
 ·have:=List.drop_eq_getElem_cons hk
  rw[e]at this;rw[←this,List.take_append_drop]
 ·intro hm
  obtain⟨j,hj,e'⟩:=List.mem_iff_getElem.1 hm;rw[List.length_take]at hj;rw[List.getElem_take]at e';exact h2 j (by omega) (List.getElem?_eq_some_iff.2 ⟨by omega,e'⟩)
theorem index_none {bs:List UInt8} {sep:UInt8} (h:Lib.indexByte bs sep=-1):sep ∉ bs:=by
 intro hm;obtain⟨j,hj,e'⟩:=List.mem_iff_getElem.1 hm;exact Lib.indexByte_none h j (List.getElem?_eq_some_iff.2 ⟨hj,e'⟩)
def plain (d:List UInt8):Bool:=decide (1≤d.length)&&decide (d.length≤9)&&!(decide (1<d.length)&&(d.head? ==some 48))&&d.all digit
end Go.Proofs.YtbkajklninmhiaaGreatDoor.Parse
namespace Go.Proofs.YtbkajklninmhiaaGreatDoor.Parse
open Go Go.RowKit Mem
attribute [local go_sem ↓] Go.wp_at_zero Go.wp_at_succ
theorem digitI (q:Nat) (w:World):Calls Tryz.prog 126 #[.int .u8 (q:Int)] w fun e w'=>e=.returned (.bool (decide (48≤q)&&decide (q≤57)))∧w'=w:=by
 by_cases h1:48≤q
 ·have g1:(48:Int)≤(q:Int):=by omega
  by_cases h2:q≤57
  ·have g2:(q:Int)≤57:=by omega
   go_enter Tryz.func126,Tryz.ntmps126;go_wp2;go_ret;exact⟨by simp[h1,h2],rfl⟩
  ·have g2:decide ((q:Int)≤57)=false:=by simp;omega
   go_enter Tryz.func126,Tryz.ntmps126;go_wp2;go_ret;exact⟨by simp[h1,h2],rfl⟩
 ·have g1:decide ((48:Int)≤(q:Int))=false:=by simp;omega
  go_enter Tryz.func126,Tryz.ntmps126;go_wp2;go_ret;exact⟨by simp[h1],rfl⟩
def xB (d:List UInt8):Value:=.tuple #[.int .i64 (if plain d then dec d else 0),.bool (plain d)]
theorem xJ {d:List UInt8} (h:plain d=false):xB d=.tuple #[.int .i64 0,.bool false]:=by unfold xB;rw[h];rfl
theorem We {d:List UInt8} {k:Nat} (hk:k<d.length) (h:digit d[k]=false):plain d=false:=by
 have:d.all digit=false:=by
  rw[List.all_eq_false];exact⟨d[k],List.getElem_mem hk,by rw[h];simp⟩
 simp[plain,this]
theorem Wf {d:List UInt8} {k:Nat} (hk:k<d.length) (h:(d.take k).all digit=true) (h':digit d[k]=true):(d.take (k+1)).all digit=true:=by
 rw[List.take_succ_eq_append_getElem hk,List.all_append,h];simp[h']
theorem YJ {d:List UInt8} {k:Nat} (hk:k<d.length):dec (d.take (k+1))=10*dec (d.take k)+d[k].toNat-48:=by
 rw[List.take_succ_eq_append_getElem hk,XH]
theorem Wr {d:List UInt8} {k:Nat} (hk:k≤9) (h:(d.take k).all digit=true):0≤dec (d.take k)∧dec (d.take k)≤1000000000:=by
 have hb:=Ws _ h;have hl:(d.take k).length≤9:=by rw[List.length_take];omega
 generalize (d.take k).length=m at*;refine⟨hb.1,?_⟩
 have:(10:Int) ^ m≤1000000000:=by
  match m,hl with
  |0,_|1,_|2,_|3,_|4,_|5,_|6,_|7,_|8,_|9,_=>decide
 omega
theorem Sc (a:Option Addr) (d:List UInt8) (n c:Nat) (w:World) (hn:n=d.length) (hr:Rd w a d):
  Calls Tryz.prog 150 #[.slice a n c] w fun e w'=>e=.returned (xB d)∧w'=w:=by
 by_cases h0:n=0
 ·have HV:Hid (xB d=.tuple #[.int .i64 0,.bool false]):=xJ (by simp[plain];omega)
  have n1:((n:Int)==0)=true:=by simp;omega
  clear h0 hn hr;go_enter Tryz.func150,Tryz.ntmps150;go_wp2;go_ret2
  (rw[HV.out];exact⟨rfl,rfl⟩)
 ·obtain⟨g,o,rfl⟩:=hr.some (by omega)
  have n1:((n:Int)==0)=false:=by simp;omega
  by_cases h9:9<n
  ·have HV:Hid (xB d=.tuple #[.int .i64 0,.bool false]):=xJ (by simp[plain];intros;omega)
   have n2:(9:Int)<(n:Int):=by omega
   clear h0 hn hr;go_enter Tryz.func150,Tryz.ntmps150;go_wp2;go_ret2
   (rw[HV.out];exact⟨rfl,rfl⟩)
  ·have n2:decide ((9:Int)<(n:Int))=false:=by simp;omega
   have hR:=Hm hr;have hN:=Hm hn
   obtain⟨b,x0,hb⟩:∃b:Nat,w.cell? ⟨g,o,none⟩=some (.int .u8 (b:Int))∧Hid (d.head?.map (·.toNat)=some b):=by
    have x0:=hr.at 0 (by omega);rw[Nat.add_zero]at x0;exact⟨_,x0,by unfold Hid;cases d with|nil=>simp at hn;omega|cons x r=>rfl⟩
   clear hr hn;by_cases h1:1<n∧b=48
   ·have HV:Hid (xB d=.tuple #[.int .i64 0,.bool false]):=xJ (by
     have hb':=hb.out;have hn':=hN.out
     cases d with
     |nil=>simp at hb'
     |cons x r=>
      simp at hb';have:x=48:=UInt8.toNat_inj.1 (by rw[hb',h1.2];rfl);subst this;have h2:1<(48::r:List UInt8).length:=by omega
      simp only[plain,List.head?_cons,beq_self_eq_true,Bool.and_true,h2,decide_true,Bool.not_true,Bool.and_false,Bool.false_and])
    have n3:(1:Int)<(n:Int):=by omega
    have b1:((b:Int)==48)=true:=by simp;omega
    clear h1 h0;go_enter Tryz.func150,Tryz.ntmps150;go_wp2;go_ret2
    (rw[HV.out];exact⟨rfl,rfl⟩)
   ·have HP:Hid (plain d=d.all digit):=by
     have hb':=hb.out;have hn':=hN.out;unfold Hid;have e1:decide (1≤d.length)=true:=by simp;omega
     have e2:decide (d.length≤9)=true:=by simp;omega
     have e3:(decide (1<d.length)&&(d.head? ==some 48))=false:=by
      cases d with
      |nil=>rfl
      |cons x r=>
       simp at hb';by_cases hx:x=48
       ·subst hx
        have:b=48:=hb'.symm;have:¬1<n:=fun h=>h1 ⟨h,this⟩
        have:¬1<(48::r:List UInt8).length:=by omega
        simp only[this,decide_false,Bool.false_and]
       ·simp[hx]
     unfold plain;rw[e1,e2,e3];rfl
    have body:Hid (∀st:Nat,True):=fun _=>trivial
    by_cases h2:1<n
    ·have n3:(1:Int)<(n:Int):=by omega
     have b1:((b:Int)==48)=false:=by simp;omega
     have h1':=Hm h1;clear h1 h0 body;go_enter Tryz.func150,Tryz.ntmps150;go_wp2;clear x0;go_loopw [4,28] (fun v i wr=>wr=w∧∃k:Nat,k≤n∧i=.int .i64 k∧∃D:Int,v=.int .i64 D∧0≤D∧D≤1000000000∧Hid (D=dec (d.take k))∧Hid ((d.take k).all digit=true)) (fun _ i _=>n- (intOf i).toNat)
     case atStart=>exact⟨rfl,0,Nat.zero_le _,rfl,0,rfl,Int.le_refl _,by decide,by simp[Hid,dec],by simp[Hid]⟩
     case round=>
      obtain⟨rfl,k,hk,rfl,D,rfl,hD0,hD1,hD,hall⟩:=hrel;by_cases hlt:k<n
      ·have hkl:k<d.length:=by rw[←hN.out];exact hlt
       have y1:=hR.out.at k hkl;obtain⟨q,hq⟩:∃q,q=d[k].toNat:=⟨_,rfl⟩;rw[←hq]at y1;have HQ:=Hm hq;clear hq;have k1:(k:Int)<(n:Int):=by omega
       by_cases hg:48≤q∧q≤57
       ·have dg:digit d[k]=true:=by unfold digit;rw[←HQ.out];simp[hg.1,hg.2]
        have ha:Hid ((d.take (k+1)).all digit=true):=Wf hkl hall.out dg;have hs:=Wr (k:=k+1) (by omega) ha.out;rw[YJ hkl,←hD.out,←HQ.out]at hs;have hD':Hid (10*D+((q:Int) -48)=dec (d.take (k+1))):=by unfold Hid;rw[YJ hkl,←hD.out,←HQ.out];omega
        have q1:IntKind.u8.wrap ((q:Int) -48)=(q:Int) -48:=by rw[IntKind.wrap_u8];omega
        have q2:IntKind.i64.wrap ((q:Int) -48)=(q:Int) -48:=by rw[IntKind.wrap_i64];omega
        have q3:IntKind.i64.wrap (10*D)=10*D:=by rw[IntKind.wrap_i64];omega
        have q4:IntKind.i64.wrap (10*D+((q:Int) -48))=10*D+((q:Int) -48):=by rw[IntKind.wrap_i64];omega
        have gb:(decide (48≤q)&&decide (q≤57))=true:=by simp[hg.1,hg.2]
        go_wp2_with (go_at_call 126;refine(digitI q _).mono ?_;rintro e w1 ⟨rfl,rfl⟩;rw[gb]);exact⟨⟨by first|exact trivial|rfl,k+1,by omega,by go_num,10*D+((q:Int) -48),by first|rfl|simp[q4],by omega,by omega,hD',ha⟩,by simp[intOf];omega⟩
       ·have HV:Hid (xB d=.tuple #[.int .i64 0,.bool false]):=xJ (We hkl (by unfold digit;rw[←HQ.out];simp;omega))
        have gb:(decide (48≤q)&&decide (q≤57))=false:=by simp;omega
        clear hg;go_wp2_with (go_at_call 126;refine(digitI q _).mono ?_;rintro e w1 ⟨rfl,rfl⟩;rw[gb]);go_ret2
        (rw[HV.out];exact⟨rfl,rfl⟩)
      ·obtain rfl:k=n:=by omega
       have et:d.take k=d:=List.take_of_length_le (by rw[←hN.out];omega)
       have HV:Hid (xB d=.tuple #[.int .i64 D,.bool true]):=by
        unfold Hid xB;have:=hall.out;rw[et]at this;rw[HP.out,this,hD.out,et];rfl
       clear et;have k1:decide ((k:Int)<(k:Int))=false:=by simp
       go_wp2;go_ret2
       (rw[HV.out];exact⟨rfl,rfl⟩)
    ·have n3:decide ((1:Int)<(n:Int))=false:=by simp;omega
     have h1':=Hm h1;have h2':=Hm h2;clear h1 h0 body h2;go_enter Tryz.func150,Tryz.ntmps150;go_wp2;clear x0;go_loopw [4,28] (fun v i wr=>wr=w∧∃k:Nat,k≤n∧i=.int .i64 k∧∃D:Int,v=.int .i64 D∧0≤D∧D≤1000000000∧Hid (D=dec (d.take k))∧Hid ((d.take k).all digit=true)) (fun _ i _=>n- (intOf i).toNat)
     case atStart=>exact⟨rfl,0,Nat.zero_le _,rfl,0,rfl,Int.le_refl _,by decide,by simp[Hid,dec],by simp[Hid]⟩
     case round=>
      obtain⟨rfl,k,hk,rfl,D,rfl,hD0,hD1,hD,hall⟩:=hrel;by_cases hlt:k<n
      ·have hkl:k<d.length:=by rw[←hN.out];exact hlt
       have y1:=hR.out.at k hkl;obtain⟨q,hq⟩:∃q,q=d[k].toNat:=⟨_,rfl⟩;rw[←hq]at y1;have HQ:=Hm hq;clear hq;have k1:(k:Int)<(n:Int):=by omega
       by_cases hg:48≤q∧q≤57
       ·have dg:digit d[k]=true:=by unfold digit;rw[←HQ.out];simp[hg.1,hg.2]
        have ha:Hid ((d.take (k+1)).all digit=true):=Wf hkl hall.out dg;have hs:=Wr (k:=k+1) (by omega) ha.out;rw[YJ hkl,←hD.out,←HQ.out]at hs;have hD':Hid (10*D+((q:Int) -48)=dec (d.take (k+1))):=by unfold Hid;rw[YJ hkl,←hD.out,←HQ.out];omega
        have q1:IntKind.u8.wrap ((q:Int) -48)=(q:Int) -48:=by rw[IntKind.wrap_u8];omega
        have q2:IntKind.i64.wrap ((q:Int) -48)=(q:Int) -48:=by rw[IntKind.wrap_i64];omega
        have q3:IntKind.i64.wrap (10*D)=10*D:=by rw[IntKind.wrap_i64];omega
        have q4:IntKind.i64.wrap (10*D+((q:Int) -48))=10*D+((q:Int) -48):=by rw[IntKind.wrap_i64];omega
        have gb:(decide (48≤q)&&decide (q≤57))=true:=by simp[hg.1,hg.2]
        go_wp2_with (go_at_call 126;refine(digitI q _).mono ?_;rintro e w1 ⟨rfl,rfl⟩;rw[gb]);exact⟨⟨by first|exact trivial|rfl,k+1,by omega,by go_num,10*D+((q:Int) -48),by first|rfl|simp[q4],by omega,by omega,hD',ha⟩,by simp[intOf];omega⟩
       ·have HV:Hid (xB d=.tuple #[.int .i64 0,.bool false]):=xJ (We hkl (by unfold digit;rw[←HQ.out];simp;omega))
        have gb:(decide (48≤q)&&decide (q≤57))=false:=by simp;omega
        clear hg;go_wp2_with (go_at_call 126;refine(digitI q _).mono ?_;rintro e w1 ⟨rfl,rfl⟩;rw[gb]);go_ret2
        (rw[HV.out];exact⟨rfl,rfl⟩)
      ·obtain rfl:k=n:=by omega
       have et:d.take k=d:=List.take_of_length_le (by rw[←hN.out];omega)
       have HV:Hid (xB d=.tuple #[.int .i64 D,.bool true]):=by
        unfold Hid xB;have:=hall.out;rw[et]at this;rw[HP.out,this,hD.out,et];rfl
       clear et;have k1:decide ((k:Int)<(k:Int))=false:=by simp
       go_wp2;go_ret2
       (rw[HV.out];exact⟨rfl,rfl⟩)
def hd (sep:UInt8) (bs:List UInt8):List UInt8:=bs.takeWhile (fun b=>b !=sep)
def tl (sep:UInt8) (bs:List UInt8):List UInt8:=bs.drop ((hd sep bs).length+1)
theorem hd_at {bs:List UInt8} {sep:UInt8} {k:Nat} (h:Lib.indexByte bs sep=k):k<bs.length∧hd sep bs=bs.take k∧tl sep bs=bs.drop (k+1)∧sep∈bs:=by
 obtain⟨hk,e,hn⟩:=S6 h
 have h1:hd sep bs=bs.take k:=by
  unfold hd;generalize ha:bs.take k=x at*;generalize hb:bs.drop (k+1)=y at*;rw[e,List.takeWhile_append_of_pos (by intro a hm;simp;intro e';subst e';exact hn hm)];simp
 refine⟨hk,h1,?_,?_⟩
 ·unfold tl
  rw[h1,List.length_take,Nat.min_eq_left (by omega)]
 ·rw[e];simp
theorem hd_none {bs:List UInt8} {sep:UInt8} (h:sep ∉ bs):hd sep bs=bs∧tl sep bs=[]:=by
 have h1:hd sep bs=bs:=by
  have:=List.takeWhile_append_of_pos (p:=fun b=>b !=sep) (l₁:=bs) (l₂:=[]) (by intro a hm;simp;intro e';subst e';exact h hm);simpa[hd]using this
 refine⟨h1,?_⟩;unfold tl;rw[h1];exact List.drop_eq_nil_of_le (by omega)
def Txt (B:Nat) (w:World) (v:Value) (bs:List UInt8):Prop:=
 ∃p c,v=.slice p bs.length c∧bs.length≤c∧((p=none∧c=0)∨∃g o,p=some ⟨g,o,none⟩∧∀j (h:j<bs.length),g<B∧w.cell? ⟨g,o+j,none⟩=some (.int .u8 (bs[j].toNat:Int)))
theorem Txt.below {B:Nat} {w w':World} {v:Value} {bs:List UInt8} (h:Txt B w v bs) (hb:Below B w w'):Txt B w' v bs:=by
 obtain⟨p,c,e,hc,h⟩:=h;refine⟨p,c,e,hc,?_⟩;rcases h with h|⟨g,o,e1,h⟩
 ·exact Or.inl h
 ·refine Or.inr ⟨g,o,e1,fun j hj=>⟨(h j hj).1,?_⟩⟩
  rw[hb.cell (p:=⟨g,o+j,none⟩) (h j hj).1];exact(h j hj).2
theorem Txt.rd {B:Nat} {w:World} {v:Value} {bs:List UInt8} (h:Txt B w v bs):∃p c,v=.slice p bs.length c∧bs.length≤c∧((p=none∧c=0)∨∃g o,p=some ⟨g,o,none⟩)∧Rd w p bs:=by
 obtain⟨p,c,e,hc,h⟩:=h;rcases h with⟨rfl,rfl⟩|⟨g,o,rfl,h⟩
 ·exact⟨none,0,e,hc,Or.inl ⟨rfl,rfl⟩,fun j hj=>by omega⟩
 ·exact⟨_,c,e,hc,Or.inr ⟨g,o,rfl⟩,fun j hj=>⟨g,o,rfl,(h j hj).2⟩⟩
theorem Txt.nil (B:Nat) (w:World):Txt B w (.slice none 0 0) []:=⟨none,0,rfl,qp _,Or.inl ⟨rfl,rfl⟩⟩
theorem Txt.take {B:Nat} {w:World} {p:Option Addr} {c:Nat} {bs:List UInt8} {n:Nat} (h:Txt B w (.slice p n c) bs) (k:Nat) (hk:k≤bs.length):Txt B w (.slice p k c) (bs.take k):=by
 obtain⟨p',c',e,hc,h⟩:=h;injection e with e1 e2 e3;subst e1 e2 e3;refine⟨p,c,by rw[List.length_take,Nat.min_eq_left hk],by rw[List.length_take];omega,?_⟩;rcases h with h|⟨g,o,e1,h⟩
 ·exact Or.inl h
 ·refine Or.inr ⟨g,o,e1,fun j hj=>?_⟩
  rw[List.length_take]at hj;rw[List.getElem_take];exact h j (by omega)
theorem Txt.drop {B:Nat} {w:World} {g o c:Nat} {bs:List UInt8} {n:Nat} (h:Txt B w (.slice (some ⟨g,o,none⟩) n c) bs) (k:Nat) (hk:k≤bs.length):Txt B w (.slice (some ⟨g,o+k,none⟩) (n-k) (c-k)) (bs.drop k):=by
 obtain⟨p',c',e,hc,h⟩:=h;injection e with e1 e2 e3;subst e1 e2 e3;refine⟨_,_,by rw[List.length_drop],by rw[List.length_drop];omega,Or.inr ⟨g,o+k,rfl,fun j hj=>?_⟩⟩;rcases h with⟨h,-⟩|⟨g',o',e1,h⟩
 ·cases h
 ·injection e1 with e1
  injection e1 with e1 e2;subst e1 e2;rw[List.length_drop]at hj;rw[List.getElem_drop,Nat.add_assoc];exact h (k+j) (by omega)
theorem Txt.end {B:Nat} {w:World} (g o:Nat) (c:Nat):Txt B w (.slice (some ⟨g,o,none⟩) 0 c) []:=⟨_,_,rfl,by simp,Or.inr ⟨g,o,rfl,fun j hj=>by simp at hj⟩⟩
def ints (bs:List UInt8):List Int:=bs.map (fun b=>(b.toNat:Int))
theorem Ub (bs:List UInt8):Lib.bytesOf (ints bs)=bs:=by
 unfold Lib.bytesOf ints;rw[List.map_map]
 conv=>rhs;rw[←List.map_id bs]
 apply List.map_congr_left;intro b _;simp
theorem Rd.ints {w:World} {g o:Nat} {bs:List UInt8} (h:Rd w (Option.some ⟨g,o,none⟩) bs):∀i,i<bs.length→w.cell? ⟨g,o+i,none⟩=Option.some (.int .u8 ((Parse.ints bs).getD i 0)):=fun i hi=>by
 rw[h.at i hi];simp[Parse.ints,List.getD,hi]
theorem TR {P:Program} (w:World) (g o n c:Nat) (bs:List UInt8) (hn:n=bs.length) (h:Rd w (some ⟨g,o,none⟩) bs) (sep:UInt8):
  (Extern.BytealgCount.count #[.slice (some ⟨g,o,none⟩) n c,.int .u8 (sep.toNat:Int)]).run P w=.ok (.int .i64 (bs.count sep:Nat)) w:=by
 have hl:=Lib.run_loadBytesX (P:=P) w (ints bs) ⟨g,o,none⟩ .empty (fun j x hj=>by
  have hjl:j<bs.length:=by have:=(List.getElem?_eq_some_iff.1 hj).1;simpa[ints]using this
  have e:(⟨g,o,none⟩:Addr).add j=⟨g,o+j,none⟩:=by unfold Addr.add;split<;>simp_all
  rw[e,h.ints j hjl,List.getD_eq_getElem?_getD,hj]
  rfl)
 have hx:(ints bs).length=n:=by rw[hn];simp[ints]
 rw[hx,Ub]at hl
 have he:(⟨ByteArray.empty.data++bs.toArray⟩:ByteArray)=⟨bs.toArray⟩:=by
  apply ByteArray.ext;show(#[]:Array UInt8)++bs.toArray=bs.toArray;simp
 rw[he]at hl;have hs:=Lib.run_countString (P:=P) ⟨bs.toArray⟩ (sep.toNat:Int) w;have hf:∀v,Extern.BytealgCount.count #[v,.int .u8 (sep.toNat:Int)]=(Extern.Bytes.bytesOf v >>=fun b=>Extern.BytealgCount.count #[.string b,.int .u8 (sep.toNat:Int)]):=fun v=>rfl
 rw[hf];simp only[Extern.Bytes.bytesOf,Sem.run_bind,Sem.run_pure,hl,Result.andThen];rw[hs];simp[Lib.countByte]
end Go.Proofs.YtbkajklninmhiaaGreatDoor.Parse
namespace Go.Proofs.YtbkajklninmhiaaGreatDoor.Parse
open Go Go.RowKit Mem
theorem WW {P:Program} (w:World) (src dst e:TypeId) (a:Option Addr) (n c:Nat) (f:List UInt8) (hn:n=f.length) (hr:Rd w a f) (hs:P.underlying src=some (.slice e)) (he:P.underlying e=some (.int .u8)) (hd:P.underlying dst=some .string):
  (convert src dst (.slice a n c)).run P w=.ok (.string ⟨f.toArray⟩) w:=by
 by_cases h0:n=0
 ·have:f=[]:=List.eq_nil_of_length_eq_zero (by omega)
  subst this;subst h0;rw[run_convert_bytes_string w src dst e _ 0 c hs he hd]
  cases a<;>simp[Conv.bytesToString,loadCells]
  all_goals rfl
 ·obtain⟨g,o,rfl⟩:=hr.some (by omega)
  rw[hn];exact run_convert_bytes_back w src dst e ⟨g,o,none⟩ c f hs he hd (fun j hj=>by rw[Addr.add_mid];exact hr.at j hj)
end Go.Proofs.YtbkajklninmhiaaGreatDoor.Parse
namespace Go.Proofs.YtbkajklninmhiaaGreatDoor.Parse
open Go Go.RowKit Mem
attribute [local go_sem ↓] Go.wp_at_zero Go.wp_at_succ
theorem XO (w:World) (q:Nat):Below w.heap.size w (w.drewN q):=below_drewN' (Below.refl _ _) q
theorem Txt.drew {B:Nat} {w:World} {v:Value} {bs:List UInt8} (h:Txt B w v bs) (q:Nat):Txt B (w.drewN q) v bs:=h.below ⟨rfl,rfl,rfl,qp _,fun _ _=>rfl⟩
def signed (f:List UInt8):Bool:=decide (f.head? =some 45)
theorem zi {a b c:World} {r:Option Nat} (h:a.grownBy b r) (k:b.grownBy c r):a.grownBy c r:=
 ⟨k.os.trans h.os,k.tape.trans h.tape,k.output.trans h.output,qq h.size k.size,fun i hi hr=>(k.block i (by have:=h.size;omega) hr).trans (h.block i hi hr)⟩
theorem zD {a b:World} {r:Option Nat} (h:Below a.heap.size a b):a.grownBy b r:=⟨h.os,h.tape,h.output,h.size,fun i hi _=>h.block i hi⟩
theorem yJ (w:World) (g i:Nat) (v:Value):w.grownBy (w.setCell ⟨g,i,none⟩ v) (some g):=Lib.grownBy_setCell w g i v
theorem Zd {B g:Nat} {w w':World} (h:w.grownBy w' (some g)) (hB:B≤g) (hs:B≤w.heap.size):Below B w w':=
 ⟨h.os,h.tape,h.output,h.size,fun k hk=>h.block k (by omega) (by simp;omega)⟩
theorem Txt.set {B g:Nat} {w:World} {v:Value} {bs:List UInt8} (h:Txt B w v bs) (hB:B≤g) (i:Nat) (u:Value):Txt B (w.setCell ⟨g,i,none⟩ u) v bs:=h.below ((Below.refl _ _).setCell (p:=⟨g,i,none⟩) hB u)
theorem Txt.shape {B:Nat} {w:World} {v:Value} {bs:List UInt8} (h:Txt B w v bs):∃p n c,v=.slice p n c:=by
 obtain⟨p,c,e,-⟩:=h;exact⟨p,_,c,e⟩
end Go.Proofs.YtbkajklninmhiaaGreatDoor.Parse
