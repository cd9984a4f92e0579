import Derived.Test.YtbkajklninmhiaaGreatDoorPm02
set_option linter.unusedVariables false
open List renaming length_cons → qh
open Nat renaming le_refl → qp, le_trans → qq, lt_of_lt_of_le → qr, le_of_lt → qs, lt_of_le_of_lt → qt
namespace Go.Proofs.YtbkajklninmhiaaGreatDoor.Par
open Go Syn
structure Tk where
 k:Nat
 at':Nat
 n:List UInt8
 v:Int
inductive Rs (α:Type) where
 |out
 |bad (c:Int) (at':Nat)
 |ok (x:α)
def Rs.bnd {α β:Type} (r:Rs α) (f:α→Rs β):Rs β:=match r with
 |.out=>.out
 |.bad c a=>.bad c a
 |.ok x=>f x
def _root_.Go.Proofs.YtbkajklninmhiaaGreatDoor.Syn.Tr.pf:Tr→List Po
 |.leaf o=>[o]
 |.pre o a=>a.pf++[o]
 |.bin o a b=>a.pf++b.pf++[o]
 |.two o a b=>a.pf++b.pf++[o]
 |.three o a b c=>a.pf++b.pf++c.pf++[o]
section
variable (T:Nat→Tk)
def adv (i:Nat):Rs Nat:=if (T (i+1)).k=50 then .bad 2 (T (i+1)).at' else if (T (i+1)).k=51 then .bad 3 (T (i+1)).at' else .ok (i+1)
def exp (k i:Nat):Rs Nat:=if (T i).k=k then adv T i else .bad 4 (T i).at'
def cnt (i o:Nat):Rs Nat:=if o=2000 then .bad 6 (T i).at' else .ok (o+1)
def Yn (i d:Nat):Rs Unit:=if d=64 then .bad 5 (T i).at' else .ok ()
def U9 (t:Tk):Bool:=t.n.length==1&&decide ((t.n.getD 0 0).toNat<113)
def Yw (i:Nat):Rs (Int×Nat):=if U9 (T i)=true then (adv T i).bnd fun j=>.ok ((((T i).n.getD 0 0).toNat:Int) -97,j)else .bad 4 (T i).at'
def wop (t:Tk):Option Po:=
 if t.k=1 then some ⟨1,t.v,[]⟩else if t.k=2 then some ⟨2,0,t.n⟩else if t.k=28∨t.k=29 then some ⟨6,(t.k:Int) -28,[]⟩
 else if 30≤t.k∧t.k≤42 then some ⟨3,(t.k:Int) -30,[]⟩else none
def isB (k:Nat):Bool:=decide (8≤k)&&decide (k≤15)
def atB (s i:Nat):Bool:=isB (T i).k&&decide (z9 ((T i).k-8:Int)=s)
def bo (k:Nat):Po:=⟨9,(k:Int) -8,[]⟩
def U8 (k:Nat):Po:=if k=10 then ⟨7,0,[]⟩else ⟨8,0,[]⟩
def Zh (v:Nat):List Tr→Tr
 |[a,b]=>.two ⟨10,v,[]⟩ a b
 |[a,b,c]=>.three ⟨10,v,[]⟩ a b c
 |_=>.leaf ⟨10,v,[]⟩
mutual
def ex:Nat→Nat→Nat→Nat→Nat→Rs (Tr×Nat×Nat)
 |0,_,_,_,_=>.out
 |f+1,s,i,o,d=>if s=6 then un f i o d else (ex f (s+1) i o d).bnd fun x=>lp f s x.1 x.2.1 x.2.2 d
def lp:Nat→Nat→Tr→Nat→Nat→Nat→Rs (Tr×Nat×Nat)
 |0,_,_,_,_,_=>.out
 |f+1,s,l,i,o,d=>
  if atB T s i=true then (cnt T i o).bnd fun o1=>(adv T i).bnd fun j=>(ex f (s+1) j o1 d).bnd fun x=>
   if s=3 then .ok (.bin (bo (T i).k) l x.1,x.2.1,x.2.2)else lp f s (.bin (bo (T i).k) l x.1) x.2.1 x.2.2 d
  else .ok (l,i,o)
def un:Nat→Nat→Nat→Nat→Rs (Tr×Nat×Nat)
 |0,_,_,_=>.out
 |f+1,i,o,d=>
  if (T i).k=10∨(T i).k=47 then (cnt T i o).bnd fun o1=>(Yn T i d).bnd fun _=>(adv T i).bnd fun j=>(un f j o1 (d+1)).bnd fun x=>.ok (.pre (U8 (T i).k) x.1,x.2.1,x.2.2)
  else pr f i o d
def pr:Nat→Nat→Nat→Nat→Rs (Tr×Nat×Nat)
 |0,_,_,_=>.out
 |f+1,i,o,d=>
  if (T i).k=5 then (og f 1 i o d).bnd fun x=>.ok (x.1.headD (.leaf ⟨0,0,[]⟩),x.2.1,x.2.2)
  else if 25≤(T i).k∧(T i).k≤27 then (cnt T i o).bnd fun o1=>(adv T i).bnd fun j=>(og f (if (T i).k=27 then 3 else 2) j o1 d).bnd fun x=>.ok (Zh ((T i).k-25) x.1,x.2.1,x.2.2)
  else if (T i).k=48∨(T i).k=49 then (cnt T i o).bnd fun o1=>(adv T i).bnd fun j=>(Yw T j).bnd fun x=>.ok (.leaf ⟨((T i).k:Int) -44,x.1,[]⟩,x.2,o1)
  else match wop (T i)with
   |none=>.bad 4 (T i).at'
   |some p=>(cnt T i o).bnd fun o1=>(adv T i).bnd fun j=>.ok (.leaf p,j,o1)
def og:Nat→Nat→Nat→Nat→Nat→Rs (List Tr×Nat×Nat)
 |0,_,_,_,_=>.out
 |f+1,m,i,o,d=>
  if (T i).k=5 then (Yn T i d).bnd fun _=>(adv T i).bnd fun j=>(ex f 1 j o (d+1)).bnd fun x=>(ol f (m-1) [x.1] x.2.1 x.2.2 (d+1)).bnd fun y=>(exp T 6 y.2.1).bnd fun j'=>.ok (y.1,j',y.2.2)
  else .bad 4 (T i).at'
def ol:Nat→Nat→List Tr→Nat→Nat→Nat→Rs (List Tr×Nat×Nat)
 |0,_,_,_,_,_=>.out
 |f+1,0,L,i,o,d=>.ok (L,i,o)
 |f+1,m+1,L,i,o,d=>(exp T 4 i).bnd fun j=>(ex f 1 j o d).bnd fun x=>ol f m (L++[x.1]) x.2.1 x.2.2 d
end
end
theorem zj {α β:Type} (x:α) (f:α→Rs β):(Rs.ok x).bnd f=f x:=rfl
theorem zx {α β:Type} (c:Int) (a:Nat) (f:α→Rs β):(Rs.bad c a:Rs α).bnd f=.bad c a:=rfl
structure Ent where
 k:Nat
 v:Int
 l:Nat
def eop (e:Ent):Po:=if e.k=1 then ⟨7,0,[]⟩else if e.k=2 then ⟨8,0,[]⟩else if e.k=3 then ⟨9,e.v,[]⟩else ⟨10,e.v,[]⟩
def Sb (s:Nat) (e:Ent):Bool:=if s=6 then (e.k==1||e.k==2)else (e.k==3&&decide ((s:Int)≤z9 e.v))
def dr (s:Nat):List Ent→List Po→List Ent×List Po
 |[],out=>([],out)
 |e::r,out=>if Sb s e=true then dr s r (out++[eop e])else (e::r,out)
def opens:List Ent→Nat
 |[]=>0
 |e::r=>if e.k=3 then opens r else opens r+1
def inn:List Ent→Option Ent
 |[]=>none
 |e::r=>if 4≤e.k then some e else inn r
structure MS where
 i:Nat
 o:Nat
 st:List Ent
 out:List Po
 want:Bool
def cmpTop:List Ent→Bool
 |[]=>false
 |e::_=>e.k==3&&decide (z9 e.v=3)
def decL:List Ent→List Ent
 |[]=>[]
 |e::r=>⟨e.k,e.v,e.l-1⟩::r
def fin (e:Ent):List Po:=if e.k=5 then [eop e]else []
section
variable (T:Nat→Tk)
def flt (c:Int) (i:Nat):Rs (List Po×Nat×Nat):=if (T i).k=50 then .bad 2 (T i).at' else if (T i).k=51 then .bad 3 (T i).at' else .bad c (T i).at'
def stp (S:MS):MS ⊕ Rs (List Po×Nat×Nat):=
 if 50≤(T S.i).k then .inr (flt T 4 S.i)
 else if S.want=true then
  if (T S.i).k=48∨(T S.i).k=49 then
   if S.o=2000 then .inr (.bad 6 (T S.i).at')
   else if U9 (T (S.i+1))=true then .inl ⟨S.i+2,S.o+1,(dr 6 S.st (S.out++[⟨((T S.i).k:Int) -44,(((T (S.i+1)).n.getD 0 0).toNat:Int) -97,[]⟩])).1,(dr 6 S.st (S.out++[⟨((T S.i).k:Int) -44,(((T (S.i+1)).n.getD 0 0).toNat:Int) -97,[]⟩])).2,false⟩
   else .inr (flt T 4 (S.i+1))
  else match wop (T S.i)with
   |some p=>if S.o=2000 then .inr (.bad 6 (T S.i).at')else .inl ⟨S.i+1,S.o+1,(dr 6 S.st (S.out++[p])).1,(dr 6 S.st (S.out++[p])).2,false⟩
   |none=>
    if (T S.i).k=10∨(T S.i).k=47 then
     if S.o=2000 then .inr (.bad 6 (T S.i).at')
     else if opens S.st=64 then .inr (.bad 5 (T S.i).at')
     else .inl ⟨S.i+1,S.o+1,⟨if (T S.i).k=10 then 1 else 2,0,0⟩::S.st,S.out,true⟩
    else if (T S.i).k=5 then
     if opens S.st=64 then .inr (.bad 5 (T S.i).at')else .inl ⟨S.i+1,S.o,⟨4,0,0⟩::S.st,S.out,true⟩
    else if 25≤(T S.i).k∧(T S.i).k≤27 then
     if S.o=2000 then .inr (.bad 6 (T S.i).at')
     else if (T (S.i+1)).k=5 then
      if opens S.st=64 then .inr (.bad 5 (T (S.i+1)).at')else .inl ⟨S.i+2,S.o+1,⟨5,(((T S.i).k-25:Nat):Int),if (T S.i).k=27 then 2 else 1⟩::S.st,S.out,true⟩
     else .inr (flt T 4 (S.i+1))
    else .inr (.bad 4 (T S.i).at')
 else if isB (T S.i).k=true then
  if z9 ((T S.i).k-8:Int)=3∧cmpTop (dr 4 S.st S.out).1=true then .inr (.bad 4 (T S.i).at')
  else if S.o=2000 then .inr (.bad 6 (T S.i).at')
  else .inl ⟨S.i+1,S.o+1,⟨3,((T S.i).k:Int) -8,0⟩::(dr (z9 ((T S.i).k-8:Int)).toNat S.st S.out).1,(dr (z9 ((T S.i).k-8:Int)).toNat S.st S.out).2,true⟩
 else match inn S.st with
  |none=>.inr (.ok ((dr 1 S.st S.out).2,S.i,S.o))
  |some e=>
   if (T S.i).k=4∧0<e.l then .inl ⟨S.i+1,S.o,decL (dr 1 S.st S.out).1,(dr 1 S.st S.out).2,true⟩
   else if (T S.i).k=6∧e.l=0 then .inl ⟨S.i+1,S.o,(dr 6 (dr 1 S.st S.out).1.tail ((dr 1 S.st S.out).2++fin e)).1,(dr 6 (dr 1 S.st S.out).1.tail ((dr 1 S.st S.out).2++fin e)).2,false⟩
   else .inr (.bad 4 (T S.i).at')
inductive Ends:MS→Rs (List Po×Nat×Nat)→Prop
 |stop (S:MS) (R:Rs (List Po×Nat×Nat)) (h:stp T S=.inr R):Ends S R
 |go (S S':MS) (R:Rs (List Po×Nat×Nat)) (h:stp T S=.inl S') (h':Ends S' R):Ends S R
def Xb (S S':MS):Prop:=∀R,Ends T S' R→Ends T S R
end
end Go.Proofs.YtbkajklninmhiaaGreatDoor.Par
namespace Go.Proofs.YtbkajklninmhiaaGreatDoor.Par
open Go Syn
variable {T:Nat→Tk}
def Ans {α:Type} (r:Rs (α×Nat×Nat)) (i:Nat):Prop:=match r with
 |.out=>False
 |.bad _ _=>True
 |.ok x=>i<x.2.1
def AnsL {α:Type} (r:Rs (α×Nat×Nat)) (i:Nat):Prop:=match r with
 |.out=>False
 |.bad _ _=>True
 |.ok x=>i≤x.2.1
theorem Zi (T:Nat→Tk) (i:Nat):adv T i=.ok (i+1)∨∃c a,adv T i=.bad c a:=by
 unfold adv;split
 ·exact .inr ⟨_,_,rfl⟩
 ·split
  ·exact .inr ⟨_,_,rfl⟩
  ·exact .inl rfl
theorem YM (T:Nat→Tk) (i o:Nat):cnt T i o=.ok (o+1)∨∃c a,cnt T i o=.bad c a:=by
 unfold cnt;split
 ·exact .inr ⟨_,_,rfl⟩
 ·exact .inl rfl
theorem UI (T:Nat→Tk) (i d:Nat):Yn T i d=.ok ()∨∃c a,Yn T i d=.bad c a:=by
 unfold Yn;split
 ·exact .inr ⟨_,_,rfl⟩
 ·exact .inl rfl
theorem UU (T:Nat→Tk) (k i:Nat):(exp T k i=.ok (i+1)∧(T i).k=k)∨∃c a,exp T k i=.bad c a:=by
 unfold exp;split
 ·rename_i h
  rcases Zi T i with h'|⟨c,a,h'⟩
  ·exact .inl ⟨h',h⟩
  ·exact .inr ⟨c,a,h'⟩
 ·exact .inr ⟨_,_,rfl⟩
theorem UY {N:Nat} (hN:∀i,N≤i→(T i).k=0∨50≤(T i).k):∀f,
  (∀s i o d,1≤s→s≤6→12*(N-i)+12-s≤f→Ans (ex T f s i o d) i)∧
  (∀s l i o d,1≤s→s≤5→12*(N-i)+1≤f→AnsL (lp T f s l i o d) i)∧
  (∀i o d,12*(N-i)+5≤f→Ans (un T f i o d) i)∧
  (∀i o d,12*(N-i)+4≤f→Ans (pr T f i o d) i)∧
  (∀m i o d,12*(N-i)+3≤f→Ans (og T f m i o d) i)∧
  (∀m L i o d,12*(N-i)+1≤f→AnsL (ol T f m L i o d) i)
 |0=>by
  refine⟨fun s i o d h h' h''=>by omega,fun s l i o d h h' h''=>by omega,fun i o d h=>by omega,fun i o d h=>by omega,fun m i o d h=>by omega,fun m L i o d h=>by omega⟩
 |f+1=>by
  obtain⟨hE,hL,hU,hP,hG,hO⟩:=UY hN f;have lt:∀i,(T i).k≠0→(T i).k<50→i<N:=fun i h h'=>Nat.lt_of_not_le fun hh=>by rcases hN i hh with g|g<;>omega
  refine⟨?_,?_,?_,?_,?_,?_⟩
  ·intro s i o d h1 h6 hf
   rw[ex]
   split
   ·exact hU i o d (by omega)
   ·have:=hE (s+1) i o d (by omega) (by omega) (by omega)
    cases hx:ex T f (s+1) i o d with
    |out=>rw[hx]at this;exact this.elim
    |bad c a=>trivial
    |ok x=>
     rw[hx]at this;rw[zj];have hlt:i<x.2.1:=this;have:=hL s x.1 x.2.1 x.2.2 d h1 (by omega) (by omega)
     cases hy:lp T f s x.1 x.2.1 x.2.2 d with
     |out=>rw[hy]at this;exact this.elim
     |bad c a=>trivial
     |ok y=>rw[hy]at this;exact qr hlt this
  ·intro s l i o d h1 h5 hf
   rw[lp]
   split
   ·rename_i hb
    have hi:i<N:=by
     unfold atB isB at hb;simp at hb;exact lt i (by omega) (by omega)
    rcases YM T i o with h|⟨c,a,h⟩
    ·rw[h,zj]
     rcases Zi T i with h|⟨c,a,h⟩
     ·rw[h,zj]
      have:=hE (s+1) (i+1) (o+1) d (by omega) (by omega) (by omega)
      cases hx:ex T f (s+1) (i+1) (o+1) d with
      |out=>rw[hx]at this;exact this.elim
      |bad c a=>trivial
      |ok x=>
       rw[hx]at this;have hlt:i+1<x.2.1:=this;rw[zj]
       split
       ·exact qs (Nat.lt_of_succ_lt hlt)
       ·have:=hL s (.bin (bo (T i).k) l x.1) x.2.1 x.2.2 d h1 h5 (by omega)
        cases hy:lp T f s (.bin (bo (T i).k) l x.1) x.2.1 x.2.2 d with
        |out=>rw[hy]at this;exact this.elim
        |bad c a=>trivial
        |ok y=>rw[hy]at this;exact qq (qs (Nat.lt_of_succ_lt hlt)) this
     ·rw[h,zx];trivial
    ·rw[h,zx];trivial
   ·exact qp _
  ·intro i o d hf
   rw[un]
   split
   ·rename_i hk
    have hi:i<N:=lt i (by omega) (by omega);rcases YM T i o with h|⟨c,a,h⟩
    ·rw[h,zj]
     rcases UI T i d with h|⟨c,a,h⟩
     ·rw[h,zj]
      rcases Zi T i with h|⟨c,a,h⟩
      ·rw[h,zj]
       have:=hU (i+1) (o+1) (d+1) (by omega)
       cases hx:un T f (i+1) (o+1) (d+1)with
       |out=>rw[hx]at this;exact this.elim
       |bad c a=>trivial
       |ok x=>rw[hx]at this;exact Nat.lt_of_succ_lt this
      ·rw[h,zx];trivial
     ·rw[h,zx];trivial
    ·rw[h,zx];trivial
   ·exact hP i o d (by omega)
  ·intro i o d hf
   rw[pr]
   split
   ·rename_i hk
    have:=hG 1 i o d (by omega)
    cases hx:og T f 1 i o d with
    |out=>rw[hx]at this;exact this.elim
    |bad c a=>trivial
    |ok x=>rw[hx]at this;exact this
   ·split
    ·rename_i hk
     have hi:i<N:=lt i (by omega) (by omega);rcases YM T i o with h|⟨c,a,h⟩
     ·rw[h,zj]
      rcases Zi T i with h|⟨c,a,h⟩
      ·rw[h,zj]
       have:=hG (if (T i).k=27 then 3 else 2) (i+1) (o+1) d (by omega)
       cases hx:og T f (if (T i).k=27 then 3 else 2) (i+1) (o+1) d with
       |out=>rw[hx]at this;exact this.elim
       |bad c a=>trivial
       |ok x=>rw[hx]at this;exact Nat.lt_of_succ_lt this
      ·rw[h,zx];trivial
     ·rw[h,zx];trivial
    ·split
     ·rcases YM T i o with h|⟨c,a,h⟩
      ·rw[h,zj]
       rcases Zi T i with h|⟨c,a,h⟩
       ·rw[h,zj]
        unfold Yw
        split
        ·rcases Zi T (i+1)with h|⟨c,a,h⟩
         ·rw[h];show i<i+1+1;omega
         ·rw[h];trivial
        ·trivial
       ·rw[h,zx];trivial
      ·rw[h,zx];trivial
     ·split
      ·trivial
      ·rcases YM T i o with h|⟨c,a,h⟩
       ·rw[h,zj]
        rcases Zi T i with h|⟨c,a,h⟩
        ·rw[h];exact Nat.lt_succ_self _
        ·rw[h];trivial
       ·rw[h,zx];trivial
  ·intro m i o d hf
   rw[og]
   split
   ·rename_i hk
    have hi:i<N:=lt i (by omega) (by omega);rcases UI T i d with h|⟨c,a,h⟩
    ·rw[h,zj]
     rcases Zi T i with h|⟨c,a,h⟩
     ·rw[h,zj]
      have:=hE 1 (i+1) o (d+1) (by omega) (by omega) (by omega)
      cases hx:ex T f 1 (i+1) o (d+1)with
      |out=>rw[hx]at this;exact this.elim
      |bad c a=>trivial
      |ok x=>
       rw[hx]at this;have hlt:i+1<x.2.1:=this;rw[zj];have:=hO (m-1) [x.1] x.2.1 x.2.2 (d+1) (by omega)
       cases hy:ol T f (m-1) [x.1] x.2.1 x.2.2 (d+1)with
       |out=>rw[hy]at this;exact this.elim
       |bad c a=>trivial
       |ok y=>
        rw[hy]at this;have hle:x.2.1≤y.2.1:=this;rw[zj];rcases UU T 6 y.2.1 with⟨h,_⟩|⟨c,a,h⟩
        ·rw[h];show i<y.2.1+1;omega
        ·rw[h];trivial
     ·rw[h,zx];trivial
    ·rw[h,zx];trivial
   ·trivial
  ·intro m L i o d hf
   cases m with
   |zero=>rw[ol];exact qp _
   |succ m=>
    rw[ol];rcases UU T 4 i with⟨h,hk⟩|⟨c,a,h⟩
    ·rw[h,zj]
     have hi:i<N:=lt i (by omega) (by omega);have:=hE 1 (i+1) o d (by omega) (by omega) (by omega)
     cases hx:ex T f 1 (i+1) o d with
     |out=>rw[hx]at this;exact this.elim
     |bad c a=>trivial
     |ok x=>
      rw[hx]at this;have hlt:i+1<x.2.1:=this;rw[zj];have:=hO m (L++[x.1]) x.2.1 x.2.2 d (by omega)
      cases hy:ol T f m (L++[x.1]) x.2.1 x.2.2 d with
      |out=>rw[hy]at this;exact this.elim
      |bad c a=>trivial
      |ok y=>rw[hy]at this;exact qq (by omega) this
    ·rw[h,zx];trivial
end Go.Proofs.YtbkajklninmhiaaGreatDoor.Par
namespace Go.Proofs.YtbkajklninmhiaaGreatDoor.Par
open Go Syn Parse
def skL:Bool→List UInt8→Nat
 |_,[]=>0
 |true,c::r=>if c.toNat=10 then skL false r+1 else skL true r+1
 |false,c::r=>if c.toNat=32∨c.toNat=10 then skL false r+1 else if c.toNat=35 then skL true r+1 else 0
def run (l:List UInt8):List UInt8:=l.takeWhile wB
def yB:List UInt8→Nat
 |[]=>0
 |c::r=>
  if c.toNat=59 then 3 else if c.toNat=44 then 4 else if c.toNat=40 then 5 else if c.toNat=41 then 6
  else if c.toNat=46 then (if r.head? =some 46 then 7 else 0)
  else if c.toNat=42 then 8 else if c.toNat=43 then 9 else if c.toNat=45 then 10
  else if c.toNat=60 then (if r.head? =some 61 then 12 else 11)else if c.toNat=61 then 13 else 0
def xy (t:List UInt8) (j:Nat):Tk×Nat:=
 match t.drop j with
 |[]=>(⟨0,j,[],0⟩,j)
 |c::r=>
  if xi c=true then (if (run (c::r)).length≤16 then (⟨wk (run (c::r)),j,run (c::r),0⟩,j+(run (c::r)).length)else (⟨51,j,[],0⟩,j))
  else if Yp c=true then (if plain (run (c::r))=true then (⟨1,j,[],dec (run (c::r))⟩,j+(run (c::r)).length)else (⟨51,j,[],0⟩,j))
  else if yB (c::r)=0 then (⟨50,j,[],0⟩,j)else (⟨yB (c::r),j,[],0⟩,j+(zG (yB (c::r))).length)
def lx (t:List UInt8) (i:Nat):Tk×Nat:=xy t (i+skL false (t.drop i))
def Zq (t:List UInt8):Nat→Nat
 |0=>0
 |k+1=>(lx t (Zq t k)).2
def tkT (t:List UInt8) (k:Nat):Tk:=(lx t (Zq t k)).1
theorem Xs:∀(b:Bool) (l:List UInt8),skL b l≤l.length
 |_,[]=>by simp[skL]
 |true,c::r=>by
  rw[skL];have:=Xs false r;have:=Xs true r;simp only[qh];split<;>omega
 |false,c::r=>by
  rw[skL];have:=Xs false r;have:=Xs true r;simp only[qh];split<;>(try split)<;>omega
theorem Tm (n:List UInt8):∀(f m:Nat),wkF n m f<m+f∨wkF n m f=2
 |0,m=>Or.inr rfl
 |f+1,m=>by
  rw[wkF]
  split
  ·left;omega
  ·rcases Tm n f (m+1)with h|h
   ·left;omega
   ·exact Or.inr h
theorem Tn (n:List UInt8):∀(f m:Nat),m≤wkF n m f∨wkF n m f=2
 |0,m=>Or.inr rfl
 |f+1,m=>by
  rw[wkF]
  split
  ·exact Or.inl (qp _)
  ·rcases Tn n f (m+1)with h|h
   ·left;omega
   ·exact Or.inr h
theorem Un (n:List UInt8):wk n<50:=by rcases Tm n 36 14 with h|h<;>unfold wk<;>omega
theorem QS (n:List UInt8):wk n=2∨14≤wk n:=by rcases Tn n 36 14 with h|h<;>unfold wk<;>omega
theorem Xh (l:List UInt8):yB l<14:=by
 cases l with
 |nil=>simp[yB]
 |cons c r=>rw[yB];repeat' split
            all_goals omega
theorem Rq (l:List UInt8):yB l=0∨3≤yB l:=by
 cases l with
 |nil=>simp[yB]
 |cons c r=>rw[yB];repeat' split
            all_goals omega
theorem UB {c:UInt8} {r:List UInt8} (h:wB c=true):1≤(run (c::r)).length:=by unfold run;rw[List.takeWhile_cons,if_pos h];simp
theorem WG (l:List UInt8):(run l).length≤l.length:=by
 unfold run
 induction l with
 |nil=>simp
 |cons c r ih=>rw[List.takeWhile_cons];split<;>simp_all
theorem To {c:UInt8} (h:xi c=true):wB c=true:=by unfold wB;rw[h];rfl
theorem wB_dig {c:UInt8} (h:Yp c=true):wB c=true:=by unfold wB;rw[h];simp
theorem tw_pos {k:Nat} (h:3≤k) (h':k<14):1≤(zG k).length:=by
 have:∀m:Fin 14,3≤m.val→1≤(zG m.val).length:=by decide
 exact this ⟨k,h'⟩ h
structure TkOk (x:Tk×Nat) (j n:Nat):Prop where
 at':x.1.at'=j
 le:x.1.k≤51
 go:x.1.k≠0→x.1.k<50→j<x.2
 nx:x.2≤n
 ge:j≤x.2
 st:x.1.k=0∨50≤x.1.k→x.2=j
 nm:x.1.n≠[]→x.1.k=wk x.1.n∧x.1.n.length≤16∧xi (x.1.n.getD 0 0)=true
 vl:0≤x.1.v∧x.1.v≤1000000000
theorem Us {c:UInt8} {r:List UInt8} (h:yB (c::r)≠0):(zG (yB (c::r))).length≤(c::r).length:=by
 have h1:∀m:Fin 14,(zG m.val).length≤1∨m.val=7∨m.val=12:=by decide
 have h2:(zG 7).length=2∧(zG 12).length=2:=by decide
 rcases h1 ⟨yB (c::r),Xh _⟩with h|h|h
 ·simp only at h;simp only[qh];omega
 all_goals
  simp only at h;rw[h]
  cases r with
  |nil=>rw[yB]at h;exfalso;revert h;simp;repeat' split
        all_goals omega
  |cons d r=>simp only[qh];omega
theorem Te {d:List UInt8} (h:plain d=true):0≤dec d∧dec d≤1000000000:=by
 simp only[plain,Bool.and_eq_true,decide_eq_true_eq]at h;have h1:=Ws d h.2
 have h2:(10:Int) ^ d.length≤10 ^ 9:=by
  have:(10:Nat) ^ d.length≤10 ^ 9:=Nat.pow_le_pow_right (by omega) h.1.1.2
  exact_mod_cast this
 exact⟨h1.1,by have:(10:Int) ^ 9=1000000000:=by decide
               omega⟩
theorem Sw (t:List UInt8) (j:Nat) (hj:j≤t.length):TkOk (xy t j) j t.length:=by
 unfold xy
 cases hd:t.drop j with
 |nil=>exact⟨rfl,by simp,fun h=>absurd rfl h,hj,qp _,fun _=>rfl,fun h=>absurd rfl h,by simp⟩
 |cons c r=>
  have hlen:(c::r).length=t.length-j:=by rw[←hd,List.length_drop]
  have hrun:=WG (c::r);dsimp only
  split
  ·rename_i hl
   have hp:=UB (r:=r) (To hl)
   split
   ·rename_i h16
    have h0:(run (c::r)).getD 0 0=c:=by unfold run;rw[List.takeWhile_cons,if_pos (To hl)];rfl
    exact⟨rfl,by have:=Un (run (c::r));show wk _≤51;omega,fun _ _=>by show j<j+_;omega,by show j+_≤_;omega,by show j≤j+_;omega,fun h=>by
     have h1:=Un (run (c::r));have h2:=QS (run (c::r));dsimp only at h
     omega,fun _=>⟨rfl,h16,by rw[h0];exact hl⟩,by simp⟩
   ·exact⟨rfl,by simp,fun _ h=>by simp at h,hj,qp _,fun _=>rfl,fun h=>absurd rfl h,by simp⟩
  ·split
   ·rename_i hl
    have hp:=UB (r:=r) (wB_dig hl)
    split
    ·rename_i hpl
     exact⟨rfl,by simp,fun _ _=>by show j<j+_;omega,by show j+_≤_;omega,by show j≤j+_;omega,fun h=>by simp at h,fun h=>absurd rfl h,Te hpl⟩
    ·exact⟨rfl,by simp,fun _ h=>by simp at h,hj,qp _,fun _=>rfl,fun h=>absurd rfl h,by simp⟩
   ·split
    ·exact⟨rfl,by simp,fun _ h=>by simp at h,hj,qp _,fun _=>rfl,fun h=>absurd rfl h,by simp⟩
    ·rename_i hs
     have h1:=Xh (c::r);have h3:3≤yB (c::r):=by rcases Rq (c::r)with h|h<;>omega
     have h2:=tw_pos h3 h1;have h4:=Us hs;exact⟨rfl,by dsimp only;omega,fun _ _=>by show j<j+_;omega,by show j+_≤_;omega,by show j≤j+_;omega,fun h=>by dsimp only at h;omega,fun h=>absurd rfl h,by simp⟩
theorem Pd (t:List UInt8) (i:Nat) (hi:i≤t.length):TkOk (lx t i) (i+skL false (t.drop i)) t.length:=by
 refine Sw t _ ?_;have:=Xs false (t.drop i);rw[List.length_drop]at this;omega
theorem WM (t:List UInt8):∀k,Zq t k≤t.length
 |0=>Nat.zero_le _
 |k+1=>(Pd t _ (WM t k)).nx
theorem Yv (t:List UInt8) (k:Nat):TkOk (lx t (Zq t k)) (Zq t k+skL false (t.drop (Zq t k))) t.length:=Pd t _ (WM t k)
theorem X5 (t:List UInt8) (k:Nat):(tkT t k).k≤51:=(Yv t k).le
theorem TL {t:List UInt8} {j:Nat} (h:(xy t j).1.k=0∨50≤(xy t j).1.k) (hj:j≤t.length) (i:Nat) (hij:j=i+skL false (t.drop i)):skL false (t.drop j)=0:=by
 suffices ∀(l:List UInt8) (b:Bool),skL false (l.drop (skL b l))=0 by
  rw[hij,←List.drop_drop];exact this _ _
 intro l
 induction l with
 |nil=>intro b;cases b<;>simp[skL]
 |cons c r ih=>
  intro b
  cases b
  ·rw[skL]
   split
   ·rw[List.drop_succ_cons];exact ih false
   ·split
    ·rw[List.drop_succ_cons];exact ih true
    ·rename_i h1 h2
     rw[List.drop_zero,skL,if_neg h1,if_neg h2]
  ·rw[skL]
   split
   ·rw[List.drop_succ_cons];exact ih false
   ·rw[List.drop_succ_cons];exact ih true
theorem Up (t:List UInt8) (k:Nat) (h:(tkT t k).k=0∨50≤(tkT t k).k):tkT t (k+1)=tkT t k:=by
 have ok:=Yv t k;have e:Zq t (k+1)=Zq t k+skL false (t.drop (Zq t k)):=ok.st h;have hle:Zq t k+skL false (t.drop (Zq t k))≤t.length:=by rw[←e];exact WM t (k+1)
 unfold tkT;unfold lx;rw[e,TL (t:=t) h hle _ rfl];rfl
theorem Tv (t:List UInt8):∀k,((tkT t k).k≠0∧(tkT t k).k<50)→k<Zq t (k+1)
 |0,h=>by
  have:=(Yv t 0).go h.1 h.2;show 0<Zq t 1;exact qt (Nat.zero_le _) this
 |k+1,h=>by
  have ok:=(Yv t (k+1)).go h.1 h.2
  have hk:(tkT t k).k≠0∧(tkT t k).k<50:=by
   refine Classical.byContradiction fun hh=>?_
   have:=Up t k (by omega);rw[this]at h;exact hh h
  have:=Tv t k hk;exact qr (qt (Nat.succ_le_of_lt this) (qt (Nat.le_add_right _ _) ok)) (qp _)
theorem tk_end (t:List UInt8) (k:Nat) (h:t.length≤k):(tkT t k).k=0∨50≤(tkT t k).k:=by
 refine Classical.byContradiction fun hh=>?_
 have:=Tv t k (by omega);have:=WM t (k+1);omega
end Go.Proofs.YtbkajklninmhiaaGreatDoor.Par
