import Derived.Test.YtbdldkpifanaiaaDoorCr27
import Derived.Deep.RegionWith
import Derived.Lib.ConvBytes
import Derived.WalkMore
import Derived.Deep.LoopGhost
import Derived.Maps.Range
import Derived.Great.BuildSlice
set_option maxHeartbeats 1600000
set_option maxRecDepth 1000000
set_option linter.unusedVariables false
set_option linter.unusedSimpArgs false
open List renaming getElem_cons_succ → qd, length_append → qg, length_cons → qh, length_nil → qi
open Nat renaming le_refl → qn, le_trans → qo
namespace Go.Proofs.YtbdldkpifanaiaaDoor.Draw
open Go Go.RowKit Mem Parse
attribute [local go_sem ↓] Go.wp_at_zero Go.wp_at_succ
def y9 (n:Nat) (bs:List UInt8):Nat:=bs.foldl (fun h b=>(h*131+b.toNat+7) % 1073741824) (12345+n)
theorem Wi {n:Nat} {bs:List UInt8} {k:Nat} (hk:k<bs.length):y9 n (bs.take (k+1))=(y9 n (bs.take k)*131+bs[k].toNat+7) % 1073741824:=by
 unfold y9;rw[List.take_succ_eq_append_getElem hk,List.foldl_append];rfl
theorem newD (B:Nat) (v:Value) (bs:List UInt8) (w:World) (hBs:B≤w.heap.size) (ht:Txt B w v bs) (hl:bs.length≤1048576):
  Calls Tryd.prog 12 #[v] w fun e w'=>∃g,e=.returned (.pointer (some ⟨g,0,none⟩))∧w.heap.size≤g∧DC B g w' bs ⟨0,y9 bs.length bs⟩∧Below w.heap.size w w':=by
 obtain⟨p,c,rfl,hc,hp,hr⟩:=ht.rd;have HR:=Hm hr;have HT:=Hm ht;obtain⟨n,hn⟩:∃n,n=bs.length:=⟨_,rfl⟩;have HN:=Hm hn;rw[←hn]at hl hc HT ⊢;clear hr ht hp hn;have e0:IntKind.i64.wrap (12345+(n:Int))=12345+(n:Int):=by rw[IntKind.wrap_i64];omega
 go_enter Tryd.func12,Tryd.ntmps12;go_wp2;go_loopw [3,4] (fun h i wr=>wr=w∧∃k:Nat,k≤n∧i=.int .i64 (k:Int)∧∃H:Nat,h=.int .i64 (H:Int)∧H<2147483648∧Hid (H=y9 n (bs.take k))) (fun _ i _=>n- (intOf i).toNat)
 case atStart=>exact⟨rfl,0,Nat.zero_le _,rfl,12345+n,by simp,by omega,by simp[Hid,y9]⟩
 case round=>
  obtain⟨rfl,k,hk,rfl,H,rfl,hH,hHe⟩:=hrel;by_cases hlt:k<n
  ·have hkl:k<bs.length:=by rw[←HN.out];exact hlt
   obtain⟨g,o,rfl,y1⟩:=HR.out k hkl;obtain⟨q,hq⟩:∃q,q=bs[k].toNat:=⟨_,rfl⟩;rw[←hq]at y1;have hq8:q<256:=by rw[hq];exact UInt8.toNat_lt _
   have k1:(k:Int)<(n:Int):=by omega
   have e1:IntKind.i64.wrap ((H:Int)*131)=(H:Int)*131:=by rw[IntKind.wrap_i64];omega
   have e2:IntKind.i64.wrap ((H:Int)*131+(q:Int))=(H:Int)*131+(q:Int):=by rw[IntKind.wrap_i64];omega
   have e3:IntKind.i64.wrap ((H:Int)*131+(q:Int)+7)=(H:Int)*131+(q:Int)+7:=by rw[IntKind.wrap_i64];omega
   obtain⟨H',hH'⟩:∃H',H'=(H*131+q+7) % 1073741824:=⟨_,rfl⟩;have hlt2:H'<2147483648:=by have:=Nat.mod_lt (H*131+q+7) (show 1073741824 > 0 by omega);omega
   have ec:((H*131+q+7:Nat):Int)=(H:Int)*131+(q:Int)+7:=by simp
   have e4:bits BinOp.and IntKind.i64 ((H:Int)*131+(q:Int)+7) 1073741823=(H':Int):=by
    rw[hH',←ec];exact ZL (a:=H*131+q+7) (k:=30) (by decide) (by omega)
   have hHe':Hid (H'=y9 n (bs.take (k+1))):=by unfold Hid;rw[Wi hkl,←hHe.out,hH',hq]
   have e5:IntKind.i64.wrap ((k:Int)+1)=(k:Int)+1:=by rw[IntKind.wrap_i64];omega
   clear hq hH' ec;go_wp2;exact⟨⟨by first|exact trivial|rfl,k+1,by omega,by go_num,H',by first|rfl|simp[e4],hlt2,hHe'⟩,by simp[intOf];omega⟩
  ·obtain rfl:k=n:=by omega
   have hv:Hid (H=y9 k bs):=by unfold Hid;rw[hHe.out,List.take_of_length_le (by rw[←HN.out];omega)]
   have k1:decide ((k:Int)<(k:Int))=false:=by simp
   go_wp2;go_ret;refine⟨_,rfl,qn _,⟨?_,Nat.zero_le _,_,?_,HT.out.below ((Below.refl _ _).alloc hBs _)⟩,by go_grown⟩
   ·show y9 k bs<_
    rw[←hv.out];exact hH
   ·rw[←hv.out]
    exact zi _ _
def xp (n top:Nat):Nat:=if top<(2*top+2) / 3+n / 48 then top else (2*top+2) / 3+n / 48
theorem sizeD (p:Option Addr) (n c top:Nat) (w:World) (hn:n≤1048576) (ht:top≤1000):
  Calls Tryd.prog 49 #[.slice p n c,.int .i64 (top:Int)] w fun e w'=>e=.returned (.int .i64 (xp n top:Int))∧w'=w:=by
 have e1:IntKind.i64.wrap (2*(top:Int))=2*(top:Int):=by rw[IntKind.wrap_i64];omega
 have e2:IntKind.i64.wrap (2*(top:Int)+2)=2*(top:Int)+2:=by rw[IntKind.wrap_i64];omega
 have e3:Int.tdiv (2*(top:Int)+2) 3=(((2*top+2) / 3:Nat):Int):=by rw[Int.tdiv_eq_ediv_of_nonneg (by omega)];omega
 have e4:Int.tdiv (n:Int) 48=((n / 48:Nat):Int):=by rw[Int.tdiv_eq_ediv_of_nonneg (by omega)];omega
 obtain⟨x,hx⟩:∃x,x=(2*top+2) / 3:=⟨_,rfl⟩;obtain⟨y,hy⟩:∃y,y=n / 48:=⟨_,rfl⟩;have HV:Hid (xp n top=if top<x+y then top else x+y):=by unfold Hid xp;rw[hx,hy]
 rw[←hx]at e3;rw[←hy]at e4;have hx1:x≤1000:=by omega
 have hy1:y≤100000:=by omega
 clear hx hy;have e5:IntKind.i64.wrap ((x:Int)+(y:Int))=(x:Int)+(y:Int):=by rw[IntKind.wrap_i64];omega
 by_cases h:top<x+y
 ·have t1:(top:Int)<(x:Int)+(y:Int):=by omega
  have HV2:Hid (xp n top=top):=by unfold Hid;rw[HV.out,if_pos h]
  go_enter Tryd.func49,Tryd.ntmps49;go_wp2;go_ret;rw[HV2.out];exact⟨rfl,rfl⟩
 ·have t1:decide ((top:Int)<(x:Int)+(y:Int))=false:=by simp;omega
  have HV2:Hid (xp n top=x+y):=by unfold Hid;rw[HV.out,if_neg h]
  go_enter Tryd.func49,Tryd.ntmps49;go_wp2;go_ret;rw[HV2.out];exact⟨by simp,rfl⟩
end Go.Proofs.YtbdldkpifanaiaaDoor.Draw
namespace Go.Proofs.YtbdldkpifanaiaaDoor.Par
open Go Syn
structure Tk where
 k:Nat
 at':Nat
 n:List UInt8
 v:Int
inductive Rs (α:Type) where
 |out
 |bad (c:Int) (at':Nat)
 |ok (x:α)
def Rs.bnd {α β:Type} (r:Rs α) (f:α→Rs β):Rs β:=match r with
 |.out=>.out
 |.bad c a=>.bad c a
 |.ok x=>f x
def _root_.Go.Proofs.YtbdldkpifanaiaaDoor.Syn.Tr.pf:Tr→List Po
 |.leaf o=>[o]
 |.pre o a=>a.pf++[o]
 |.bin o a b=>a.pf++b.pf++[o]
 |.two o a b=>a.pf++b.pf++[o]
 |.three o a b c=>a.pf++b.pf++c.pf++[o]
section
variable (T:Nat→Tk)
def adv (i:Nat):Rs Nat:=if (T (i+1)).k=50 then .bad 2 (T (i+1)).at' else if (T (i+1)).k=51 then .bad 3 (T (i+1)).at' else .ok (i+1)
def exp (k i:Nat):Rs Nat:=if (T i).k=k then adv T i else .bad 4 (T i).at'
def cnt (i o:Nat):Rs Nat:=if o=2000 then .bad 6 (T i).at' else .ok (o+1)
def opn' (i d:Nat):Rs Unit:=if d=64 then .bad 5 (T i).at' else .ok ()
def tagT (t:Tk):Bool:=t.n.length==1&&decide ((t.n.getD 0 0).toNat<113)
def tagP (i:Nat):Rs (Int×Nat):=if tagT (T i)=true then (adv T i).bnd fun j=>.ok ((((T i).n.getD 0 0).toNat:Int) -97,j)else .bad 4 (T i).at'
def wop (t:Tk):Option Po:=
 if t.k=1 then some ⟨1,t.v,[]⟩else if t.k=2 then some ⟨2,0,t.n⟩else if t.k=28∨t.k=29 then some ⟨6,(t.k:Int) -28,[]⟩
 else if 30≤t.k∧t.k≤42 then some ⟨3,(t.k:Int) -30,[]⟩else none
def isB (k:Nat):Bool:=decide (8≤k)&&decide (k≤15)
def atB (s i:Nat):Bool:=isB (T i).k&&decide (yL ((T i).k-8:Int)=s)
def bo (k:Nat):Po:=⟨9,(k:Int) -8,[]⟩
def unop (k:Nat):Po:=if k=10 then ⟨7,0,[]⟩else ⟨8,0,[]⟩
def callT (v:Nat):List Tr→Tr
 |[a,b]=>.two ⟨10,v,[]⟩ a b
 |[a,b,c]=>.three ⟨10,v,[]⟩ a b c
 |_=>.leaf ⟨10,v,[]⟩
mutual
def ex:Nat→Nat→Nat→Nat→Nat→Rs (Tr×Nat×Nat)
 |0,_,_,_,_=>.out
 |f+1,s,i,o,d=>if s=6 then un f i o d else (ex f (s+1) i o d).bnd fun x=>lp f s x.1 x.2.1 x.2.2 d
def lp:Nat→Nat→Tr→Nat→Nat→Nat→Rs (Tr×Nat×Nat)
 |0,_,_,_,_,_=>.out
 |f+1,s,l,i,o,d=>
  if atB T s i=true then (cnt T i o).bnd fun o1=>(adv T i).bnd fun j=>(ex f (s+1) j o1 d).bnd fun x=>
   if s=3 then .ok (.bin (bo (T i).k) l x.1,x.2.1,x.2.2)else lp f s (.bin (bo (T i).k) l x.1) x.2.1 x.2.2 d
  else .ok (l,i,o)
def un:Nat→Nat→Nat→Nat→Rs (Tr×Nat×Nat)
 |0,_,_,_=>.out
 |f+1,i,o,d=>
  if (T i).k=10∨(T i).k=47 then (cnt T i o).bnd fun o1=>(opn' T i d).bnd fun _=>(adv T i).bnd fun j=>(un f j o1 (d+1)).bnd fun x=>.ok (.pre (unop (T i).k) x.1,x.2.1,x.2.2)
  else pr f i o d
def pr:Nat→Nat→Nat→Nat→Rs (Tr×Nat×Nat)
 |0,_,_,_=>.out
 |f+1,i,o,d=>
  if (T i).k=5 then (og f 1 i o d).bnd fun x=>.ok (x.1.headD (.leaf ⟨0,0,[]⟩),x.2.1,x.2.2)
  else if 25≤(T i).k∧(T i).k≤27 then (cnt T i o).bnd fun o1=>(adv T i).bnd fun j=>(og f (if (T i).k=27 then 3 else 2) j o1 d).bnd fun x=>.ok (callT ((T i).k-25) x.1,x.2.1,x.2.2)
  else if (T i).k=48∨(T i).k=49 then (cnt T i o).bnd fun o1=>(adv T i).bnd fun j=>(tagP T j).bnd fun x=>.ok (.leaf ⟨((T i).k:Int) -44,x.1,[]⟩,x.2,o1)
  else match wop (T i)with
   |none=>.bad 4 (T i).at'
   |some p=>(cnt T i o).bnd fun o1=>(adv T i).bnd fun j=>.ok (.leaf p,j,o1)
def og:Nat→Nat→Nat→Nat→Nat→Rs (List Tr×Nat×Nat)
 |0,_,_,_,_=>.out
 |f+1,m,i,o,d=>
  if (T i).k=5 then (opn' T i d).bnd fun _=>(adv T i).bnd fun j=>(ex f 1 j o (d+1)).bnd fun x=>(ol f (m-1) [x.1] x.2.1 x.2.2 (d+1)).bnd fun y=>(exp T 6 y.2.1).bnd fun j'=>.ok (y.1,j',y.2.2)
  else .bad 4 (T i).at'
def ol:Nat→Nat→List Tr→Nat→Nat→Nat→Rs (List Tr×Nat×Nat)
 |0,_,_,_,_,_=>.out
 |f+1,0,L,i,o,d=>.ok (L,i,o)
 |f+1,m+1,L,i,o,d=>(exp T 4 i).bnd fun j=>(ex f 1 j o d).bnd fun x=>ol f m (L++[x.1]) x.2.1 x.2.2 d
end
end
structure Ent where
 k:Nat
 v:Int
 l:Nat
def eop (e:Ent):Po:=if e.k=1 then ⟨7,0,[]⟩else if e.k=2 then ⟨8,0,[]⟩else if e.k=3 then ⟨9,e.v,[]⟩else ⟨10,e.v,[]⟩
def VT (s:Nat) (e:Ent):Bool:=if s=6 then (e.k==1||e.k==2)else (e.k==3&&decide ((s:Int)≤yL e.v))
def dr (s:Nat):List Ent→List Po→List Ent×List Po
 |[],out=>([],out)
 |e::r,out=>if VT s e=true then dr s r (out++[eop e])else (e::r,out)
def opens:List Ent→Nat
 |[]=>0
 |e::r=>if e.k=3 then opens r else opens r+1
def inn:List Ent→Option Ent
 |[]=>none
 |e::r=>if 4≤e.k then some e else inn r
structure MS where
 i:Nat
 o:Nat
 st:List Ent
 out:List Po
 want:Bool
def cmpTop:List Ent→Bool
 |[]=>false
 |e::_=>e.k==3&&decide (yL e.v=3)
def decL:List Ent→List Ent
 |[]=>[]
 |e::r=>⟨e.k,e.v,e.l-1⟩::r
def fin (e:Ent):List Po:=if e.k=5 then [eop e]else []
section
variable (T:Nat→Tk)
def flt (c:Int) (i:Nat):Rs (List Po×Nat×Nat):=if (T i).k=50 then .bad 2 (T i).at' else if (T i).k=51 then .bad 3 (T i).at' else .bad c (T i).at'
def stp (S:MS):MS ⊕ Rs (List Po×Nat×Nat):=
 if 50≤(T S.i).k then .inr (flt T 4 S.i)
 else if S.want=true then
  if (T S.i).k=48∨(T S.i).k=49 then
   if S.o=2000 then .inr (.bad 6 (T S.i).at')
   else if tagT (T (S.i+1))=true then .inl ⟨S.i+2,S.o+1,(dr 6 S.st (S.out++[⟨((T S.i).k:Int) -44,(((T (S.i+1)).n.getD 0 0).toNat:Int) -97,[]⟩])).1,(dr 6 S.st (S.out++[⟨((T S.i).k:Int) -44,(((T (S.i+1)).n.getD 0 0).toNat:Int) -97,[]⟩])).2,false⟩
   else .inr (flt T 4 (S.i+1))
  else match wop (T S.i)with
   |some p=>if S.o=2000 then .inr (.bad 6 (T S.i).at')else .inl ⟨S.i+1,S.o+1,(dr 6 S.st (S.out++[p])).1,(dr 6 S.st (S.out++[p])).2,false⟩
   |none=>
    if (T S.i).k=10∨(T S.i).k=47 then
     if S.o=2000 then .inr (.bad 6 (T S.i).at')
     else if opens S.st=64 then .inr (.bad 5 (T S.i).at')
     else .inl ⟨S.i+1,S.o+1,⟨if (T S.i).k=10 then 1 else 2,0,0⟩::S.st,S.out,true⟩
    else if (T S.i).k=5 then
     if opens S.st=64 then .inr (.bad 5 (T S.i).at')else .inl ⟨S.i+1,S.o,⟨4,0,0⟩::S.st,S.out,true⟩
    else if 25≤(T S.i).k∧(T S.i).k≤27 then
     if S.o=2000 then .inr (.bad 6 (T S.i).at')
     else if (T (S.i+1)).k=5 then
      if opens S.st=64 then .inr (.bad 5 (T (S.i+1)).at')else .inl ⟨S.i+2,S.o+1,⟨5,(((T S.i).k-25:Nat):Int),if (T S.i).k=27 then 2 else 1⟩::S.st,S.out,true⟩
     else .inr (flt T 4 (S.i+1))
    else .inr (.bad 4 (T S.i).at')
 else if isB (T S.i).k=true then
  if yL ((T S.i).k-8:Int)=3∧cmpTop (dr 4 S.st S.out).1=true then .inr (.bad 4 (T S.i).at')
  else if S.o=2000 then .inr (.bad 6 (T S.i).at')
  else .inl ⟨S.i+1,S.o+1,⟨3,((T S.i).k:Int) -8,0⟩::(dr (yL ((T S.i).k-8:Int)).toNat S.st S.out).1,(dr (yL ((T S.i).k-8:Int)).toNat S.st S.out).2,true⟩
 else match inn S.st with
  |none=>.inr (.ok ((dr 1 S.st S.out).2,S.i,S.o))
  |some e=>
   if (T S.i).k=4∧0<e.l then .inl ⟨S.i+1,S.o,decL (dr 1 S.st S.out).1,(dr 1 S.st S.out).2,true⟩
   else if (T S.i).k=6∧e.l=0 then .inl ⟨S.i+1,S.o,(dr 6 (dr 1 S.st S.out).1.tail ((dr 1 S.st S.out).2++fin e)).1,(dr 6 (dr 1 S.st S.out).1.tail ((dr 1 S.st S.out).2++fin e)).2,false⟩
   else .inr (.bad 4 (T S.i).at')
inductive Ends:MS→Rs (List Po×Nat×Nat)→Prop
 |stop (S:MS) (R:Rs (List Po×Nat×Nat)) (h:stp T S=.inr R):Ends S R
 |go (S S':MS) (R:Rs (List Po×Nat×Nat)) (h:stp T S=.inl S') (h':Ends S' R):Ends S R
def Z8 (S S':MS):Prop:=∀R,Ends T S' R→Ends T S R
end
end Go.Proofs.YtbdldkpifanaiaaDoor.Par
namespace Go.Proofs.YtbdldkpifanaiaaDoor.Par
open Go Syn
variable {T:Nat→Tk}
end Go.Proofs.YtbdldkpifanaiaaDoor.Par
namespace Go.Proofs.YtbdldkpifanaiaaDoor.Par
open Go Syn Parse
def skL:Bool→List UInt8→Nat
 |_,[]=>0
 |true,c::r=>if c.toNat=10 then skL false r+1 else skL true r+1
 |false,c::r=>if c.toNat=32∨c.toNat=10 then skL false r+1 else if c.toNat=35 then skL true r+1 else 0
def run (l:List UInt8):List UInt8:=l.takeWhile wB
def symL:List UInt8→Nat
 |[]=>0
 |c::r=>
  if c.toNat=59 then 3 else if c.toNat=44 then 4 else if c.toNat=40 then 5 else if c.toNat=41 then 6
  else if c.toNat=46 then (if r.head? =some 46 then 7 else 0)
  else if c.toNat=42 then 8 else if c.toNat=43 then 9 else if c.toNat=45 then 10
  else if c.toNat=60 then (if r.head? =some 61 then 12 else 11)else if c.toNat=61 then 13 else 0
def lexAt (t:List UInt8) (j:Nat):Tk×Nat:=
 match t.drop j with
 |[]=>(⟨0,j,[],0⟩,j)
 |c::r=>
  if YS c=true then (if (run (c::r)).length≤16 then (⟨wk (run (c::r)),j,run (c::r),0⟩,j+(run (c::r)).length)else (⟨51,j,[],0⟩,j))
  else if digB c=true then (if plain (run (c::r))=true then (⟨1,j,[],dec (run (c::r))⟩,j+(run (c::r)).length)else (⟨51,j,[],0⟩,j))
  else if symL (c::r)=0 then (⟨50,j,[],0⟩,j)else (⟨symL (c::r),j,[],0⟩,j+(Z9 (symL (c::r))).length)
def lx (t:List UInt8) (i:Nat):Tk×Nat:=lexAt t (i+skL false (t.drop i))
def offT (t:List UInt8):Nat→Nat
 |0=>0
 |k+1=>(lx t (offT t k)).2
def tkT (t:List UInt8) (k:Nat):Tk:=(lx t (offT t k)).1
theorem run_le (l:List UInt8):(run l).length≤l.length:=by
 unfold run
 induction l with
 |nil=>simp
 |cons c r ih=>rw[List.takeWhile_cons];split<;>simp_all
structure TkOk (x:Tk×Nat) (j n:Nat):Prop where
 at':x.1.at'=j
 le:x.1.k≤51
 go:x.1.k≠0→x.1.k<50→j<x.2
 nx:x.2≤n
 ge:j≤x.2
 st:x.1.k=0∨50≤x.1.k→x.2=j
 nm:x.1.n≠[]→x.1.k=wk x.1.n∧x.1.n.length≤16∧YS (x.1.n.getD 0 0)=true
 vl:0≤x.1.v∧x.1.v≤1000000000
end Go.Proofs.YtbdldkpifanaiaaDoor.Par
namespace Go.Proofs.YtbdldkpifanaiaaDoor.Par
open Go Go.RowKit Mem Syn Parse
attribute [local go_sem ↓] Go.wp_at_zero Go.wp_at_succ
structure Pz where
 (s:Nat) (k:Tk) (o d:Nat)
def pzC (a:Option Addr) (n c:Nat) (z:Pz):Array Value:=#[.slice a n c,.int .i64 (z.s:Int),.int .i64 (z.k.k:Int),.int .i64 (z.k.at':Int),.string ⟨z.k.n.toArray⟩,.int .i64 z.k.v,.int .i64 (z.o:Int),.int .i64 (z.d:Int)]
theorem run_step {l:List UInt8} {k:Nat} (hk:k≤(run l).length) (h:k<l.length):(wB l[k]=true→k+1≤(run l).length)∧(wB l[k]=false→k=(run l).length):=by
 induction l generalizing k with
 |nil=>simp at h
 |cons c r ih=>
  unfold run at hk ⊢;rw[List.takeWhile_cons]at hk ⊢
  cases hc:wB c with
  |true=>
   rw[hc]at hk;simp only[if_true,qh]at hk ⊢
   cases k with
   |zero=>simp[hc]
   |succ k=>
    have:=ih (k:=k) (by unfold run;omega) (by simpa using h);unfold run at this;simp only[qd];exact⟨fun h'=>by have:=this.1 h';omega,fun h'=>by have:=this.2 h';omega⟩
  |false=>
   rw[hc]at hk;simp only[Bool.false_eq_true,if_false,qi,Nat.le_zero]at hk ⊢;subst hk;simp[hc]
theorem run_take (l:List UInt8):run l=l.take (run l).length:=by
 unfold run
 induction l with
 |nil=>rfl
 |cons c r ih=>
  rw[List.takeWhile_cons]
  split
  ·rw[qh,List.take_succ_cons,←ih]
  ·rfl
theorem Tl {w W:World} {g r i:Nat} {v:Value} (h:w.grownBy W (some g)) (hr:w.heap.size≤r):w.grownBy (W.setCell ⟨r,i,none⟩ v) (some g):=
 ⟨h.os,h.tape,h.output,by rw[yt];exact h.size,fun k hk hne=>by rw[Below.heap_setCell _ _ _ _ (show k≠(⟨r,i,none⟩:Addr).block by simp;omega)];exact h.block k hk hne⟩
theorem blk_grown' {w w':World} {g r:Nat} {o:Obj} (h:w.heap[r]? =some o) (hg:w.grownBy w' (some g)) (hne:r≠g):w'.heap[r]? =some o:=by
 rw[hg.block r (zu h) (by simp;exact hne)];exact h
def opV (p:Po):Value:=.agg #[.int .i64 p.k,.int .i64 p.v,.string ⟨p.n.toArray⟩]
end Go.Proofs.YtbdldkpifanaiaaDoor.Par
namespace Go.Proofs.YtbdldkpifanaiaaDoor.Par
open Go Go.RowKit Mem Syn Parse
def Nw (B:Nat) (g:Nat):Prop:=B≤g
end Go.Proofs.YtbdldkpifanaiaaDoor.Par
namespace Go.Proofs.YtbdldkpifanaiaaDoor.Par
open Go Go.RowKit Mem Syn Parse
attribute [local go_sem ↓] Go.wp_at_zero Go.wp_at_succ
theorem ZB (w:World) (v:Value) (T:TypeId):∀j u,[v][j]? =some u→(w.alloc (.cells #[v] T)).cell? ((⟨w.heap.size,0,none⟩:Addr).add j)=some u:=fun j u hu=>by
 cases j with
 |zero=>rw[Addr.add_lit,za (zi w _) 0];simpa using hu
 |succ j=>simp at hu
theorem info_parts {P:Program} {t:TypeId} {z:Value} {s b:Nat} (h:(P.info? t).map (fun i=>(i.zero,i.size,i.bytes))=some (some z,s,b)):∃i,P.info? t=some i∧i.zero=some z∧i.size=s∧i.bytes=b:=by
 cases hi:P.info? t with
 |none=>rw[hi]at h;cases h
 |some i=>
  rw[hi]at h;simp at h;exact⟨i,rfl,h.1,h.2.1,h.2.2⟩
theorem xb {w:World} {B n:Nat} {e:TypeId} {v:Value} {xs:List Value} (h:w.ownsRow B e 1 v n xs) (h0:0<n):∃g c,v=.slice (some ⟨g,0,none⟩) n c∧n≤c∧B≤g∧g<w.heap.size∧(∀i u,xs[i]? =some u→w.cell? ⟨g,i,none⟩=some u)∧∃C fr,w.heap[g]? =some (.cells C e fr):=by
 rcases h.2 with⟨rfl,h1⟩|⟨g,cap,cur,rfl,hb,hg,hn,hm,hs,ht⟩
 ·omega
 ·refine⟨g,cap,rfl,hn,hb,zu hg,fun i u hu=>?_,_,_,hg⟩
  rw[za hg i];rw[←ht,List.getElem?_take]at hu
  split at hu
  ·rw[←Array.getElem?_toList];exact hu
  ·cases hu
theorem own_b {B n:Nat} {e:TypeId} {s:Nat} {w:World} {v:Value} {xs:List Value} (h:w.ownsRow B e s v n xs) {b:Nat} (hb:b<B):some b≠v.ownBlock:=fun e=>by
 have:=(h.lt b e.symm).1;omega
end Go.Proofs.YtbdldkpifanaiaaDoor.Par
namespace Go.Proofs.YtbdldkpifanaiaaDoor.Par
open Go Syn
variable {T:Nat→Tk}
def Nu (s:Nat):List Ent→Prop
 |[]=>True
 |e::_=>VT s e=false∧VT 6 e=false
theorem Nu.dr {s:Nat} {st:List Ent} (h:Nu s st) (out:List Po):dr s st out=(st,out):=by
 cases st with
 |nil=>rfl
 |cons e r=>rw[Par.dr,if_neg (by rw[h.1];simp)]
theorem Nu.bin {s:Nat} {v:Int} {st:List Ent} (h:yL v=s) (h5:s≤5):Nu (s+1) (⟨3,v,0⟩::st):=by
 refine⟨?_,rfl⟩;unfold VT
 split
 ·rfl
 ·simp;omega
theorem Nu.opn {s:Nat} {e:Ent} {st:List Ent} (h:4≤e.k):Nu s (e::st):=by
 unfold Nu VT;constructor
 ·split
  ·simp;omega
  ·simp;omega
 ·simp;omega
theorem Z8.refl (S:MS):Z8 T S S:=fun _ h=>h
theorem Z8.trans {S S' S'':MS} (h:Z8 T S S') (h':Z8 T S' S''):Z8 T S S'':=fun R hR=>h R (h' R hR)
theorem Z8.one {S S':MS} (h:stp T S=.inl S'):Z8 T S S':=fun R hR=>.go _ _ _ h hR
end Go.Proofs.YtbdldkpifanaiaaDoor.Par
namespace Go.Proofs.YtbdldkpifanaiaaDoor.Par
open Go Go.RowKit Mem Syn Parse
attribute [local go_sem ↓] Go.wp_at_zero Go.wp_at_succ
theorem yF:(Tryd.prog.info? 97).map (fun i=>(i.zero,i.size,i.bytes))=some (some (.agg #[.int .i64 0,.int .i64 0,.string ⟨#[]⟩]),3,32):=by kernel_rfl
theorem yK (a b:Int) (s:ByteArray):Instr.fill (fun i=>some (i*3,3)) ((Array.range (1*3)).map ((Value.agg #[.int .i64 0,.int .i64 0,.string ⟨#[]⟩]).cells[·% (Value.agg #[.int .i64 0,.int .i64 0,.string ⟨#[]⟩]).cells.size]!)) [(0,.agg [Value.int .i64 a,.int .i64 b,.string s].toArray)]=some [Value.int .i64 a,.int .i64 b,.string s].toArray:=by kernel_rfl
theorem zv {P:Program} {ops:Array Oper} {rest:List Oper} {o:Oper} {a:Act} {w:World} {Q:Exit→Act→World→Prop} (hg:o.guard=none) (t e:TypeId) (x:Operand) (ho:o.op=.buildSlice t 1 #[(0,x)])
  (ie:TypeInfo) (z:Value) (hu:P.underlying t=some (.slice e)) (hie:P.info? e=some ie) (hz:ie.zero=some z) (sz:Nat) (hs:ie.size=sz) (vs:List Value) (hx:a.eval x=.agg vs.toArray)
  (hf:Instr.fill (fun i=>some (i*sz,sz)) ((Array.range (1*sz)).map (z.cells[·% z.cells.size]!)) [(0,.agg vs.toArray)]=some vs.toArray) (h0:0<sz) (h1:sz≤1000)
  (h:wpList P ops Q rest (a.put o.dst (.slice (some ⟨w.heap.size,0,none⟩) 1 1)) (w.alloc (.cells vs.toArray e))):wpList P ops Q (o::rest) a w:=by
 refine wpList_buildSlice hg t e 1 _ ho vs.toArray ie z hu hie hz (by rw[hs];omega) (by rw[hs];omega) ?_ h;rw[hs];simpa[hx]using hf
def Gx (sv:Value) (w:World) (v:Value) (w':World):Prop:=w.grownBy w' sv.ownBlock∧(v.ownBlock=sv.ownBlock∨∃k,v.ownBlock=some k∧w.heap.size≤k)
theorem Gx.refl (v:Value) (w:World):Gx v w v w:=⟨World.grownBy.refl _ _,Or.inl rfl⟩
theorem Gx.trans {a b c:Value} {w w1 w2:World} (h:Gx a w b w1) (k:Gx b w1 c w2):Gx a w c w2:=by
 refine⟨World.grownBy.andThen h.1 k.1 (fun j e=>?_),?_⟩
 ·rcases h.2 with e2|⟨j2,e2,h2⟩
  ·exact Or.inr (by rw[←e2,e])
  ·rw[e2]at e;have:=Option.some.inj e;exact Or.inl (by omega)
 ·rcases k.2 with e|⟨j,e,hj⟩
  ·rw[e];exact h.2
  ·exact Or.inr ⟨j,e,qo h.1.size hj⟩
theorem Gx.pre {a b:Value} {w w1 w2:World} (hb:Below w.heap.size w w1) (k:Gx a w1 b w2):Gx a w b w2:=
 ⟨xe (xA hb) k.1,k.2.imp id (fun⟨j,e,hj⟩=>⟨j,e,qo hb.size hj⟩)⟩
theorem Gx.post {a b:Value} {w w1 w2:World} (k:Gx a w b w1) (hb:Below w1.heap.size w1 w2):Gx a w b w2:=⟨xe k.1 (xA hb),k.2⟩
theorem Gx.blk {B n g:Nat} {v v':Value} {w w':World} {xs:List Value} {cs:Array Value} {t:TypeId} {fr:Nat×Nat} (h:Gx v w v' w') (ho:w.ownsRow B 97 3 v n xs) (hb:w.heap[g]? =some (.cells cs t fr)) (ht:t≠97):w'.heap[g]? =some (.cells cs t fr):=by
 rw[h.1.block g (zu hb) (fun e=>?_)]
 ·exact hb
 ·obtain⟨c,fz,hc⟩:=xW ho g e.symm
  rw[hb]at hc;injection hc with hc;injection hc with _ h2 _;exact ht h2
def zW (L:List Po):List Value:=L.flatMap Po.cells
def OwnO (B:Nat) (w:World) (v:Value) (L:List Po):Prop:=w.ownsRow B 97 3 v L.length (zW L)
theorem OwnO.below {B:Nat} {w w':World} {v:Value} {L:List Po} (h:OwnO B w v L) (hb:Below w.heap.size w w'):OwnO B w' v L:=z9 h hb
theorem OwnO.snoc {B:Nat} {w:World} {v:Value} {L:List Po} {o:Po} (h:w.ownsRow B 97 3 v (L.length+1) (zW L++o.cells)):OwnO B w v (L++[o]):=by
 unfold OwnO zW;rw[qg,List.flatMap_append];simpa[zW]using h
theorem WI (w:World) (o:Po):∀j u,o.cells[j]? =some u→(w.alloc (.cells o.cells.toArray 97)).cell? ((⟨w.heap.size,0,none⟩:Addr).add j)=some u:=fun j u hu=>by
 rw[Addr.add_lit,Nat.zero_add,za (zi w _) j];simpa using hu
theorem V8 (o:Po):∀u∈o.cells,u.oneCell'=true:=fun u hu=>by simp[Po.cells]at hu;rcases hu with rfl|rfl|rfl<;>rfl
end Go.Proofs.YtbdldkpifanaiaaDoor.Par
