import Derived.Test.YtbkajklninmhiaaGreatDoorPm37
import Derived.Lib.ItoaLen
set_option maxHeartbeats 1600000
set_option maxRecDepth 100000
set_option linter.unusedVariables false
set_option linter.unusedSimpArgs false
open List renaming length_append → qg, length_cons → qh, length_nil → qi, append_assoc → ql, getElem?_toArray → qm, getElem?_cons_zero → qn, getElem?_cons_succ → qo
open Nat renaming le_refl → qp
namespace Go.Proofs.YtbkajklninmhiaaGreatDoor.Par
open Go Syn Parse
def pfL (s:List Tr):List Po:=s.flatMap Tr.pf
theorem R9 {o:Po} (ho:opB o=true) {l:List Tr} (hl:l.length=ar o) (hg:∀t∈l,t.good):(mk o l).good∧(mk o l).pf=pfL l++[o]:=by
 obtain⟨h1,h2,h3,h4,-,-⟩:=xx ho;unfold ar at hl
 match l,hl,hg with
 |[],hl,hg=>
  refine⟨⟨ho,?_⟩,rfl⟩;simp only[qi]at hl
  split at hl
  ·omega
  split at hl
  ·omega
  split at hl
  ·split at hl<;>omega
  omega
 |[a],hl,hg=>
  refine⟨⟨ho,?_,hg a (by simp)⟩,by simp[mk,Tr.pf,pfL]⟩;simp only[qh,qi]at hl
  split at hl
  ·assumption
  split at hl
  ·omega
  split at hl
  ·split at hl<;>omega
  omega
 |[a,b],hl,hg=>
  simp only[qh,qi]at hl
  split at hl
  ·omega
  have hmk:mk o [a,b]=if o.k=9 then .bin o a b else .two o a b:=rfl
  rw[hmk]
  split at hl
  ·rename_i h9
   rw[if_pos h9];exact⟨⟨ho,h9,hg a (by simp),hg b (by simp)⟩,by simp[Tr.pf,pfL]⟩
  ·rename_i h9
   rw[if_neg h9]
   split at hl
   ·rename_i h10
    split at hl
    ·omega
    ·rename_i hv
     exact⟨⟨ho,h10,hv,hg a (by simp),hg b (by simp)⟩,by simp[Tr.pf,pfL]⟩
   ·omega
 |[a,b,c],hl,hg=>
  simp only[qh,qi]at hl
  split at hl
  ·omega
  split at hl
  ·omega
  split at hl
  ·rename_i h10
   split at hl
   ·rename_i hv
    exact⟨⟨ho,h10,hv,hg a (by simp),hg b (by simp),hg c (by simp)⟩,by simp[mk,Tr.pf,pfL]⟩
   ·omega
  ·omega
 |a::b::c::d::r,hl,hg=>
  simp only[qh]at hl
  split at hl
  ·omega
  split at hl
  ·omega
  split at hl
  ·split at hl<;>omega
  omega
theorem TD {E:Nat→Po}:∀{n:Nat} {s:List Tr},stk E n=some s→(∀t∈s,t.good)∧pfL s=(List.range n).map E:=by
 intro n
 induction n with
 |zero=>intro s h;simp[stk]at h;subst h;simp[pfL]
 |succ n ih=>
  intro s h;simp only[stk]at h
  cases hs:stk E n with
  |none=>rw[hs]at h;cases h
  |some s0=>
   rw[hs]at h;simp only[Option.bind_some]at h
   split at h
   ·rename_i hc
    obtain⟨i1,i2⟩:=ih hs;have hm:=R9 hc.1 (l:=s0.drop (s0.length-ar (E n))) (by rw[List.length_drop];omega) fun t ht=>i1 t (List.drop_subset _ _ ht)
    injection h with h;subst h;refine⟨fun t ht=>?_,?_⟩
    ·rcases List.mem_append.1 ht with ht|ht
     ·exact i1 t (List.take_subset _ _ ht)
     ·obtain rfl:t=_:=by simpa using ht
      exact hm.1
    ·have e:pfL (s0.take (s0.length-ar (E n))++[mk (E n) (s0.drop (s0.length-ar (E n)))])=pfL (s0.take (s0.length-ar (E n)))++(mk (E n) (s0.drop (s0.length-ar (E n)))).pf:=by simp[pfL]
     rw[e,hm.2,←ql]
     have e2:pfL (s0.take (s0.length-ar (E n)))++pfL (s0.drop (s0.length-ar (E n)))=pfL s0:=by
      unfold pfL;rw[←List.flatMap_append,List.take_append_drop]
     rw[e2,i2,List.range_succ,List.map_append];rfl
   ·cases h
def opL (E:Nat→Po) (n:Nat):List Po:=(List.range n).map E
theorem RX (E:Nat→Po) (n:Nat):(opL E n).length=n:=by simp[opL]
def exK (E:Nat→Po) (n:Nat):List Kd:=match stk E n with
 |some [t]=>t.tk
 |_=>[]
theorem YU {E:Nat→Po} {n:Nat} (h:yp E n=true):∃t,stk E n=some [t]∧t.good∧t.pf=opL E n∧t.num=n∧t.nst≤64∧exK E n=t.tk:=by
 unfold yp at h
 split at h
 ·rename_i t ht
  obtain⟨h1,h2⟩:=TD ht;have hp:t.pf=opL E n:=by simpa[pfL,opL]using h2
  refine⟨t,ht,h1 t (by simp),hp,?_,by simpa using h,?_⟩
  ·unfold Tr.num;rw[hp,RX]
  ·unfold exK;rw[ht]
 ·cases h
variable {T:Nat→Tk}
theorem Y5 (hT:∀i,(T i).k<50) {F:Nat} (hF:∀i o,pxP T F i o≠.out) {E:Nat→Po} {n i o:Nat} (h:yp E n=true) (ha:At T i (exK E n)) (hc:o+n≤2000) (hn:nx T (i+(exK E n).length)=0):pxP T F i o=.ok (opL E n,i+(exK E n).length,o+n):=by
 obtain⟨t,hs,hg,hp,hm,hd,hk⟩:=YU h;rw[hk]at ha hn ⊢;obtain⟨f,hf⟩:=(Zw hT t hg).full (d:=0) (o:=o) ha (by omega) (by omega) hn;unfold pxP;rw[ex_any hf (Q8 (hF i o)),zj,hp,hm]
def nmK (z:Int):Kd:=⟨1,[],z⟩
def sgK (z:Int):List Kd:=if z<0 then [kT 10,nmK (-z)]else [nmK z]
theorem WN (hT:∀i,(T i).k<50) {i:Nat} {z:Int} {r:List Kd} (ha:At T i (nmK z::r)):Yo T i=.ok (z,i+1):=by
 unfold Yo;rw[yG hT (k:=1) ha.head.1,zj,ha.head.2.2];rfl
theorem VP (hT:∀i,(T i).k<50) {i:Nat} {z:Int} (ha:At T i (sgK z)):Xc T i=.ok (z,i+(sgK z).length):=by
 unfold sgK at ha ⊢;unfold Xc;by_cases hz:z<0
 ·rw[if_pos hz]at ha ⊢
  rw[if_pos (by rw[ha.head.1];rfl),xd hT,zj,WN hT ha.tail,zj];dsimp only
  congr 2
  omega
 ·rw[if_neg hz]at ha ⊢
  rw[if_neg (by rw[ha.head.1];simp[nmK]),WN hT ha];rfl
def spK (lo hi:Int):List Kd:=kT 44::(sgK lo++kT 7::sgK hi)
theorem Ux (hT:∀i,(T i).k<50) {i:Nat} {lo hi:Int} (ha:At T i (spK lo hi)):Yz T i=.ok ((lo,hi),i+(spK lo hi).length):=by
 unfold spK at ha;unfold Yz;rw[yG hT (k:=44) ha.head.1,zj,VP hT ha.tail.left,zj];dsimp only;rw[yG hT (k:=7) ha.tail.right.head.1,zj,VP hT ha.tail.right.tail,zj];dsimp only
 congr 2
 simp[spK];omega
def tgK (z:Int):Kd:=⟨wk [yW z],[yW z],0⟩
end Go.Proofs.YtbkajklninmhiaaGreatDoor.Par
namespace Go.Proofs.YtbkajklninmhiaaGreatDoor.Print
open Go Go.RowKit Mem
theorem Zt:(Tryz.prog.info? 5).map (fun i=>(i.zero,i.size,i.bytes))=some (some (.int .u8 0),1,1):=by kernel_rfl
def Own (B:Nat) (w':World) (v:Value) (bs:List UInt8):Prop:=w'.ownsRow B 5 1 v bs.length (Lib.byteCells bs)
theorem RT (w:World) (bs:List UInt8) (cs:Array Value) (hc:cs=(Lib.byteCells bs).toArray) (hl:bs.length≤1000000):Own w.heap.size (w.alloc (.cells cs 5)) (.slice (some ⟨w.heap.size,0,none⟩) bs.length bs.length) bs:=by
 subst hc;refine⟨by simp[Lib.byteCells],Or.inr ⟨w.heap.size,bs.length,_,rfl,qp _,zo _ _,qp _,by unfold maxLen;omega,by simp[Lib.byteCells],?_⟩⟩;simp only[Nat.mul_one];rw[List.take_of_length_le (by simp[Lib.byteCells])]
theorem YK {n:Nat} (h:¬n<10):Lib.decDigits n=Lib.decDigits (n / 10)++[UInt8.ofNat (48+n % 10)]:=by rw[Lib.decDigits,dif_neg h]
theorem Xn:∀(k n:Nat),n<10 ^ k→1≤k→(Lib.decDigits n).length≤k:=by
 intro k
 induction k with
 |zero=>intro n _ h;omega
 |succ m ih=>
  intro n hn _;by_cases h:n<10
  ·rw[Lib.decDigits_one h];simp
  ·rw[YK h,qg,List.length_singleton]
   have h1:n / 10<10 ^ m:=by rw[Nat.pow_succ]at hn;omega
   have h2:1≤m:=by
    rcases m with _|m
    ·simp at hn;omega
    ·omega
   have:=ih (n / 10) h1 h2;omega
theorem Own.form {B:Nat} {w:World} {v:Value} {bs:List UInt8} (h:Own B w v bs) (hp:0<bs.length):∃g cap,v=.slice (some ⟨g,0,none⟩) bs.length cap∧B≤g∧∀j u,(Lib.byteCells bs)[j]? =some u→w.cell? ((⟨g,0,none⟩:Addr).add j)=some u:=by
 rcases h.2 with⟨-,h0⟩|⟨g,cap,cur,hv,hg,hblk,-,-,-,ht⟩
 ·omega
 ·refine⟨g,cap,hv,hg,fun j u hu=>?_⟩
  rw[Addr.add_mid,Nat.zero_add,zb hblk j];have hj:j<(Lib.byteCells bs).length:=(List.getElem?_eq_some_iff.1 hu).1;rw[←ht]at hu;rw[List.getElem?_take]at hu
  split at hu
  ·simpa using hu
  ·cases hu
theorem byteCells_one (bs:List UInt8):∀u∈Lib.byteCells bs,u.oneCell'=true:=by
 intro u hu;simp only[Lib.byteCells,List.mem_map]at hu;obtain⟨b,_,rfl⟩:=hu;rfl
end Go.Proofs.YtbkajklninmhiaaGreatDoor.Print
namespace Go.Proofs.YtbkajklninmhiaaGreatDoor.Par
open Go Syn Parse
open Go.Proofs.YtbkajklninmhiaaGreatDoor.Print (YK Xn)
theorem VN {d:Nat} (h:d<10):(UInt8.ofNat (48+d)).toNat=48+d:=by rw[UInt8.toNat_ofNat'];omega
theorem SV:∀(n u:Nat),u≤n→(Lib.decDigits u).all digit=true∧dec (Lib.decDigits u)=(u:Int):=by
 intro n
 induction n with
 |zero=>
  intro u hu;obtain rfl:u=0:=by omega
  rw[Lib.decDigits_one (by omega)]
  decide
 |succ m ih=>
  intro u hu;by_cases h:u<10
  ·rw[Lib.decDigits_one h]
   have e:=VN h;simp[digit,dec,e];omega
  ·rw[YK h]
   obtain⟨i1,i2⟩:=ih (u / 10) (by omega);have e:=VN (d:=u % 10) (Nat.mod_lt _ (by omega));refine⟨?_,?_⟩
   ·rw[List.all_append,i1]
    simp[digit,e];omega
   ·rw[XH,i2,e]
    omega
theorem WT:∀(n u:Nat),u≤n→∃b r,Lib.decDigits u=b::r∧48≤b.toNat∧b.toNat≤57∧(0<u→b.toNat≠48)∧(u=0→r=[]):=by
 intro n
 induction n with
 |zero=>
  intro u hu;obtain rfl:u=0:=by omega
  rw[Lib.decDigits_one (by omega)];exact⟨_,[],rfl,by decide,by decide,by omega,fun _=>rfl⟩
 |succ m ih=>
  intro u hu;by_cases h:u<10
  ·rw[Lib.decDigits_one h]
   have e:=VN h;exact⟨_,[],rfl,by rw[e];omega,by rw[e];omega,by rw[e];omega,fun _=>rfl⟩
  ·rw[YK h]
   obtain⟨b,r,e,h1,h2,h3,h4⟩:=ih (u / 10) (by omega);rw[e];exact⟨b,r++[_],rfl,h1,h2,fun _=>h3 (by omega),by omega⟩
theorem SU {u:Nat} (h:u≤999999999):plain (Lib.decDigits u)=true:=by
 obtain⟨b,r,e,h1,h2,h3,h4⟩:=WT u u (qp _);have ha:=(SV u u (qp _)).1;have hl:=Xn 9 u (by omega) (by omega);unfold plain;rw[ha];rw[e]at hl ⊢;by_cases h0:u=0
 ·rw[h4 h0];simp
 ·have hb:b≠48:=by intro hb;rw[hb]at h3;exact h3 (by omega) rfl
  simp[hb];simpa using hl
def NW (r:List UInt8):Prop:=∀c,r.head? =some c→wB c=false
def rend (x:Kd):List UInt8:=if x.k=1 then Lib.decDigits x.v.toNat else if x.n=[]then zG x.k else x.n
inductive Kv (x:Kd) (r:List UInt8):Prop
 |num (hk:x.k=1) (hn:x.n=[]) (h0:0≤x.v) (h1:x.v≤999999999) (hr:NW r)
 |word (hn:x.n≠[]) (hk:x.k=wk x.n) (hv:x.v=0) (hl:xi (x.n.getD 0 0)=true) (hw:x.n.all wB=true) (h16:x.n.length≤16) (hr:NW r)
 |sym (h3:3≤x.k) (h13:x.k≤13) (hn:x.n=[]) (hv:x.v=0) (hr:x.k=11→r.head? ≠some 61)
theorem Kv.lt {x:Kd} {r:List UInt8} (h:Kv x r):x.k<50:=by
 cases h with
 |num hk=>omega
 |word hn hk=>rw[hk];exact Un _
 |sym h3 h13=>omega
theorem UC {n r:List UInt8} (hn:n.all wB=true) (hr:NW r):run (n++r)=n:=by
 unfold run
 induction n with
 |nil=>
  cases r with
  |nil=>rfl
  |cons c r=>rw[List.nil_append,List.takeWhile_cons,hr c rfl];rfl
 |cons c n ih=>
  simp only[List.all_cons,Bool.and_eq_true]at hn;rw[List.cons_append,List.takeWhile_cons,if_pos hn.1,ih hn.2]
theorem ST {c:UInt8} (h:digit c=true):wB c=true∧Yp c=true∧xi c=false:=by
 have:48≤c.toNat∧c.toNat≤57:=by
  unfold digit at h;simpa using h
 unfold wB Yp xi;refine⟨?_,?_,?_⟩<;>simp<;>omega
theorem Vj {x:Kd} (hk:x.k=1):rend x=Lib.decDigits x.v.toNat:=by unfold rend;rw[if_pos hk]
theorem Zp {x:Kd} (hn:x.n≠[]) (hk:x.k=wk x.n):rend x=x.n:=by
 unfold rend;rw[if_neg (by have:=QS x.n;omega),if_neg hn]
theorem Xu {x:Kd} (h3:3≤x.k) (hn:x.n=[]):rend x=zG x.k:=by
 unfold rend;rw[if_neg (by omega),if_pos hn]
theorem lexK {t:List UInt8} {j:Nat} {x:Kd} {r:List UInt8} (h:Kv x r) (hd:t.drop j=rend x++r):xy t j=(⟨x.k,j,x.n,x.v⟩,j+(rend x).length):=by
 cases h with
 |num hk hn h0 h1 hr=>
  rw[Vj hk]at hd ⊢;obtain⟨b,d,e,h2,h3,-,-⟩:=WT x.v.toNat x.v.toNat (qp _);obtain⟨ha,hv⟩:=SV x.v.toNat x.v.toNat (qp _);have hp:=SU (u:=x.v.toNat) (by omega);rw[e]at hd ha hv hp ⊢;have hb:=ST (c:=b) (by simp only[List.all_cons,Bool.and_eq_true]at ha;exact ha.1)
  have hw:(b::d).all wB=true:=by
   rw[List.all_eq_true]at ha ⊢;exact fun c hc=>(ST (ha c hc)).1
  have hrun:=UC hw hr;rw[List.cons_append]at hd hrun;unfold xy;rw[hd];dsimp only;rw[if_neg (by rw[hb.2.2];simp),if_pos hb.2.1,hrun,if_pos hp,hv,hk,hn]
  congr 2
  omega
 |word hn hk hv hl hw h16 hr=>
  rw[Zp hn hk]at hd ⊢;have hrun:=UC hw hr;obtain⟨c,n,hc⟩:=List.exists_cons_of_ne_nil hn;rw[hc]at hl h16 hrun hd;rw[List.cons_append]at hd hrun;have hl':xi c=true:=hl;unfold xy;rw[hd];dsimp only;rw[if_pos hl',hrun,if_pos h16,hk,hv,hc]
 |sym h3 h13 hn hv hr=>
  rw[Xu h3 hn]at hd ⊢;obtain⟨k,n,v⟩:=x;simp only at*;subst hn hv;unfold xy;have hk:k=3∨k=4∨k=5∨k=6∨k=7∨k=8∨k=9∨k=10∨k=11∨k=12∨k=13:=by omega
  rcases hk with rfl|rfl|rfl|rfl|rfl|rfl|rfl|rfl|rfl|rfl|rfl
  case inr.inr.inr.inr.inr.inr.inr.inr.inl=>
   rw[hd];have h61:=hr rfl;have e:yB (60::r)=11:=by simp[yB,h61]
   show(if xi 60=true then _ else if Yp 60=true then _ else if yB (60::r)=0 then _ else ((⟨yB (60::r),j,[],0⟩:Tk),j+(zG (yB (60::r))).length))=_;rw[if_neg (by decide),if_neg (by decide),e,if_neg (by decide)]
  all_goals
   rw[hd];rfl
theorem Kv.sk {x:Kd} {r:List UInt8} (h:Kv x r) (q:List UInt8):skL false (rend x++q)=0:=by
 have key:∀(c:UInt8) (s:List UInt8),c.toNat≠32→c.toNat≠10→c.toNat≠35→skL false (c::s)=0:=fun c s h1 h2 h3=>by
  rw[skL,if_neg (by omega),if_neg h3]
 cases h with
 |num hk hn h0 h1 hr=>
  rw[Vj hk];obtain⟨b,d,e,h2,h3,-,-⟩:=WT x.v.toNat x.v.toNat (qp _);rw[e];exact key b _ (by omega) (by omega) (by omega)
 |word hn hk hv hl hw h16 hr=>
  rw[Zp hn hk];obtain⟨c,n,hc⟩:=List.exists_cons_of_ne_nil hn;rw[hc]at hl ⊢;have hl':xi c=true:=hl;unfold xi at hl';simp at hl';exact key c _ (by omega) (by omega) (by omega)
 |sym h3 h13 hn hv hr=>
  rw[Xu h3 hn]
  have:∀m:Fin 14,3≤m.val→∃c s,zG m.val=c::s∧c.toNat≠32∧c.toNat≠10∧c.toNat≠35:=by
   intro⟨m,hm⟩ h3;have hk:m=3∨m=4∨m=5∨m=6∨m=7∨m=8∨m=9∨m=10∨m=11∨m=12∨m=13:=by simp only at h3;omega
   rcases hk with rfl|rfl|rfl|rfl|rfl|rfl|rfl|rfl|rfl|rfl|rfl<;>exact⟨_,_,rfl,by decide,by decide,by decide⟩
  obtain⟨c,s,e,h1,h2,h5⟩:=this ⟨x.k,by omega⟩ h3;simp only at e;rw[e];exact key c _ h1 h2 h5
inductive Lx:List UInt8→List Kd→List UInt8→Prop
 |nil (r:List UInt8):Lx [] [] r
 |sp (b:UInt8) (s:List UInt8) (ks:List Kd) (r:List UInt8) (hb:b.toNat=32∨b.toNat=10) (h:Lx s ks r):Lx (b::s) ks r
 |tk (x:Kd) (s:List UInt8) (ks:List Kd) (r:List UInt8) (hx:Kv x (s++r)) (h:Lx s ks r):Lx (rend x++s) (x::ks) r
theorem Lx.app' {s1:List UInt8} {k1:List Kd} {q:List UInt8} (h:Lx s1 k1 q):∀(s2:List UInt8) (k2:List Kd) (r:List UInt8),q=s2++r→Lx s2 k2 r→Lx (s1++s2) (k1++k2) r:=by
 induction h with
 |nil q=>intro s2 k2 r _ h2;exact h2
 |sp b s ks q hb h ih=>intro s2 k2 r e h2;exact .sp b _ _ r hb (ih s2 k2 r e h2)
 |tk x s ks q hx h ih=>
  intro s2 k2 r e h2;rw[ql];refine .tk x _ _ r ?_ (ih s2 k2 r e h2);rw[ql,←e];exact hx
theorem Lx.app {s1 s2 r:List UInt8} {k1 k2:List Kd} (h:Lx s1 k1 (s2++r)) (h2:Lx s2 k2 r):Lx (s1++s2) (k1++k2) r:=h.app' s2 k2 r rfl h2
theorem Lx.one {x:Kd} {r:List UInt8} (h:Kv x r):Lx (rend x) [x] r:=by
 have:=Lx.tk x [] [] r h (.nil r);rwa[List.append_nil]at this
theorem Lx.bl {r:List UInt8}:Lx [32] [] r:=.sp 32 [] [] r (Or.inl rfl) (.nil r)
theorem Lx.nl {r:List UInt8}:Lx [10] [] r:=.sp 10 [] [] r (Or.inr rfl) (.nil r)
theorem Lx.lt {s:List UInt8} {ks:List Kd} {r:List UInt8} (h:Lx s ks r):∀x∈ks,x.k<50:=by
 induction h with
 |nil r=>intro x hx;cases hx
 |sp b s ks r hb h ih=>exact ih
 |tk x s ks r hx h ih=>
  intro y hy;rcases List.mem_cons.1 hy with rfl|hy
  ·exact hx.lt
  ·exact ih y hy
theorem Lx.at {s:List UInt8} {ks:List Kd} {r:List UInt8} (h:Lx s ks r):∀(t:List UInt8) (o k:Nat),t.drop o=s++r→lx t (Zq t k)=lx t o→At (tkT t) k ks∧∃o',t.drop o'=r∧lx t (Zq t (k+ks.length))=lx t o':=by
 induction h with
 |nil r=>intro t o k hd hx;exact⟨fun j x hj=>by simp at hj,o,hd,hx⟩
 |sp b s ks r hb h ih=>
  intro t o k hd hx;have hd':t.drop (o+1)=s++r:=by rw[←List.drop_drop,hd];rfl
  refine ih t (o+1) k hd' ?_;rw[hx];unfold lx;rw[hd,hd',List.cons_append,skL,if_pos hb]
  congr 1
  omega
 |tk x s ks r hx' h ih=>
  intro t o k hd hx;rw[ql]at hd
  have hl:lx t o=(⟨x.k,o,x.n,x.v⟩,o+(rend x).length):=by
   unfold lx;rw[hd,hx'.sk,Nat.add_zero];exact lexK hx' hd
  have hd':t.drop (o+(rend x).length)=s++r:=by rw[←List.drop_drop,hd];simp
  have hof:Zq t (k+1)=o+(rend x).length:=by rw[Zq,hx,hl]
  obtain⟨i1,o',i2,i3⟩:=ih t (o+(rend x).length) (k+1) hd' (by rw[hof]);refine⟨?_,o',i2,by rw[qh,Nat.add_comm ks.length 1,←Nat.add_assoc];exact i3⟩;intro j y hj
  cases j with
  |zero=>
   obtain rfl:x=y:=by simpa using hj
   have:tkT t k=⟨x.k,o,x.n,x.v⟩:=by unfold tkT;rw[hx,hl]
   rw[Nat.add_zero,this];exact⟨rfl,rfl,rfl⟩
  |succ j=>
   have:=i1 j y (by simpa using hj);rwa[Nat.add_assoc,Nat.add_comm 1 j]at this
theorem Lx.all {t:List UInt8} {ks:List Kd} (h:Lx t ks []):(∀i,(tkT t i).k<50)∧At (tkT t) 0 ks∧(tkT t ks.length).k=0:=by
 obtain⟨h1,o,h2,h3⟩:=h.at t 0 0 (by simp) rfl;rw[Nat.zero_add]at h3
 have h0:(tkT t ks.length).k=0:=by
  unfold tkT;rw[h3];unfold lx;rw[h2];show(xy t (o+0)).1.k=0;unfold xy;rw[Nat.add_zero,h2]
 refine⟨fun i=>?_,h1,h0⟩;by_cases hi:i<ks.length
 ·have:=h1 i ks[i] (List.getElem?_eq_getElem hi)
  rw[Nat.zero_add]at this;rw[this.1];exact h.lt _ (List.getElem_mem hi)
 ·have:∀n,(tkT t (ks.length+n)).k=0:=by
   intro n
   induction n with
   |zero=>exact h0
   |succ n ih=>rw[←Nat.add_assoc,Up t _ (Or.inl ih)];exact ih
  have:=this (i-ks.length);rw[Nat.add_sub_cancel' (by omega)]at this;omega
end Go.Proofs.YtbkajklninmhiaaGreatDoor.Par
namespace Go.Proofs.YtbkajklninmhiaaGreatDoor.Syn
open Go Go.RowKit Mem
attribute [local go_sem ↓] Go.wp_at_zero Go.wp_at_succ
theorem Sx (x:Array Value) (w:World):Calls Tryz.prog 185 #[.agg x] w fun e w'=>e=.returned (.int .i64 7)∧Below w.heap.size w w':=by
 go_enter Tryz.func185,Tryz.ntmps185;go_wp2;go_ret;exact⟨rfl,by go_grown⟩
theorem RN (x:Array Value) (w:World):Calls Tryz.prog 187 #[.agg x] w fun e w'=>e=.returned (.int .i64 6)∧Below w.heap.size w w':=by
 go_enter Tryz.func187,Tryz.ntmps187;go_wp2;go_ret;exact⟨rfl,by go_grown⟩
theorem VC (x:Array Value) (w:World):Calls Tryz.prog 191 #[.agg x] w fun e w'=>e=.returned (.int .i64 7)∧Below w.heap.size w w':=by
 go_enter Tryz.func191,Tryz.ntmps191;go_wp2;go_ret;exact⟨rfl,by go_grown⟩
theorem YO (k v:Int) (n:ByteArray) (x y:Value) (w:World) (hT:ZT w) (h0:0≤v) (h1:v≤7):Calls Tryz.prog 142 #[.agg #[.int .i64 k,.int .i64 v,.string n,x,y]] w fun e w'=>e=.returned (.int .i64 (z9 v))∧Below w.heap.size w w':=by
 obtain⟨m,rfl⟩:∃m:Nat,v=(m:Int):=⟨v.toNat,by omega⟩;have t0:=hT m (by omega);have g5:=lt_of_cell t0;have i0:(0:Int)≤(m:Int):=by omega
 have i1:(m:Int)<8:=by omega
 clear hT;go_enter Tryz.func142,Tryz.ntmps142;go_wp2;go_ret;exact⟨rfl,by go_grown⟩
theorem WQ (k v:Int) (n:ByteArray) (x y:Value) (w:World) (hT:ZT w) (h0:0≤v) (h1:v≤7):Calls Tryz.prog 120 #[.agg #[.int .i64 k,.int .i64 v,.string n,x,y]] w fun e w'=>e=.returned (.int .i64 (lL (z9 v)))∧Below w.heap.size w w':=by
 have HT:=Hm hT;clear hT;obtain⟨s,hs⟩:∃s,s=z9 v:=⟨_,rfl⟩;have HS:=Hm hs;rw[←hs];clear hs;have hB:=Hm ((Below.refl w.heap.size w).alloc (qp _) (.cells #[.int .i64 k,.int .i64 v,.string n,x,y] 171))
 cases h3:(s==3)with
 |true=>
  have hv:Hid (lL s=4):=by unfold Hid lL;rw[if_pos (by simpa using h3)]
  go_enter Tryz.func120,Tryz.ntmps120;go_wp2_with fail;refine(YO k v n x y _ (HT.out.below hB.out) h0 h1).mono ?_;rintro e w1 ⟨rfl,hb⟩;rw[←HS.out];have HB:=Hm (zn hB.out hb);clear hb;go_wp2;go_ret;rw[hv.out];exact⟨rfl,HB.out⟩
 |false=>
  have hv:Hid (lL s=s):=by unfold Hid lL;rw[if_neg (by simpa using h3)]
  go_enter Tryz.func120,Tryz.ntmps120;go_wp2_with fail;refine(YO k v n x y _ (HT.out.below hB.out) h0 h1).mono ?_;rintro e w1 ⟨rfl,hb⟩;rw[←HS.out];have HB:=Hm (zn hB.out hb);have A1:=Hm (zg (zo w _) hb);clear hb;have x0:=zb A1.out 0;have x1:=zb A1.out 1;have x2:=zb A1.out 2;have x3:=zb A1.out 3;have x4:=zb A1.out 4;simp only[qm,qn,qo]at x0 x1 x2 x3 x4;go_wp2_with fail;refine(YO k v n x y _ (HT.out.below HB.out) h0 h1).mono ?_;rintro e w2 ⟨rfl,hb⟩;rw[←HS.out];have HB2:=Hm (zn HB.out hb);clear hb x0 x1 x2 x3 x4;go_wp2;go_ret;rw[hv.out];exact⟨rfl,HB2.out⟩
theorem UP (k v:Int) (n:ByteArray) (x y:Value) (w:World) (hT:ZT w) (h0:0≤v) (h1:v≤7):Calls Tryz.prog 121 #[.agg #[.int .i64 k,.int .i64 v,.string n,x,y]] w fun e w'=>e=.returned (.int .i64 (z9 v+1))∧Below w.heap.size w w':=by
 have HT:=Hm hT;clear hT;have hs:=QI v;have hB:=Hm ((Below.refl w.heap.size w).alloc (qp _) (.cells #[.int .i64 k,.int .i64 v,.string n,x,y] 171));go_enter Tryz.func121,Tryz.ntmps121;go_wp2_with fail;refine(YO k v n x y _ (HT.out.below hB.out) h0 h1).mono ?_;rintro e w1 ⟨rfl,hb⟩;have HB:=Hm (zn hB.out hb);clear hb;go_wp2;go_ret;exact⟨rfl,HB.out⟩
def nestF:Tr→Nat
 |.leaf _=>184
 |.pre _ _=>186
 |.bin _ _ _=>189
 |.two _ _ _=>190
 |.three _ _ _ _=>190
def Y3 (t:Tr):Prop:=∀(w:World) (T:TypeId) (u:Value),Nd w none (.iface T u) t→ZT w→Calls Tryz.prog (nestF t) #[u] w fun e w'=>e=.returned (.int .i64 t.nst)∧Below w.heap.size w w'
def strF:Tr→Nat
 |.leaf _=>185
 |.pre _ _=>187
 |.bin _ _ _=>142
 |.two _ _ _=>191
 |.three _ _ _ _=>191
theorem Ru (t:Tr) (w:World) (T:TypeId) (u:Value) (h:Nd w none (.iface T u) t) (hw:t.wf) (hT:ZT w):Calls Tryz.prog (strF t) #[u] w fun e w'=>e=.returned (.int .i64 t.str)∧Below w.heap.size w w':=by
 cases h with
 |leaf o=>
  have:(Tr.leaf o).str=7:=by unfold Tr.str yS Tr.op;simp only[Tr.wf]at hw;simp only;rw[if_neg (by omega),if_neg (by omega)]
  rw[this];exact Sx _ w
 |pre o v a h=>
  have:(Tr.pre o a).str=6:=by unfold Tr.str yS Tr.op;simp only[Tr.wf]at hw;simp only;rw[if_neg (by omega),if_pos hw.1]
  rw[this];exact RN _ w
 |bin o v u a b h h'=>
  have:(Tr.bin o a b).str=z9 o.v:=by unfold Tr.str yS Tr.op;simp only[Tr.wf]at hw;simp only;rw[if_pos hw.1.1]
  simp only[Tr.wf]at hw;rw[this];exact YO _ _ _ _ _ w hT hw.1.2.1 hw.1.2.2
 |two o g off c v u a b hr hk c1 c2 h h'=>
  have:(Tr.two o a b).str=7:=by unfold Tr.str yS Tr.op;simp only[Tr.wf]at hw;simp only;rw[if_neg (by omega),if_neg (by omega)]
  rw[this];exact VC _ w
 |three o g off c v u x a b d hr hk c1 c2 c3 h h' h''=>
  have:(Tr.three o a b d).str=7:=by unfold Tr.str yS Tr.op;simp only[Tr.wf]at hw;simp only;rw[if_neg (by omega),if_neg (by omega)]
  rw[this];exact VC _ w
theorem Si (t:Tr) (hN:Y3 t) (v:Value) (least:Int) (w:World) (h:Nd w none v t) (hw:t.wf) (hT:ZT w) (hs:t.sz≤1000000):
  Calls Tryz.prog 188 #[v,.int .i64 least] w fun e w'=>e=.returned (.int .i64 (opn t.nst t.str least))∧Below w.heap.size w w':=by
 have HT:=Hm hT;have HN:=Hm hN;have HW:=Hm hw;have hb:=yU t;have n0:0≤t.nst:=hb.1;have n1:t.nst≤2000000:=by omega
 obtain⟨N,hN'⟩:∃N,N=t.nst:=⟨_,rfl⟩;obtain⟨S,hS'⟩:∃S,S=t.str:=⟨_,rfl⟩;have HD:=Hm h;rw[←hN']at n0 n1;have HNe:=Hm hN';have HSe:=Hm hS';rw[←hN',←hS'];clear hT hN hb hs hN' hS' hw
 cases h
 all_goals
  by_cases hl:S<least
  ·have hv:Hid (opn N S least=N+1):=by unfold Hid opn;rw[if_pos hl]
   go_enter Tryz.func188,Tryz.ntmps188;go_wp2_with fail;refine(Ru _ _ _ _ HD.out HW.out HT.out).mono ?_;rintro e w1 ⟨rfl,hb1⟩;rw[←HSe.out];have HB1:=Hm hb1;clear hb1;go_wp2_with fail;refine(HN.out _ _ _ (HD.out.kept HB1.out) (HT.out.below HB1.out)).mono ?_;rintro e w2 ⟨rfl,hb2⟩;rw[←HNe.out];have HB2:=Hm (zn HB1.out hb2);clear hb2;go_wp2;go_ret;rw[hv.out];exact⟨rfl,HB2.out⟩
  ·have hv:Hid (opn N S least=N):=by unfold Hid opn;rw[if_neg hl]
   have hd:decide (S<least)=false:=by simpa using hl
   go_enter Tryz.func188,Tryz.ntmps188;go_wp2_with fail;refine(Ru _ _ _ _ HD.out HW.out HT.out).mono ?_;rintro e w1 ⟨rfl,hb1⟩;rw[←HSe.out];have HB1:=Hm hb1;clear hb1;go_wp2_with fail;refine(HN.out _ _ _ (HD.out.kept HB1.out) (HT.out.below HB1.out)).mono ?_;rintro e w2 ⟨rfl,hb2⟩;rw[←HNe.out];have HB2:=Hm (zn HB1.out hb2);clear hb2;go_wp2;go_ret;rw[hv.out];exact⟨rfl,HB2.out⟩
theorem Th (x:Array Value) (w:World):Calls Tryz.prog 184 #[.agg x] w fun e w'=>e=.returned (.int .i64 0)∧Below w.heap.size w w':=by
 go_enter Tryz.func184,Tryz.ntmps184;go_wp2;go_ret;exact⟨rfl,by go_grown⟩
theorem T9 (a:Tr) (hN:Y3 a) (k v:Int) (n:ByteArray) (x:Value) (w:World) (h:Nd w none x a) (hw:a.wf) (hT:ZT w) (hs:a.sz≤1000000):Calls Tryz.prog 186 #[.agg #[.int .i64 k,.int .i64 v,.string n,x]] w fun e w'=>e=.returned (.int .i64 (1+opn a.nst a.str 6))∧Below w.heap.size w w':=by
 have HT:=Hm hT;have HD:=Hm h;have hb:=yU a;have hB:=Hm ((Below.refl w.heap.size w).alloc (qp _) (.cells #[.int .i64 k,.int .i64 v,.string n,x] 167));obtain⟨N,hN'⟩:∃N,N=opn a.nst a.str 6:=⟨_,rfl⟩;have n0:0≤N∧N≤3000000:=by rw[hN'];unfold opn;split<;>omega
 obtain⟨n0,n1⟩:=n0;have HNe:=Hm hN';rw[←hN'];clear hN' hT h hb;go_enter Tryz.func186,Tryz.ntmps186;go_wp2_with fail;refine(Si a hN x 6 _ (HD.out.kept hB.out) hw (HT.out.below hB.out) hs).mono ?_;rintro e w1 ⟨rfl,hb1⟩;rw[←HNe.out];have HB1:=Hm (zn hB.out hb1);clear hb1;go_wp2;go_ret;exact⟨rfl,HB1.out⟩
theorem ret_i {a b:Int} (h:a=b):Ending.returned (.int .i64 a)=.returned (.int .i64 b):=by rw[h]
theorem S4 (a b:Tr) (hN:Y3 a) (hM:Y3 b) (k v:Int) (n:ByteArray) (x y:Value) (w:World) (h:Nd w none x a) (h':Nd w none y b) (hw:a.wf) (hw':b.wf) (hT:ZT w) (hs:a.sz≤1000000) (hs':b.sz≤1000000) (h0:0≤v) (h1:v≤7):Calls Tryz.prog 189 #[.agg #[.int .i64 k,.int .i64 v,.string n,x,y]] w fun e w'=>e=.returned (.int .i64 (max (opn a.nst a.str (lL (z9 v))) (opn b.nst b.str (z9 v+1))))∧Below w.heap.size w w':=by
 have HT:=Hm hT;have HD:=Hm h;have HD':=Hm h';have HN:=Hm hN;have HM:=Hm hM;have HW:=Hm hw;have HW':=Hm hw';have hB:=Hm ((Below.refl w.heap.size w).alloc (qp _) (.cells #[.int .i64 k,.int .i64 v,.string n,x,y] 171));clear hT h h' hN hM hw hw';go_enter Tryz.func189,Tryz.ntmps189;go_wp2_with fail;have HTb:Hid (ZT (w.alloc (.cells #[.int .i64 k,.int .i64 v,.string n,x,y] 171)).drew):=(HT.out.below hB.out).below (Below.refl _ _).drew;have HDb:Hid (Nd (w.alloc (.cells #[.int .i64 k,.int .i64 v,.string n,x,y] 171)).drew none x a):=(HD.out.kept hB.out).kept (Below.refl _ _).drew;have HDb':Hid (Nd (w.alloc (.cells #[.int .i64 k,.int .i64 v,.string n,x,y] 171)).drew none y b):=(HD'.out.kept hB.out).kept (Below.refl _ _).drew
 go_region_held3 (fun w'=>w'.cell? ⟨w.heap.size,0,none⟩=some (.int .i64 k)∧w'.cell? ⟨w.heap.size,1,none⟩=some (.int .i64 v)∧w'.cell? ⟨w.heap.size,2,none⟩=some (.string n)∧w'.cell? ⟨w.heap.size,3,none⟩=some x∧w'.cell? ⟨w.heap.size,4,none⟩=some y)
  (first|go_keep|((repeat' constructor)<;>first|exact zB hb4 (by first|assumption|(simp[*];done))|exact zB hb3 (by first|assumption|(simp[*];done))|exact zB hb2 (by first|assumption|(simp[*];done))|exact zB hb1 (by first|assumption|(simp[*];done))))
  ((first|(have _:=hb3;go_at_call 188;refine(Si b HM.out y _ _ (((HDb'.out.kept hb1).kept hb2).kept hb3) HW'.out (((HTb.out.below hb1).below hb2).below hb3) hs').mono ?_;rintro e w4 ⟨rfl,hb4⟩)|(go_at_call 121;refine(UP k v n x y _ ((HTb.out.below hb1).below hb2) h0 h1).mono ?_;rintro e w3 ⟨rfl,hb3⟩)|(go_at_call 188;refine(Si a HN.out x _ _ (HDb.out.kept hb1) HW.out (HTb.out.below hb1) hs).mono ?_;rintro e w2 ⟨rfl,hb2⟩)|(go_at_call 120;refine(WQ k v n x y _ HTb.out h0 h1).mono ?_;rintro e w1 ⟨rfl,hb1⟩)))
 have HB4:=Hm (zn (zn (zn (zn hB.out.drew hb1) hb2) hb3) hb4);clear hb1 hb2 hb3 hb4 HTb HDb HDb' HT HD HD';go_wp2
 all_goals go_ret
 all_goals refine⟨ret_i ?_,HB4.out⟩
 all_goals first|rfl|omega
def mx (ts:Nat→Tr):Nat→Int
 |0=>0
 |n+1=>if mx ts n<(ts n).nst then (ts n).nst else mx ts n
theorem mx_bd (ts:Nat→Tr) (n:Nat) (h:∀i,i<n→(ts i).sz≤1000000):0≤mx ts n∧mx ts n≤2000000:=by
 induction n with
 |zero=>simp[mx]
 |succ n ih=>
  have:=ih (fun i hi=>h i (by omega));have:=yU (ts n);have:=h n (by omega);unfold mx
  split<;>omega
theorem Wv (N:Nat) (ts:Nat→Tr) (vs:Nat→Value) (k v:Int) (n:ByteArray) (g off c:Nat) (w:World) (hN:∀i,i<N→Y3 (ts i)) (hD:∀i,i<N→Nd w none (vs i) (ts i)) (hc:∀i,i<N→w.cell? ⟨g,off+i,none⟩=some (vs i)) (hT:ZT w) (hs:∀i,i<N→(ts i).sz≤1000000) (hn:N≤3):
  Calls Tryz.prog 190 #[.agg #[.int .i64 k,.int .i64 v,.string n,.slice (some ⟨g,off,none⟩) N c]] w fun e w'=>e=.returned (.int .i64 (1+mx ts N))∧Below w.heap.size w w':=by
 have HN:=Hm hN;have HD:=Hm hD;have HC:=Hm hc;have HT:=Hm hT;have HS:=Hm hs;clear hN hD hc hT hs;go_enter Tryz.func190,Tryz.ntmps190;go_wp2;go_loopw [3,9] (fun m i wr=>∃j:Nat,j≤N∧i=.int .i64 (j:Int)∧m=.int .i64 (mx ts j)∧Hid (Below w.heap.size w wr)) (fun _ i _=>N- (intOf i).toNat)
 case atStart=>exact⟨0,Nat.zero_le _,rfl,rfl,by unfold Hid;go_grown⟩
 case round=>
  obtain⟨j,hj,rfl,rfl,hb⟩:=hrel;have m0:=mx_bd ts j (fun i hi=>HS.out i (by omega));obtain⟨m0,m1⟩:=m0;by_cases hlt:j<N
  ·have e0:=zB hb.out (HC.out j hlt)
   have k0:(0:Int)≤(j:Int):=by omega
   have k1:(j:Int)<(N:Int):=by omega
   have D:=Hm ((HD.out j hlt).kept hb.out);have NO:=Hm (HN.out j hlt);have hsz:=HS.out j hlt;have hnb:=yU (ts j);obtain⟨T,u,hu⟩:=(HD.out j hlt).form;have hmx:Hid (mx ts (j+1)=if mx ts j<(ts j).nst then (ts j).nst else mx ts j):=rfl;obtain⟨M,hM⟩:∃M,M=mx ts (j+1):=⟨_,rfl⟩;have HM:=Hm hM;clear hM;generalize hx:vs j=x at e0 D hu;generalize hy:ts j=t at D NO hsz hnb hmx;subst hu;clear hx hy;have D':=D.out;obtain⟨q,hq⟩:∃q,q=t.nst:=⟨_,rfl⟩;have Q0:0≤q∧q≤2000000:=by omega
   obtain⟨q0,q1⟩:=Q0;have HQ:=Hm hq;clear hq hsz hnb;have hr:Hid (∀w',Below w.heap.size w w'→(∃j_1:Nat,j_1≤N∧Value.int .i64 ((j:Int)+1)=.int .i64 (j_1:Int)∧Value.int .i64 (if mx ts j<q then q else mx ts j)=.int .i64 (mx ts j_1)∧Hid (Below w.heap.size w w'))):=fun w' h=>⟨j+1,by omega,by go_num,by rw[hmx.out,HQ.out],h⟩
   cases D'
   all_goals
    go_wp2_with fail;refine(NO.out _ _ _ D.out (HT.out.below hb.out)).mono ?_;rintro e w2 ⟨rfl,hb2⟩;rw[←HQ.out];have HB2:=Hm (zn hb.out hb2);clear hb2 e0;go_wp2;exact⟨hr.out _ HB2.out,by simp[intOf];omega⟩
  ·obtain rfl:j=N:=by omega
   have k1:decide ((j:Int)<(j:Int))=false:=by simp
   go_wp2;go_ret;exact⟨rfl,hb.out⟩
theorem nestOk (t:Tr) (hw:t.wf) (hs:t.sz≤1000000):Y3 t:=by
 induction t with
 |leaf o=>intro w T u h hT;cases h;exact Th _ w
 |pre o a ih=>
  simp only[Tr.wf]at hw;simp only[Tr.sz]at hs;intro w T u h hT
  cases h with
  |pre _ v _ h=>exact T9 a (ih hw.2 (by omega)) _ _ _ v w h hw.2 hT (by omega)
 |bin o a b ih ih'=>
  simp only[Tr.wf]at hw;simp only[Tr.sz]at hs;intro w T u h hT
  cases h with
  |bin _ v u _ _ h h'=>exact S4 a b (ih hw.2.1 (by omega)) (ih' hw.2.2 (by omega)) _ _ _ v u w h h' hw.2.1 hw.2.2 hT (by omega) (by omega) hw.1.2.1 hw.1.2.2
 |two o a b ih ih'=>
  simp only[Tr.wf]at hw;simp only[Tr.sz]at hs;have i1:=ih hw.2.1 (by omega);have i2:=ih' hw.2.2 (by omega);intro w T u h hT
  cases h with
  |two _ g off c v u _ _ hr hk c1 c2 h h'=>
   have key:=Wv 2 (fun i=>if i=0 then a else b) (fun i=>if i=0 then v else u) o.k o.v ⟨o.n.toArray⟩ g off c w (fun i hi=>by by_cases e:i=0<;>simp[e,i1,i2]) (fun i hi=>by by_cases e:i=0<;>simp[e,h,h']) (fun i hi=>by
    have:i=0∨i=1:=by omega
    rcases this with rfl|rfl<;>simp[c1,c2]) hT (fun i hi=>by by_cases e:i=0<;>simp[e]<;>omega) (by omega)
   have e:1+mx (fun i=>if i=0 then a else b) 2=(Tr.two o a b).nst:=by
    have:=yU a;have:=yU b;simp only[mx,Tr.nst];simp;split<;>split<;>omega
   rw[e]at key;exact key
 |three o a b d ih ih' ih''=>
  simp only[Tr.wf]at hw;simp only[Tr.sz]at hs;have i1:=ih hw.2.1 (by omega);have i2:=ih' hw.2.2.1 (by omega);have i3:=ih'' hw.2.2.2 (by omega);intro w T u h hT
  cases h with
  |three _ g off c v u x _ _ _ hr hk c1 c2 c3 h h' h''=>
   have key:=Wv 3 (fun i=>if i=0 then a else if i=1 then b else d) (fun i=>if i=0 then v else if i=1 then u else x) o.k o.v ⟨o.n.toArray⟩ g off c w (fun i hi=>by by_cases e:i=0<;>by_cases e':i=1<;>simp[e,e',i1,i2,i3]) (fun i hi=>by by_cases e:i=0<;>by_cases e':i=1<;>simp[e,e',h,h',h'']) (fun i hi=>by
    have:i=0∨i=1∨i=2:=by omega
    rcases this with rfl|rfl|rfl<;>simp[c1,c2,c3]) hT (fun i hi=>by by_cases e:i=0<;>by_cases e':i=1<;>simp[e,e']<;>omega) (by omega)
   have e:1+mx (fun i=>if i=0 then a else if i=1 then b else d) 3=(Tr.three o a b d).nst:=by
    have:=yU a;have:=yU b;have:=yU d;simp only[mx,Tr.nst];simp;split<;>split<;>split<;>omega
   rw[e]at key;exact key
end Go.Proofs.YtbkajklninmhiaaGreatDoor.Syn
