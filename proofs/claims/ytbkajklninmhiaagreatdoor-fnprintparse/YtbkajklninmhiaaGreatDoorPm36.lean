import Derived.Test.YtbkajklninmhiaaGreatDoorPm35
import Derived.Lib.ItoaNum
set_option maxHeartbeats 1600000
set_option linter.unusedVariables false
set_option linter.unusedSimpArgs false
open List renaming length_nil → qi
open Nat renaming le_refl → qp
namespace Go.Proofs.YtbkajklninmhiaaGreatDoor.Dq
open Go Go.RowKit Mem Syn Parse Par Draw
variable {D:Sr}
theorem Qc (hlt:∀s n,0<n→(D.bel s n).1<n) (s:DS):(yZ D s).1.length≤101:=by
 unfold yZ
 split
 rename_i k s1 hk
 split
 rename_i x s2 hx
 have h2:=hlt s1 2 (by omega);rw[hx]at h2;simp only at h2
 split
 ·simp[VZ];omega
 split
 ·split;simp
 split
 ·simp
 ·simp
theorem TE (G:Bool) (S:Sn):(zO D G S).L.length≤S.L.length+1:=by
 unfold zO
 split
 split
 ·split
  split
  simp
 ·split
  simp only
  split
  ·simp
  ·omega
theorem Ve (G:Bool):∀(n:Nat) (S:Sn),(Ya D G n S).L.length≤S.L.length+n
 |0,S=>qp _
 |n+1,S=>by
  rw[Ya];have:=Ve G n (zO D G S);have:=TE (D:=D) G S;omega
theorem Rv (s:DS) (n:Nat) (G:Bool):(Yq D s n G).1.length≤n:=by
 have:=Ve (D:=D) G n ⟨s,[],[],false⟩;simp only[qi]at this;unfold Yq
 try simp only
 omega
theorem Tq (L:List Im) (j k:Nat) (s:DS):(ya D L j k s).1.length≤L.length+2:=by
 unfold ya
 split
 ·simp
 split
 ·split;simp
 split
 ·split;simp
 split
 ·simp only
  split
  ·simp
  ·omega
 split
 ·split;simp
 ·simp
theorem Rj (L:List Im) (s:DS):(V9 D L s).1.length≤L.length+2:=by
 unfold V9
 split
 ·simp
 split
 split
 exact Tq L _ _ _
theorem Uw (L:List Im) (s:DS):(ZQ D L s).1.length=L.length:=by
 unfold ZQ
 split
 ·rfl
 split
 split
 split
 simp
theorem QO (hlt:∀s n,0<n→(D.bel s n).1<n) (s:DS) (z:Nat) (h0:0<z) (h8:z≤8):(WV D s z).1.length≤101:=by
 unfold WV
 split
 rename_i o s1 ho
 split
 ·exact Qc hlt s1
 split
 rename_i x s2 hx
 have hx':=hlt s1 z h0;rw[hx]at hx';simp only at hx'
 split
 rename_i G s3 hG
 split
 rename_i L1 s4 hL1
 have h1:=Rv (D:=D) s3 (1+x) G;rw[hL1]at h1;simp only at h1
 split
 rename_i u s5 hu
 split
 rename_i L2 s6 hL2
 have h2:L2.length≤L1.length+2:=by
  by_cases e:u=true
  ·rw[if_pos e]at hL2
   have:=Rj (D:=D) L1 s5;rw[hL2]at this;exact this
  ·rw[if_neg e]at hL2
   injection hL2 with hL2;rw[←hL2];omega
 split
 rename_i v s7 hv
 split
 ·rw[Uw];omega
 ·simp only;omega
theorem bel_lt (bs:List UInt8) (s:DS) (n:Nat) (h:0<n):((Dof bs).bel s n).1<n:=by
 show(yv bs s n).1<n;unfold yv
 split
 ·exact Nat.mod_lt _ h
 ·exact Nat.mod_lt _ h
theorem prog_len (bs:List UInt8):(Y8 bs).length≤101:=QO (bel_lt bs) _ _ (TM _).1 (TM _).2
end Go.Proofs.YtbkajklninmhiaaGreatDoor.Dq
namespace Go.Proofs.YtbkajklninmhiaaGreatDoor.Par
open Go Syn
variable {T:Nat→Tk}
theorem xH {α β:Type} {a b:Rs α} {F G:α→Rs β} (h:b.bnd G≠.out) (ha:b≠.out→a=b) (hF:∀x,b=.ok x→G x≠.out→F x=G x):a.bnd F=b.bnd G:=by
 have hb:b≠.out:=fun e=>h (by rw[e];rfl)
 rw[ha hb]
 cases b with
 |out=>exact absurd rfl hb
 |bad c a=>rfl
 |ok x=>exact hF x rfl h
theorem xp {α β:Type} {a:Rs α} {F G:α→Rs β} (h:a.bnd G≠.out) (hF:∀x,a=.ok x→G x≠.out→F x=G x):a.bnd F=a.bnd G:=xH h (fun _=>rfl) hF
theorem YE:∀f,
  (∀s i o d,ex T f s i o d≠.out→ex T (f+1) s i o d=ex T f s i o d)∧
  (∀s l i o d,lp T f s l i o d≠.out→lp T (f+1) s l i o d=lp T f s l i o d)∧
  (∀i o d,un T f i o d≠.out→un T (f+1) i o d=un T f i o d)∧
  (∀i o d,pr T f i o d≠.out→pr T (f+1) i o d=pr T f i o d)∧
  (∀m i o d,og T f m i o d≠.out→og T (f+1) m i o d=og T f m i o d)∧
  (∀m L i o d,ol T f m L i o d≠.out→ol T (f+1) m L i o d=ol T f m L i o d)
 |0=>⟨fun _ _ _ _ h=>absurd (by rw[ex]) h,fun _ _ _ _ _ h=>absurd (by rw[lp]) h,fun _ _ _ h=>absurd (by rw[un]) h,fun _ _ _ h=>absurd (by rw[pr]) h,fun _ _ _ _ h=>absurd (by rw[og]) h,fun m _ _ _ _ h=>absurd (by cases m<;>rw[ol]) h⟩
 |f+1=>by
  obtain⟨hE,hL,hU,hP,hG,hO⟩:=YE f;refine⟨?_,?_,?_,?_,?_,?_⟩
  ·intro s i o d h
   rw[ex]at h;have e1:ex T (f+1+1) s i o d=if s=6 then un T (f+1) i o d else (ex T (f+1) (s+1) i o d).bnd fun x=>lp T (f+1) s x.1 x.2.1 x.2.2 d:=by rw[ex]
   have e2:ex T (f+1) s i o d=if s=6 then un T f i o d else (ex T f (s+1) i o d).bnd fun x=>lp T f s x.1 x.2.1 x.2.2 d:=by rw[ex]
   rw[e1,e2]
   split
   ·rename_i h6
    rw[if_pos h6]at h;exact hU i o d h
   ·rename_i h6
    rw[if_neg h6]at h;exact xH h (hE _ _ _ _) fun x _ hx=>hL _ _ _ _ _ hx
  ·intro s l i o d h
   rw[lp]at h;rw[lp,lp]
   split
   ·rename_i ha
    rw[if_pos ha]at h;refine xp h fun o1 _ h1=>xp h1 fun j _ h2=>xH h2 (hE _ _ _ _) fun x _ h3=>?_
    split
    ·rfl
    ·rename_i h3'
     rw[if_neg h3']at h3;exact hL _ _ _ _ _ h3
   ·rfl
  ·intro i o d h
   rw[un]at h;rw[un,un]
   split
   ·rename_i ha
    rw[if_pos ha]at h;exact xp h fun o1 _ h1=>xp h1 fun _ _ h2=>xp h2 fun j _ h3=>xH h3 (hU _ _ _) fun x _ _=>rfl
   ·rename_i ha
    rw[if_neg ha]at h;exact hP _ _ _ h
  ·intro i o d h
   rw[pr]at h;rw[pr,pr]
   split
   ·rename_i ha
    rw[if_pos ha]at h;exact xH h (hG _ _ _ _) fun x _ _=>rfl
   ·rename_i ha
    rw[if_neg ha]at h
    split
    ·rename_i hb
     rw[if_pos hb]at h;exact xp h fun o1 _ h1=>xp h1 fun j _ h2=>xH h2 (hG _ _ _ _) fun x _ _=>rfl
    ·rfl
  ·intro m i o d h
   rw[og]at h;rw[og,og]
   split
   ·rename_i ha
    rw[if_pos ha]at h;exact xp h fun _ _ h1=>xp h1 fun j _ h2=>xH h2 (hE _ _ _ _) fun x _ h3=>xH h3 (hO _ _ _ _ _) fun y _ _=>rfl
   ·rfl
  ·intro m L i o d h
   cases m with
   |zero=>rw[ol,ol]
   |succ m=>
    rw[ol]at h;rw[ol,ol];exact xp h fun j _ h1=>xH h1 (hE _ _ _ _) fun x _ h2=>hO _ _ _ _ _ h2
theorem So {α:Type} {F:Nat→Rs α} (hm:∀f,F f≠.out→F (f+1)=F f) {f g:Nat} (hfg:f≤g) (h:F f≠.out):F g=F f:=by
 induction hfg with
 |refl=>rfl
 |step _ ih=>rw[hm _ (by rw[ih];exact h),ih]
theorem YI {f g s i o d:Nat} {r:Tr×Nat×Nat} (hfg:f≤g) (h:ex T f s i o d=.ok r):ex T g s i o d=.ok r:=(So (F:=fun f=>ex T f s i o d) (fun f=>(YE f).1 s i o d) hfg (by rw[h];simp)).trans h
theorem UO {f g s i o d:Nat} {l:Tr} {r:Tr×Nat×Nat} (hfg:f≤g) (h:lp T f s l i o d=.ok r):lp T g s l i o d=.ok r:=(So (F:=fun f=>lp T f s l i o d) (fun f=>(YE f).2.1 s l i o d) hfg (by rw[h];simp)).trans h
theorem ex_any {f g s i o d:Nat} {r:Tr×Nat×Nat} (h:ex T f s i o d=.ok r) (hg:ex T g s i o d≠.out):ex T g s i o d=.ok r:=by
 rcases Nat.le_total f g with hfg|hfg
 ·exact YI hfg h
 ·rw[←So (F:=fun f=>ex T f s i o d) (fun f=>(YE f).1 s i o d) hfg hg]
  exact h
end Go.Proofs.YtbkajklninmhiaaGreatDoor.Par
namespace Go.Proofs.YtbkajklninmhiaaGreatDoor.Syn
open Go Go.RowKit Mem
def yW (z:Int):UInt8:=UInt8.ofNat (97+z.toNat)
def Wl (o:Po):List UInt8:=
 if o.k=1 then Lib.itoa o.v else if o.k=2 then o.n else if o.k=4 then [104,97,115,32,yW o.v]else if o.k=5 then [115,107,105,108,108,32,yW o.v]
 else if o.k=6 then zG (28+o.v.toNat)else zG (30+o.v.toNat)
def par (b:Bool) (t:List UInt8):List UInt8:=if b=true then [40]++t++[41]else t
def Xd (o:Po):List UInt8:=if o.k=7 then [45]else [110,111,116,32]
def Tr.txt:Tr→List UInt8
 |.leaf o=>Wl o
 |.pre o a=>Xd o++par (decide (a.str<6)) a.txt
 |.bin o a b=>par (decide (a.str<lL (z9 o.v))) a.txt++[32]++zG (8+o.v.toNat)++[32]++par (decide (b.str<z9 o.v+1)) b.txt
 |.two o a b=>zG (25+o.v.toNat)++[40]++a.txt++[44,32]++b.txt++[41]
 |.three o a b c=>zG (25+o.v.toNat)++[40]++a.txt++[44,32]++b.txt++[44,32]++c.txt++[41]
def Tr.ops:Tr→Prop
 |.leaf o=>opB o=true
 |.pre o a=>opB o=true∧a.ops
 |.bin o a b=>opB o=true∧a.ops∧b.ops
 |.two o a b=>opB o=true∧a.ops∧b.ops
 |.three o a b c=>opB o=true∧a.ops∧b.ops∧c.ops
end Go.Proofs.YtbkajklninmhiaaGreatDoor.Syn
namespace Go.Proofs.YtbkajklninmhiaaGreatDoor.Par
open Go Syn
structure Kd where
 (k:Nat) (n:List UInt8) (v:Int)
def At (T:Nat→Tk) (i:Nat) (ks:List Kd):Prop:=∀j x,ks[j]? =some x→(T (i+j)).k=x.k∧(T (i+j)).n=x.n∧(T (i+j)).v=x.v
variable {T:Nat→Tk}
theorem At.left {i:Nat} {a b:List Kd} (h:At T i (a++b)):At T i a:=fun j x hx=>h j x (by rw[List.getElem?_append_left (List.getElem?_eq_some_iff.1 hx).1];exact hx)
theorem At.right {i:Nat} {a b:List Kd} (h:At T i (a++b)):At T (i+a.length) b:=fun j x hx=>by
 have:=h (a.length+j) x (by rw[List.getElem?_append_right (by omega),Nat.add_sub_cancel_left];exact hx);rw[Nat.add_assoc];exact this
theorem At.head {i:Nat} {x:Kd} {l:List Kd} (h:At T i (x::l)):(T i).k=x.k∧(T i).n=x.n∧(T i).v=x.v:=h 0 x rfl
theorem At.tail {i:Nat} {x:Kd} {l:List Kd} (h:At T i (x::l)):At T (i+1) l:=At.right (a:=[x]) h
def kT (k:Nat):Kd:=⟨k,if 14≤k then zG k else [],0⟩
def Wm (o:Po):List Kd:=
 if o.k=1 then [⟨1,[],o.v⟩]else if o.k=2 then [⟨2,o.n,0⟩]else if o.k=4 then [kT 48,⟨wk [yW o.v],[yW o.v],0⟩]else if o.k=5 then [kT 49,⟨wk [yW o.v],[yW o.v],0⟩]
 else if o.k=6 then [kT (28+o.v.toNat)]else [kT (30+o.v.toNat)]
def xN (b:Bool) (l:List Kd):List Kd:=if b=true then [kT 5]++l++[kT 6]else l
def _root_.Go.Proofs.YtbkajklninmhiaaGreatDoor.Syn.Tr.tk:Tr→List Kd
 |.leaf o=>Wm o
 |.pre o a=>kT (if o.k=7 then 10 else 47)::xN (decide (a.str<6)) a.tk
 |.bin o a b=>xN (decide (a.str<lL (z9 o.v))) a.tk++kT (8+o.v.toNat)::xN (decide (b.str<z9 o.v+1)) b.tk
 |.two o a b=>kT (25+o.v.toNat)::kT 5::(a.tk++kT 4::(b.tk++[kT 6]))
 |.three o a b c=>kT (25+o.v.toNat)::kT 5::(a.tk++kT 4::(b.tk++kT 4::(c.tk++[kT 6])))
def _root_.Go.Proofs.YtbkajklninmhiaaGreatDoor.Syn.Tr.good:Tr→Prop
 |.leaf o=>opB o=true∧o.k≤6
 |.pre o a=>opB o=true∧(o.k=7∨o.k=8)∧a.good
 |.bin o a b=>opB o=true∧o.k=9∧a.good∧b.good
 |.two o a b=>opB o=true∧o.k=10∧o.v≠2∧a.good∧b.good
 |.three o a b c=>opB o=true∧o.k=10∧o.v=2∧a.good∧b.good∧c.good
def _root_.Go.Proofs.YtbkajklninmhiaaGreatDoor.Syn.Tr.num (t:Tr):Nat:=t.pf.length
def nx (T:Nat→Tk) (j:Nat):Int:=if isB (T j).k=true then z9 (((T j).k:Int) -8)else 0
theorem VE (v:Int):1≤z9 v∧z9 v≤5:=by
 unfold z9
 repeat' split
 all_goals omega
theorem atB_lt {s j:Nat} (h:nx T j<s):atB T s j=false:=by
 unfold atB;unfold nx at h
 cases hb:isB (T j).k with
 |false=>rfl
 |true=>
  rw[if_pos hb]at h;simp only[Bool.true_and,decide_eq_false_iff_not];omega
theorem xd (hT:∀i,(T i).k<50) (i:Nat):adv T i=.ok (i+1):=by
 unfold adv;have:=hT (i+1);rw[if_neg (by omega),if_neg (by omega)]
theorem yG (hT:∀i,(T i).k<50) {k i:Nat} (h:(T i).k=k):exp T k i=.ok (i+1):=by unfold exp;rw[if_pos h,xd hT]
theorem Zn {i o:Nat} (h:o<2000):cnt T i o=.ok (o+1):=by unfold cnt;rw[if_neg (by omega)]
theorem WK {i d:Nat} (h:d<64):Yn T i d=.ok ():=by unfold Yn;rw[if_neg (by omega)]
theorem xx {o:Po} (h:opB o=true):1≤o.k∧o.k≤10∧0≤o.v∧o.v≤yr o.k∧(o.k=2→yj o.n=true)∧(o.k≠2→o.n=[]):=by
 unfold opB at h;simp only[Bool.and_eq_true,decide_eq_true_eq]at h;refine⟨h.1.1.1.1,h.1.1.1.2,h.1.1.2,h.1.2,fun e=>?_,fun e=>?_⟩
 ·have:=h.2;rw[if_pos e]at this;exact this
 ·have:=h.2;rw[if_neg e]at this;simpa using this
theorem Yx {v:Int} (h0:0≤v) (h1:v≤15):(yW v).toNat=97+v.toNat:=by
 unfold yW;rw[UInt8.toNat_ofNat'];omega
theorem Wz (hT:∀i,(T i).k<50) {i:Nat} {v:Int} (h0:0≤v) (h1:v≤15) (h:(T i).n=[yW v]):Yw T i=.ok (v,i+1):=by
 have ht:=Yx h0 h1;unfold Yw;rw[if_pos (by unfold U9;rw[h];simp[ht];omega),xd hT,zj,h];simp only[List.getD_cons_zero,ht]
 congr 2
 omega
theorem Qh (hT:∀i,(T i).k<50) {o:Po} (ho:opB o=true) (hk:o.k≤6) {i c d:Nat} (h:At T i (Wm o)) (hc:c<2000):un T 2 i c d=.ok (.leaf o,i+(Wm o).length,c+1):=by
 obtain⟨h1,h2,h3,h4,h5,h6⟩:=xx ho;obtain⟨ok,ov,on⟩:=o;simp only at*;unfold Wm at h ⊢;simp only at h ⊢;rw[un,pr];rcases(show ok=1∨ok=2∨ok=3∨ok=4∨ok=5∨ok=6 by omega)with rfl|rfl|rfl|rfl|rfl|rfl
 ·simp only[if_true]at h ⊢
  obtain⟨e1,e2,e3⟩:=h.head;simp only at e1 e2 e3;rw[if_neg (by omega),if_neg (by omega),if_neg (by omega),if_neg (by omega)];have:wop (T i)=some ⟨1,ov,[]⟩:=by unfold wop;rw[if_pos e1,e3]
  rw[this,h6 (by decide)];simp only;rw[Zn hc,zj,xd hT,zj];rfl
 ·simp only[show ¬((2:Int)=1) by decide,if_false,if_true]at h ⊢
  obtain⟨e1,e2,e3⟩:=h.head;simp only at e1 e2 e3;rw[if_neg (by omega),if_neg (by omega),if_neg (by omega),if_neg (by omega)];have hv:ov=0:=by simp[yr]at h4;omega
  have:wop (T i)=some ⟨2,0,on⟩:=by unfold wop;rw[if_neg (by omega),if_pos e1,e2]
  rw[this,hv];simp only;rw[Zn hc,zj,xd hT,zj];rfl
 ·have hv:ov≤12:=by simpa[yr]using h4
  simp only[show ¬((3:Int)=1) by decide,show ¬((3:Int)=2) by decide,show ¬((3:Int)=4) by decide,show ¬((3:Int)=5) by decide,show ¬((3:Int)=6) by decide,if_false]at h ⊢;obtain⟨e1,e2,e3⟩:=h.head;simp only[kT]at e1 e2 e3;rw[if_neg (by omega),if_neg (by omega),if_neg (by omega),if_neg (by omega)]
  have:wop (T i)=some ⟨3,ov,[]⟩:=by
   unfold wop;rw[if_neg (by omega),if_neg (by omega),if_neg (by omega),if_pos (by omega),e1]
   congr 2
   omega
  rw[this,h6 (by decide)];simp only;rw[Zn hc,zj,xd hT,zj];rfl
 ·have hv:ov≤15:=by simpa[yr]using h4
  simp only[show ¬((4:Int)=1) by decide,show ¬((4:Int)=2) by decide,if_false,if_true]at h ⊢;obtain⟨e1,e2,e3⟩:=h.head;obtain⟨g1,g2,g3⟩:=h.tail.head;simp only[kT]at e1 g2;rw[if_neg (by omega),if_neg (by omega),if_neg (by omega),if_pos (by omega),Zn hc,zj,xd hT,zj,Wz hT h3 hv g2,zj,h6 (by decide),e1];rfl
 ·have hv:ov≤15:=by simpa[yr]using h4
  simp only[show ¬((5:Int)=1) by decide,show ¬((5:Int)=2) by decide,show ¬((5:Int)=4) by decide,if_false,if_true]at h ⊢;obtain⟨e1,e2,e3⟩:=h.head;obtain⟨g1,g2,g3⟩:=h.tail.head;simp only[kT]at e1 g2;rw[if_neg (by omega),if_neg (by omega),if_neg (by omega),if_pos (by omega),Zn hc,zj,xd hT,zj,Wz hT h3 hv g2,zj,h6 (by decide),e1];rfl
 ·have hv:ov≤1:=by simpa[yr]using h4
  simp only[show ¬((6:Int)=1) by decide,show ¬((6:Int)=2) by decide,show ¬((6:Int)=4) by decide,show ¬((6:Int)=5) by decide,if_false,if_true]at h ⊢;obtain⟨e1,e2,e3⟩:=h.head;simp only[kT]at e1 e2 e3;rw[if_neg (by omega),if_neg (by omega),if_neg (by omega),if_neg (by omega)]
  have:wop (T i)=some ⟨6,ov,[]⟩:=by
   unfold wop;rw[if_neg (by omega),if_neg (by omega),if_pos (by omega),e1]
   congr 2
   omega
  rw[this,h6 (by decide)];simp only;rw[Zn hc,zj,xd hT,zj];rfl
end Go.Proofs.YtbkajklninmhiaaGreatDoor.Par
