import Derived.Test.YtbkajklninmhiaaGreatDoorPm36
import Derived.Defers
import Derived.Recover
set_option maxHeartbeats 3200000
set_option maxRecDepth 1000000
set_option linter.unusedVariables false
set_option linter.unusedSimpArgs false
open List renaming setIfInBounds_toArray → qa
open Nat renaming le_refl → qp
namespace Go.Proofs.YtbkajklninmhiaaGreatDoor.Par
open Go Syn
variable {T:Nat→Tk}
structure Rz (T:Nat→Tk) (t:Tr):Prop where
 u:6≤t.str→∀(i o d:Nat),At T i t.tk→o+t.num≤2000→(d:Int)+t.nst≤64→∃f,un T f i o d=.ok (t,i+t.tk.length,o+t.num)
 e:∀(s i o d:Nat) (r:Tr×Nat×Nat),1≤s→s≤5→(s:Int)≤t.str→At T i t.tk→o+t.num≤2000→(d:Int)+t.nst≤64→nx T (i+t.tk.length)≤s→(t.str=3→s=3→nx T (i+t.tk.length)≠3)→(∃f,lp T f s t (i+t.tk.length) (o+t.num) d=.ok r)→∃f,ex T f s i o d=.ok r
theorem Rt (t:Tr):1≤t.str:=by
 unfold Tr.str yS;have:=VE t.op.v
 repeat' split
 all_goals omega
theorem yT:∀t:Tr,0≤t.nst
 |.leaf _=>by simp[Tr.nst]
 |.pre _ a=>by have:=yT a;simp only[Tr.nst,opn];split<;>omega
 |.bin _ a b=>by have:=yT a;have:=yT b;simp only[Tr.nst,opn];split<;>split<;>omega
 |.two _ a b=>by have:=yT a;have:=yT b;simp only[Tr.nst];omega
 |.three _ a b c=>by have:=yT a;have:=yT b;have:=yT c;simp only[Tr.nst];omega
theorem YF {s j c d:Nat} {t:Tr} (h:nx T j<s):lp T 1 s t j c d=.ok (t,j,c):=by rw[lp,atB_lt h];rfl
theorem WS {s i o d j c:Nat} {t:Tr} {r:Tr×Nat×Nat} (hs:s≠6) (h:∃f,ex T f (s+1) i o d=.ok (t,j,c)) (hl:∃f,lp T f s t j c d=.ok r):∃f,ex T f s i o d=.ok r:=by
 obtain⟨f1,h1⟩:=h;obtain⟨f2,h2⟩:=hl;refine⟨max f1 f2+1,?_⟩;rw[ex,if_neg hs,YI (Nat.le_max_left _ _) h1,zj];exact UO (Nat.le_max_right _ _) h2
theorem Pj {i o d j c:Nat} {t:Tr} (hu:∃f,un T f i o d=.ok (t,j,c)):∀(n s:Nat),s+n=5→1≤s→nx T j≤s→∀r,(∃f,lp T f s t j c d=.ok r)→∃f,ex T f s i o d=.ok r
 |0,s,hs,h1,hn,r,hl=>by
  obtain rfl:s=5:=by omega
  refine WS (by omega) ?_ hl;obtain⟨f,hf⟩:=hu;exact⟨f+1,by rw[ex,if_pos rfl];exact hf⟩
 |n+1,s,hs,h1,hn,r,hl=>WS (by omega) (Pj hu n (s+1) (by omega) (by omega) (by omega) _ ⟨1,YF (by omega)⟩) hl
theorem SX {i o d j c s:Nat} {t:Tr} (hu:∃f,un T f i o d=.ok (t,j,c)) (h1:1≤s) (h5:s≤5) (hn:nx T j≤s) {r:Tr×Nat×Nat} (hl:∃f,lp T f s t j c d=.ok r):∃f,ex T f s i o d=.ok r:=Pj hu (5-s) s (by omega) h1 hn r hl
theorem Rz.full {t:Tr} (h:Rz T t) {i o d:Nat} (ha:At T i t.tk) (hc:o+t.num≤2000) (hd:(d:Int)+t.nst≤64) (hn:nx T (i+t.tk.length)=0):∃f,ex T f 1 i o d=.ok (t,i+t.tk.length,o+t.num):=
 h.e 1 i o d _ (by omega) (by omega) (Rt t) ha hc hd (by omega) (by omega) ⟨1,YF (by omega)⟩
theorem Ze {j k:Nat} (h:(T j).k=k) (hk:k<8∨15<k):nx T j=0:=by
 unfold nx;rw[if_neg];rw[h];unfold isB;simp only[Bool.and_eq_true,decide_eq_true_eq];omega
theorem og_one (hT:∀i,(T i).k<50) {t:Tr} (h:Rz T t) {i o d:Nat} (ha:At T i (kT 5::(t.tk++[kT 6]))) (hc:o+t.num≤2000) (hd:(d:Int)+t.nst+1≤64):∃f,og T f 1 i o d=.ok ([t],i+t.tk.length+2,o+t.num):=by
 have hp:=yT t;have e5:(T i).k=5:=ha.head.1;have at1:=ha.tail.left;have e6:(T (i+1+t.tk.length)).k=6:=ha.tail.right.head.1;obtain⟨f,hf⟩:=h.full (d:=d+1) at1 hc (by omega) (Ze e6 (by omega));refine⟨f+1+1,?_⟩;rw[og,if_pos e5,WK (by omega),zj,xd hT,zj,YI (Nat.le_succ f) hf,zj];dsimp only;rw[ol,zj];dsimp only;rw[yG hT e6,zj]
 congr 3
 omega
theorem Sf (hT:∀i,(T i).k<50) {t:Tr} (h:Rz T t) {i o d:Nat} (ha:At T i (xN true t.tk)) (hc:o+t.num≤2000) (hd:(d:Int)+t.nst+1≤64):∃f,un T f i o d=.ok (t,i+(xN true t.tk).length,o+t.num):=by
 have ha':At T i (kT 5::(t.tk++[kT 6])):=by simpa[xN]using ha
 have e5:=ha'.head.1;obtain⟨f,hf⟩:=og_one hT h ha' hc hd;refine⟨f+1+1,?_⟩;simp only[kT]at e5;rw[un,if_neg (by omega),pr,if_pos e5,hf,zj];have hl:(xN true t.tk).length=t.tk.length+2:=by simp[xN]
 rw[hl];rfl
theorem Sj (hT:∀i,(T i).k<50) {t:Tr} (h:Rz T t) {i o d:Nat} {l:Int} (hl:6≤l) (ha:At T i (xN (decide (t.str<l)) t.tk)) (hc:o+t.num≤2000) (hd:(d:Int)+opn t.nst t.str l≤64):∃f,un T f i o d=.ok (t,i+(xN (decide (t.str<l)) t.tk).length,o+t.num):=by
 unfold opn at hd;by_cases hb:t.str<l
 ·rw[if_pos hb]at hd
  rw[decide_eq_true hb]at ha ⊢;exact Sf hT h ha hc (by omega)
 ·rw[if_neg hb]at hd
  rw[decide_eq_false hb]at ha ⊢;exact h.u (by omega) i o d ha hc hd
theorem Sk (hT:∀i,(T i).k<50) {t:Tr} (h:Rz T t) {i o d s:Nat} {l:Int} {r:Tr×Nat×Nat} (h1:1≤s) (h5:s≤5) (hl:(s:Int)≤l) (ha:At T i (xN (decide (t.str<l)) t.tk)) (hc:o+t.num≤2000) (hd:(d:Int)+opn t.nst t.str l≤64) (hn:nx T (i+(xN (decide (t.str<l)) t.tk).length)≤s) (h3:¬t.str<l→t.str=3→s=3→nx T (i+(xN (decide (t.str<l)) t.tk).length)≠3) (hr:∃f,lp T f s t (i+(xN (decide (t.str<l)) t.tk).length) (o+t.num) d=.ok r):∃f,ex T f s i o d=.ok r:=by
 unfold opn at hd;by_cases hb:t.str<l
 ·rw[if_pos hb]at hd
  rw[decide_eq_true hb]at ha hn hr;exact SX (Sf hT h ha hc (by omega)) h1 h5 hn hr
 ·rw[if_neg hb]at hd
  have h3':=h3 hb;rw[decide_eq_false hb]at ha hn hr h3';exact h.e s i o d r h1 h5 (by omega) ha hc hd hn h3' hr
theorem Rz.high {t:Tr} (h6:6≤t.str) (hu:∀(i o d:Nat),At T i t.tk→o+t.num≤2000→(d:Int)+t.nst≤64→∃f,un T f i o d=.ok (t,i+t.tk.length,o+t.num)):Rz T t:=
 ⟨fun _=>hu,fun s i o d r h1 h5 _ ha hc hd hn _ hl=>SX (hu i o d ha hc hd) h1 h5 hn hl⟩
theorem RK (hT:∀i,(T i).k<50) (o:Po) (h:opB o=true∧o.k≤6):Rz T (.leaf o):=by
 refine Rz.high ?_ fun i c d ha hc hd=>⟨2,Qh hT h.1 h.2 ha (by simp[Tr.num,Tr.pf]at hc;omega)⟩
 show 6≤yS o;unfold yS;rw[if_neg (by omega),if_neg (by omega)]
 decide
theorem UJ {o:Po} (h:opB o=true) (hk:o.k≠2):o=⟨o.k,o.v,[]⟩:=by
 have:=(xx h).2.2.2.2.2 hk
 cases o
 simp_all
theorem pz_pre (hT:∀i,(T i).k<50) (o:Po) (a:Tr) (h:opB o=true∧(o.k=7∨o.k=8)) (ih:Rz T a):Rz T (.pre o a):=by
 obtain⟨ho,hk⟩:=h;obtain⟨-,-,h3,h4,-,-⟩:=xx ho;have hv:o.v=0:=by rcases hk with e|e<;>(rw[e]at h4;simp[yr]at h4;omega)
 have ho':=UJ ho (by omega);refine Rz.high ?_ fun i c d ha hc hd=>?_
 ·show 6≤yS o
  unfold yS;rw[if_neg (by omega),if_pos hk]
  decide
 have hnum:(Tr.pre o a).num=a.num+1:=by simp[Tr.num,Tr.pf]
 rw[hnum]at hc ⊢;have hp:=yT a;simp only[Tr.nst]at hd;have hop:0≤opn a.nst a.str 6:=by unfold opn;split<;>omega
 have e1:=ha.head.1;have at1:=ha.tail;obtain⟨f,hf⟩:=Sj (d:=d+1) (o:=c+1) hT ih (Int.le_refl 6) at1 (by omega) (by omega)
 have hk1:(T i).k=10∨(T i).k=47:=by
  rw[e1];simp only[kT]
  split<;>simp
 refine⟨f+1,?_⟩;rw[un,if_pos hk1,Zn (by omega),zj,WK (by omega),zj,xd hT,zj,hf,zj]
 have hun:U8 (T i).k=o:=by
  rw[e1,ho',hv];simp only[kT];rcases hk with e|e
  ·rw[if_pos e,e];rfl
  ·rw[if_neg (by omega),e];rfl
 dsimp only;rw[hun];have hl:(Tr.pre o a).tk.length=1+(xN (decide (a.str<6)) a.tk).length:=by simp[Tr.tk];omega
 rw[hl]
 congr 3
 ·omega
 ·omega
theorem call_k (hT:∀i,(T i).k<50) {o:Po} (h:opB o=true) (hk:o.k=10):0≤o.v∧o.v≤2:=by
 obtain⟨-,-,h3,h4,-,-⟩:=xx h;rw[hk]at h4;simp[yr]at h4;omega
theorem pz_two (hT:∀i,(T i).k<50) (o:Po) (a b:Tr) (h:opB o=true∧o.k=10∧o.v≠2) (ia:Rz T a) (ib:Rz T b):Rz T (.two o a b):=by
 obtain⟨ho,hk,hv⟩:=h;have hvv:=call_k hT ho hk;have ho':=UJ ho (by omega);refine Rz.high ?_ fun i c d ha hc hd=>?_
 ·show 6≤yS o
  unfold yS;rw[if_neg (by omega),if_neg (by omega)]
  decide
 have hnum:(Tr.two o a b).num=a.num+b.num+1:=by simp[Tr.num,Tr.pf];omega
 rw[hnum]at hc ⊢;have hpa:=yT a;have hpb:=yT b;simp only[Tr.nst]at hd;have e1:=ha.head.1;have e5:=ha.tail.head.1;have ata:=ha.tail.tail.left;have e4:(T (i+1+1+a.tk.length)).k=4:=ha.tail.tail.right.head.1;have atb:=ha.tail.tail.right.tail.left;have e6:(T (i+1+1+a.tk.length+1+b.tk.length)).k=6:=ha.tail.tail.right.tail.right.head.1;simp only[kT]at e1 e5;obtain⟨f1,hf1⟩:=ia.full (d:=d+1) (o:=c+1) ata (by omega) (by omega) (Ze e4 (by omega));obtain⟨f2,hf2⟩:=ib.full (d:=d+1) (o:=c+1+a.num) atb (by omega) (by omega) (Ze e6 (by omega));refine⟨max f1 f2+1+1+1+1+1,?_⟩
 rw[un,if_neg (by omega),pr,if_neg (by omega),if_pos (by omega),Zn (by omega),zj,xd hT,zj,if_neg (by omega),og,if_pos e5,WK (by omega),zj,xd hT,zj,YI (by omega) hf1,zj];dsimp only;rw[ol,yG hT e4,zj,YI (by omega) hf2,zj];dsimp only;rw[ol,zj];dsimp only;rw[yG hT e6,zj,zj];dsimp only
 have hcall:Zh ((T i).k-25) ([a]++[b])=.two o a b:=by
  rw[e1];show Tr.two ⟨10,((25+o.v.toNat-25:Nat):Int),[]⟩ a b=_
  congr 1
  rw[ho',hk];simp only
  congr 1
  omega
 rw[hcall];have hl:(Tr.two o a b).tk.length=a.tk.length+b.tk.length+4:=by simp[Tr.tk];omega
 rw[hl]
 congr 3
 ·omega
 ·omega
theorem T6 (hT:∀i,(T i).k<50) (o:Po) (a b e:Tr) (h:opB o=true∧o.k=10∧o.v=2) (ia:Rz T a) (ib:Rz T b) (ie:Rz T e):Rz T (.three o a b e):=by
 obtain⟨ho,hk,hv⟩:=h;have ho':=UJ ho (by omega);refine Rz.high ?_ fun i c d ha hc hd=>?_
 ·show 6≤yS o
  unfold yS;rw[if_neg (by omega),if_neg (by omega)]
  decide
 have hnum:(Tr.three o a b e).num=a.num+b.num+e.num+1:=by simp[Tr.num,Tr.pf];omega
 rw[hnum]at hc ⊢;have hpa:=yT a;have hpb:=yT b;have hpe:=yT e;simp only[Tr.nst]at hd;have e1:=ha.head.1;have e5:=ha.tail.head.1;have ata:=ha.tail.tail.left;have e4:(T (i+1+1+a.tk.length)).k=4:=ha.tail.tail.right.head.1;have atb:=ha.tail.tail.right.tail.left;have e4':(T (i+1+1+a.tk.length+1+b.tk.length)).k=4:=ha.tail.tail.right.tail.right.head.1;have ate:=ha.tail.tail.right.tail.right.tail.left;have e6:(T (i+1+1+a.tk.length+1+b.tk.length+1+e.tk.length)).k=6:=ha.tail.tail.right.tail.right.tail.right.head.1;simp only[kT]at e1 e5;obtain⟨f1,hf1⟩:=ia.full (d:=d+1) (o:=c+1) ata (by omega) (by omega) (Ze e4 (by omega));obtain⟨f2,hf2⟩:=ib.full (d:=d+1) (o:=c+1+a.num) atb (by omega) (by omega) (Ze e4' (by omega))
 obtain⟨f3,hf3⟩:=ie.full (d:=d+1) (o:=c+1+a.num+b.num) ate (by omega) (by omega) (Ze e6 (by omega));refine⟨f1+f2+f3+1+1+1+1+1+1,?_⟩;rw[un,if_neg (by omega),pr,if_neg (by omega),if_pos (by omega),Zn (by omega),zj,xd hT,zj,if_pos (by omega),og,if_pos e5,WK (by omega),zj,xd hT,zj,YI (by omega) hf1,zj];dsimp only;rw[ol,yG hT e4,zj,YI (by omega) hf2,zj];dsimp only;rw[ol,yG hT e4',zj,YI (by omega) hf3,zj];dsimp only;rw[ol,zj];dsimp only;rw[yG hT e6,zj,zj];dsimp only
 have hcall:Zh ((T i).k-25) ([a]++[b]++[e])=.three o a b e:=by
  rw[e1];show Tr.three ⟨10,((25+o.v.toNat-25:Nat):Int),[]⟩ a b e=_
  congr 1
  rw[ho',hk];simp only
  congr 1
  omega
 rw[hcall];have hl:(Tr.three o a b e).tk.length=a.tk.length+b.tk.length+e.tk.length+5:=by simp[Tr.tk];omega
 rw[hl]
 congr 3
 ·omega
 ·omega
end Go.Proofs.YtbkajklninmhiaaGreatDoor.Par
namespace Go.Proofs.YtbkajklninmhiaaGreatDoor.Par
open Go Syn
variable {T:Nat→Tk}
theorem UW {S i o d j c:Nat} {t:Tr} (hS:S≤5) (hu:∀r,nx T j≤S→(S=3→nx T j≠3)→(∃f,lp T f S t j c d=.ok r)→∃f,ex T f S i o d=.ok r):∀(n s:Nat),s+n=S→1≤s→nx T j≤s→(S=3→s=3→nx T j≠3)→∀r,(∃f,lp T f s t j c d=.ok r)→∃f,ex T f s i o d=.ok r
 |0,s,hs,h1,hn,h3,r,hl=>by
  obtain rfl:s=S:=by omega
  exact hu r hn (fun e=>h3 e e) hl
 |n+1,s,hs,h1,hn,h3,r,hl=>WS (by omega) (UW hS hu n (s+1) (by omega) (by omega) (by omega) (by omega) _ ⟨1,YF (by omega)⟩) hl
theorem Pl {o:Po} (h:opB o=true) (hk:o.k=9):0≤o.v∧o.v≤7:=by
 obtain⟨-,-,h3,h4,-,-⟩:=xx h;rw[hk]at h4;simp[yr]at h4;omega
theorem TY (hT:∀i,(T i).k<50) {b:Tr} (ib:Rz T b) {S i o d:Nat} (h1:1≤S) (h5:S≤5) (ha:At T i (xN (decide (b.str<(S:Int)+1)) b.tk)) (hc:o+b.num≤2000) (hd:(d:Int)+opn b.nst b.str ((S:Int)+1)≤64) (hn:nx T (i+(xN (decide (b.str<(S:Int)+1)) b.tk).length)≤S):∃f,ex T f (S+1) i o d=.ok (b,i+(xN (decide (b.str<(S:Int)+1)) b.tk).length,o+b.num):=by
 by_cases h6:S=5
 ·subst h6
  obtain⟨f,hf⟩:=Sj hT ib (l:=((5:Nat):Int)+1) (by omega) ha hc hd;exact⟨f+1,by rw[ex,if_pos rfl];exact hf⟩
 ·exact Sk hT ib (by omega) (by omega) (by omega) ha hc hd (by omega) (by omega) ⟨1,YF (by omega)⟩
theorem pz_bin (hT:∀i,(T i).k<50) (o:Po) (a b:Tr) (h:opB o=true∧o.k=9) (ia:Rz T a) (ib:Rz T b):Rz T (.bin o a b):=by
 obtain⟨ho,hk⟩:=h;have hvv:=Pl ho hk;have ho':=UJ ho (by omega)
 have hstr:(Tr.bin o a b).str=z9 o.v:=by
  show yS o=_;unfold yS;rw[if_pos hk]
 have hbs:=VE o.v;refine⟨fun h6=>by omega,?_⟩;intro s i c d r h1 h5 hs ha hc hd hn h3 hl;obtain⟨S,hS⟩:∃S:Nat,(S:Int)=z9 o.v:=⟨(z9 o.v).toNat,by omega⟩;rw[hstr,←hS]at hs h3;have hnum:(Tr.bin o a b).num=a.num+b.num+1:=by simp[Tr.num,Tr.pf];omega
 have htk:(Tr.bin o a b).tk=xN (decide (a.str<lL S)) a.tk++kT (8+o.v.toNat)::xN (decide (b.str<(S:Int)+1)) b.tk:=by rw[Tr.tk,hS]
 have hnst:(Tr.bin o a b).nst=max (opn a.nst a.str (lL S)) (opn b.nst b.str ((S:Int)+1)):=by rw[Tr.nst,hS]
 have hlen:(Tr.bin o a b).tk.length=(xN (decide (a.str<lL S)) a.tk).length+1+(xN (decide (b.str<(S:Int)+1)) b.tk).length:=by rw[htk];simp;omega
 rw[hnum]at hc hl;rw[hnst]at hd;rw[hlen]at hn h3 hl;rw[htk]at ha;have ata:=ha.left;have eop:=ha.right.head.1;have atb:=ha.right.tail;generalize hA:(xN (decide (a.str<lL S)) a.tk).length=A at*;generalize hB:(xN (decide (b.str<(S:Int)+1)) b.tk).length=B at*;simp only[kT]at eop;have hisB:isB (T (i+A)).k=true:=by unfold isB;rw[eop];simp only[Bool.and_eq_true,decide_eq_true_eq];omega
 have hbo:(((T (i+A)).k:Int)) -8=o.v:=by rw[eop];omega
 have hnx:nx T (i+A)=S:=by unfold nx;rw[if_pos hisB,hbo,hS]
 have hat:atB T S (i+A)=true:=by unfold atB;rw[hisB,hbo,hS];simp
 have hbin:Tr.bin (bo (T (i+A)).k) a b=Tr.bin o a b:=by
  unfold bo;rw[hbo]
  conv=>rhs;rw[ho',hk]
 have hj:i+(A+1+B)=i+A+1+B:=by omega
 have hcc:c+(a.num+b.num+1)=c+a.num+1+b.num:=by omega
 rw[hj]at hn h3 hl;rw[hcc]at hl;refine UW (S:=S) (t:=Tr.bin o a b) (j:=i+A+1+B) (c:=c+a.num+1+b.num) (by omega) ?_ (S-s) s (by omega) h1 hn (by omega) r hl;intro r hn h3 hl;refine Sk hT ia (s:=S) (l:=lL S) (by omega) (by omega) (by unfold lL;split<;>omega) ata (by omega) (by omega) (by rw[hA,hnx];exact Int.le_refl _) ?_ ?_
 ·intro hl' h3' hS3
  exfalso;unfold lL at hl';rw[if_pos (by omega)]at hl';omega
 ·rw[hA]
  obtain⟨f1,hf1⟩:=TY hT ib (S:=S) (i:=i+A+1) (o:=c+a.num+1) (d:=d) (by omega) (by omega) atb (by omega) (by omega) (by rw[hB];exact hn);rw[hB]at hf1;obtain⟨f2,hf2⟩:=hl;refine⟨max f1 f2+1,?_⟩;rw[lp,if_pos hat,Zn (by omega),zj,xd hT,zj,YI (Nat.le_max_left _ _) hf1,zj];dsimp only;rw[hbin]
  split
  ·rename_i e3
   have hlt:nx T (i+A+1+B)<S:=by have:=h3 e3;omega
   have h1':=UO (Nat.le_max_left 1 f2) (YF (t:=Tr.bin o a b) (c:=c+a.num+1+b.num) (d:=d) hlt);have h2':=UO (Nat.le_max_right 1 f2) hf2;rw[h1']at h2';exact h2'
  ·exact UO (Nat.le_max_right _ _) hf2
theorem Zw (hT:∀i,(T i).k<50):∀t:Tr,t.good→Rz T t
 |.leaf o,h=>RK hT o h
 |.pre o a,h=>pz_pre hT o a ⟨h.1,h.2.1⟩ (Zw hT a h.2.2)
 |.bin o a b,h=>pz_bin hT o a b ⟨h.1,h.2.1⟩ (Zw hT a h.2.2.1) (Zw hT b h.2.2.2)
 |.two o a b,h=>pz_two hT o a b ⟨h.1,h.2.1,h.2.2.1⟩ (Zw hT a h.2.2.2.1) (Zw hT b h.2.2.2.2)
 |.three o a b c,h=>T6 hT o a b c ⟨h.1,h.2.1,h.2.2.1⟩ (Zw hT a h.2.2.2.1) (Zw hT b h.2.2.2.2.1) (Zw hT c h.2.2.2.2.2)
end Go.Proofs.YtbkajklninmhiaaGreatDoor.Par
namespace Go.Proofs.YtbkajklninmhiaaGreatDoor.Par
open Go Go.RowKit Mem Syn Parse
attribute [local go_sem ↓] Go.wp_at_zero Go.wp_at_succ
theorem as_sf (v:Value) (w:World):(Instr.typeAssert (.iface 42 v) 20 42 true).run Tryz.prog w=.ok (.tuple #[v,.bool true]) w:=by kernel_rfl
theorem as_nil (w:World):(Instr.typeAssert .nilIface 20 42 true).run Tryz.prog w=.ok (.tuple #[.agg #[.int .i64 0,.int .i64 0],.bool false]) w:=by kernel_rfl
theorem catchP (r:Nat) (x:Value) (x1 x2:Value) (cc:Int) (aa:Nat) (older:List PanicEntry) (w:World) (hr:w.heap[r]? =some (.cells #[x,x1,x2] 30)):
  CallsD Tryz.prog 17 #[.pointer (some ⟨r,0,none⟩)] (.panicking ({v:=.iface 42 (.agg #[.int .i64 cc,.int .i64 (aa:Int)]),recovered:=false}::older)) w fun e u' w'=>
   e=.returned (.tuple #[])∧u'=.panicking ({v:=.iface 42 (.agg #[.int .i64 cc,.int .i64 (aa:Int)]),recovered:=true}::older)∧w'.heap[r]? =some (.cells #[.int .i64 cc,.int .i64 (aa:Int),.slice none 0 0] 30)∧w.grownBy w' (some r):=by
 have hlt:=zN hr;have c0:=(zb hr 0).trans rfl;have c1:=(zb hr 1).trans rfl;have c2:=(zb hr 2).trans rfl;have f0:=zc hr 0;have f1:=zc hr 1;have f2:=zc hr 2;have ta:=as_sf (.agg #[.int .i64 cc,.int .i64 (aa:Int)]);refine callsD_of_wpS Tryz.func17 rfl fun c₀ cs hu=>?_
 apply wpS_seq;apply wpS_region;simp[wpOpsS,go_sem,recoverD,hu,Tryz.ntmps17,Exit.thenS,ta];refine wpS_of_wp ?_;simp only[Array.replicate,List.replicate,qa,List.append_toArray];go_wp2_with fail;have A:Below (((w.setCell ⟨r,0,none⟩ (.int .i64 cc)).setCell ⟨r,1,none⟩ (.int .i64 (aa:Int))).setCell ⟨r,2,none⟩ (.slice none 0 0)).heap.size (((w.setCell ⟨r,0,none⟩ (.int .i64 cc)).setCell ⟨r,1,none⟩ (.int .i64 (aa:Int))).setCell ⟨r,2,none⟩ (.slice none 0 0)) ((((w.setCell ⟨r,0,none⟩ (.int .i64 cc)).setCell ⟨r,1,none⟩ (.int .i64 (aa:Int))).setCell ⟨r,2,none⟩ (.slice none 0 0)).alloc (.cells #[.int .i64 cc,.int .i64 (aa:Int)] 42)):=zd (Below.refl _ _) _;refine⟨rfl,_,rfl,_,(by simp[results,Tryz.results17,go_sem];try rfl),rfl,rfl,?_,?_⟩
 ·refine zg ?_ A
  have:=zq (zq (zq hr 0 (.int .i64 cc)) 1 (.int .i64 (aa:Int))) 2 (.slice none 0 0);simpa using this
 ·exact zi (zi (zi (yJ _ _ _ _) (yJ _ _ _ _)) (yJ _ _ _ _)) (zD A)
theorem catchI (r:Nat) (w:World):
  CallsD Tryz.prog 17 #[.pointer (some ⟨r,0,none⟩)] .returning w fun e u' w'=>e=.returned (.tuple #[])∧u'=.returning∧Below w.heap.size w w':=by
 have ta:=as_nil;refine callsD_of_wpS Tryz.func17 rfl fun c₀ cs hu=>?_
 apply wpS_seq;apply wpS_region;simp[wpOpsS,go_sem,recoverD,hu,Tryz.ntmps17,Exit.thenS,ta];refine wpS_of_wp ?_;simp only[Array.replicate,List.replicate,qa,List.append_toArray];go_wp2_with fail;refine⟨rfl,.returning,?_,_,(by simp[results,Tryz.results17,go_sem];try rfl),rfl,rfl,?_⟩
 ·cases c₀
  simp_all
 ·exact zd (Below.refl _ _) _
theorem Its.low {w:World} {s s' e:Nat} {cs:List Value} {L:List Im} (h:Its w s e cs L) (hs:s'≤s):∃e',e'≤e∧Its w s' e' cs L:=by
 induction h with
 |nil=>exact⟨s',hs,.nil⟩
 |snoc e e' cs L im vE vF m h hi hb hm ih=>
  obtain⟨e1,h1,h2⟩:=ih;exact⟨e',qp _,.snoc e1 e' cs L im vE vF m h2 (hi.low h1) hb hm⟩
def XQ (t:List UInt8):Int×Nat×List Im:=if 65536<t.length then (1,0,[])else match ZG (tkT t) (yQ t)with
 |.out=>(0,0,[])
 |.bad c a=>(c,a,[])
 |.ok L=>(0,0,L)
def Ul (t:List UInt8) (w:World) (e:Ending) (w':World):Prop:=∃iv cs s,e=.returned (.agg #[.int .i64 (XQ t).1,.int .i64 ((XQ t).2.1:Int),iv])∧w'.ownsRow w.heap.size 38 7 iv (XQ t).2.2.length cs∧Its w' w.heap.size s cs (XQ t).2.2∧Below w.heap.size w w'
theorem VV (a:Option Addr) (t:List UInt8) (n c:Nat) (w:World) (hn:n=t.length) (ht:Txt w.heap.size w (.slice a n c) t) (tw:Xg w) (tb:ZT w):
  Calls Tryz.prog 8 #[.slice a n c] w fun e w'=>Ul t w e w':=by
 have hmf:∀(fn:Fn) (first cap:Array Value) (w:World),(Instr.makeFunc fn first cap).run Tryz.prog w=.ok (.func fn first cap) w:=fun _ _ _ _=>rfl
 by_cases hbig:65536<n
 ·have k1:(65536:Int)<(n:Int):=by omega
  have hA:Hid (XQ t=(1,0,[])):=by unfold Hid XQ;rw[if_pos (by omega)]
  clear hn ht tw tb hbig
  go_enter_defers Tryz.func8,Tryz.ntmps8
  go_wp2
  have HQ:Hid (Ul t w (.returned (.agg #[.int .i64 1,.int .i64 0,.slice none 0 0])) (w.alloc (.cells #[.int .i64 1,.int .i64 0,.slice none 0 0] 30))):=by
   unfold Hid Ul;rw[hA.out];exact⟨.slice none 0 0,[],_,rfl,World.ownsRow_nil _ _ _ _,.nil,zd (Below.refl _ _) _⟩
  simp[bodyPostD,Leaves,settle,results,Tryz.results8,go_sem];exact HQ.out
 ·have k1:decide ((65536:Int)<(n:Int))=false:=by simp;omega
  obtain⟨W2,hW2⟩:∃W,W=(w.alloc (.cells #[.int .i64 0,.int .i64 0,.slice none 0 0] 30)).alloc (.cells #[.slice a n c,.int .i64 0,.int .i64 0,.int .i64 0,.string ⟨#[]⟩,.int .i64 0,.int .i64 0,.int .i64 0] 50):=⟨_,rfl⟩;have A2:Hid (Below w.heap.size w W2):=by rw[hW2];exact zd (zd (Below.refl _ _) _) _
  have R2:Hid (W2.heap[w.heap.size]? =some (.cells #[.int .i64 0,.int .i64 0,.slice none 0 0] 30)):=by rw[hW2];exact zv (zo _ _) _
  have PX:Hid (Px w.heap.size (w.heap.size+1) a c t ⟨0,⟨0,0,[],0⟩,0,0⟩ W2):=by
   refine⟨by rw[hW2,←hn];exact yb _ _ _,by rw[←hn];exact ht.below A2.out,by omega,tw.below A2.out,tb.below A2.out,lt_of_cell (tw 0 (by omega)),lt_of_cell (tb 0 (by omega)),by omega,Nat.zero_le _⟩
  have CP:=Hm (T7 w.heap.size (w.heap.size+1) a c t W2 PX.out)
  have hA:Hid (XQ t=match ZG (tkT t) (yQ t)with
   |.out=>(0,0,[])
   |.bad c a=>(c,a,[])
   |.ok L=>(0,0,L)):=by unfold Hid XQ;rw[if_neg (by omega)]
  have hs2:w.heap.size+2≤W2.heap.size:=by rw[hW2];simp
  clear hn ht tw tb hbig PX
  go_enter_defers Tryz.func8,Tryz.ntmps8
  go_wp2_with fail;rw[←hW2];clear hW2;refine CP.out.mono ?_;rintro e w3 ⟨p,g⟩;have R3:=Hm (zl R2.out g (by omega));have B3:Hid (Below w.heap.size w w3):=A2.out.trans (Zd g (by omega) (by omega))
  cases hr:ZG (tkT t) (yQ t)with
  |out=>exact absurd hr (Vk t)
  |bad cc aa=>
   rw[hr]at p;have p:e=.panicked (flV cc aa):=p;subst p;rw[hr]at hA;refine leaves_cons (f:=17) (args:=#[.pointer (some ⟨w.heap.size,0,none⟩)]) (by simp) (by simp[go_sem]) ?_;refine(catchP w.heap.size _ _ _ cc aa [] w3 R3.out).mono ?_;rintro e u' w4 ⟨rfl,rfl,hb4,g4⟩;have z0:=(zb hb4 0).trans rfl;have z1:=(zb hb4 1).trans rfl;have z2:=(zb hb4 2).trans rfl
   have HQ:Hid (Ul t w (.returned (.agg #[.int .i64 cc,.int .i64 (aa:Int),.slice none 0 0])) w4):=by
    unfold Hid Ul;rw[hA.out];exact⟨.slice none 0 0,[],_,rfl,World.ownsRow_nil _ _ _ _,.nil,B3.out.trans (Zd g4 (qp _) B3.out.size)⟩
   simp[Leaves,settle,results,Tryz.results8,go_sem,z0,z1,z2];exact HQ.out
  |ok L=>
   rw[hr]at p hA;obtain⟨iv,cs,s,rfl,row,its⟩:=p;obtain⟨ia,ic,rfl,-⟩:=zh row;obtain⟨LN,hLN⟩:∃n,n=L.length:=⟨_,rfl⟩;rw[←hLN]at row ⊢;have z0:=(zb R3.out 0).trans rfl;have z1:=(zb R3.out 1).trans rfl;have z2:=(zb R3.out 2).trans rfl;have q0:=zc R3.out 0;have q1:=zc R3.out 1;have q2:=zc R3.out 2;have HROW:=Hm row;have HITS:=Hm its;have HLN:=Hm hLN;clear row its hLN g;go_wp2;obtain⟨Z,hZ⟩:∃W,W=(((w3.setCell ⟨w.heap.size,0,none⟩ (.int .i64 0)).setCell ⟨w.heap.size,1,none⟩ (.int .i64 0)).setCell ⟨w.heap.size,2,none⟩ (.slice ia LN ic)):=⟨_,rfl⟩
   have RZ:Hid (Z.heap[w.heap.size]? =some (.cells #[.int .i64 0,.int .i64 0,.slice ia LN ic] 30)):=by
    unfold Hid;rw[hZ];have:=zq (zq (zq R3.out 0 (.int .i64 0)) 1 (.int .i64 0)) 2 (.slice ia LN ic);simpa using this
   have oth:∀g o,w.heap.size<g→w3.heap[g]? =some o→Z.heap[g]? =some o:=fun g o hg ho=>by
    rw[hZ,Below.heap_setCell _ _ _ _ (show g≠(⟨w.heap.size,2,none⟩:Addr).block by simp;omega),Below.heap_setCell _ _ _ _ (show g≠(⟨w.heap.size,1,none⟩:Addr).block by simp;omega),Below.heap_setCell _ _ _ _ (show g≠(⟨w.heap.size,0,none⟩:Addr).block by simp;omega)];exact ho
   have BZ:Hid (Below w.heap.size w Z):=by
    unfold Hid;rw[hZ];exact((B3.out.setCell (p:=⟨w.heap.size,0,none⟩) (qp _) _).setCell (p:=⟨w.heap.size,1,none⟩) (qp _) _).setCell (p:=⟨w.heap.size,2,none⟩) (qp _) _
   have ROWZ:Hid (Z.ownsRow w.heap.size 38 7 (.slice ia LN ic) LN cs):=by
    refine⟨HROW.out.1,?_⟩;rcases HROW.out.2 with h0|⟨g,cap,cur,h1,h2,h3,h4⟩
    ·exact Or.inl h0
    ·exact Or.inr ⟨g,cap,cur,h1,by omega,oth g _ (by omega) h3,h4⟩
   obtain⟨e',-,itsZ⟩:=(HITS.out.keep (fun g C fr hg hc=>oth g _ (by omega) hc)).low (show w.heap.size≤W2.heap.size by omega);rw[←hZ];clear hZ z0 z1 z2 q0 q1 q2 oth;refine leaves_cons (f:=17) (args:=#[.pointer (some ⟨w.heap.size,0,none⟩)]) (by simp) (by simp[go_sem]) ?_;refine(catchI w.heap.size Z).mono ?_;rintro e u' w5 ⟨rfl,rfl,hb5⟩;have R5:=zg RZ.out hb5;have z0:=(zb R5 0).trans rfl;have z1:=(zb R5 1).trans rfl;have z2:=(zb R5 2).trans rfl
   have HQ:Hid (Ul t w (.returned (.agg #[.int .i64 0,.int .i64 0,.slice ia LN ic])) w5):=by
    unfold Hid Ul;rw[hA.out];exact⟨.slice ia LN ic,cs,e',rfl,by rw[←HLN.out];exact z7 ROWZ.out hb5,itsZ.keep (XF hb5),zn BZ.out hb5⟩
   simp[Leaves,settle,results,Tryz.results8,go_sem,z0,z1,z2];exact HQ.out
end Go.Proofs.YtbkajklninmhiaaGreatDoor.Par
