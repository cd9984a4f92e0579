import Derived.Test.YtbdldkpifanaiaaDoorCr03
import Derived.Laws.AppendOwnNone
set_option maxHeartbeats 1600000
set_option maxRecDepth 100000
set_option linter.unusedVariables false
set_option linter.unusedSimpArgs false
open Nat renaming le_refl → qn
namespace Go.Proofs.YtbdldkpifanaiaaDoor.Syn
open Go Go.RowKit Mem
attribute [local go_sem ↓] Go.wp_at_zero Go.wp_at_succ
theorem bstrS (v:Int) (w:World):Calls Tryd.prog 98 #[.int .i64 v] w fun e w'=>e=.returned (.int .i64 (yL v))∧w'=w:=by
 have:v=0∨v=1∨v=2∨v=6∨v=7∨(v≠0∧v≠1∧v≠2∧v≠6∧v≠7):=by omega
 rcases this with rfl|rfl|rfl|rfl|rfl|⟨h0,h1,h2,h6,h7⟩
 ·go_enter Tryd.func98,Tryd.ntmps98
  go_wp2;go_ret;exact⟨rfl,rfl⟩
 ·go_enter Tryd.func98,Tryd.ntmps98
  go_wp2;go_ret;exact⟨rfl,rfl⟩
 ·go_enter Tryd.func98,Tryd.ntmps98
  go_wp2;go_ret;exact⟨rfl,rfl⟩
 ·go_enter Tryd.func98,Tryd.ntmps98
  go_wp2;go_ret;exact⟨rfl,rfl⟩
 ·go_enter Tryd.func98,Tryd.ntmps98
  go_wp2;go_ret;exact⟨rfl,rfl⟩
 ·have hv:Hid (yL v=3):=by unfold Hid yL;rw[if_neg h0,if_neg (by omega),if_neg h6,if_neg h7]
  have f0:(v==0)=false:=by simpa using h0
  have f1:(v==1)=false:=by simpa using h1
  have f2:(v==2)=false:=by simpa using h2
  have f6:(v==6)=false:=by simpa using h6
  have f7:(v==7)=false:=by simpa using h7
  go_enter Tryd.func98,Tryd.ntmps98;go_wp2;go_ret;rw[hv.out];exact⟨rfl,rfl⟩
theorem YW (o:Po) (w:World):Calls Tryd.prog 93 #[.agg #[.int .i64 o.k,.int .i64 o.v,.string ⟨o.n.toArray⟩]] w fun e w'=>e=.returned (.int .i64 (xx o))∧Below w.heap.size w w':=by
 obtain⟨k,v,n⟩:=o;simp only;by_cases h9:k=9
 ·subst h9
  have hv:Hid (xx ⟨9,v,n⟩=yL v):=by unfold Hid xx;rw[if_pos rfl]
  go_enter Tryd.func93,Tryd.ntmps93;go_wp2_with (go_at_call 98;refine(bstrS _ _).mono ?_;rintro e w' ⟨rfl,hw⟩;rw[hw];clear hw);go_ret;rw[hv.out];exact⟨rfl,by go_grown⟩
 have f9:(k==9)=false:=by simpa using h9
 by_cases h7:k=7
 ·subst h7
  have hv:Hid (xx ⟨7,v,n⟩=6):=by unfold Hid xx;simp
  go_enter Tryd.func93,Tryd.ntmps93;go_wp2;go_ret;rw[hv.out];exact⟨rfl,by go_grown⟩
 have f7:(k==7)=false:=by simpa using h7
 by_cases h8:k=8
 ·subst h8
  have hv:Hid (xx ⟨8,v,n⟩=6):=by unfold Hid xx;simp
  go_enter Tryd.func93,Tryd.ntmps93;go_wp2;go_ret;rw[hv.out];exact⟨rfl,by go_grown⟩
 have f8:(k==8)=false:=by simpa using h8
 have hv:Hid (xx ⟨k,v,n⟩=7):=by unfold Hid xx;simp[h7,h8,h9]
 go_enter Tryd.func93,Tryd.ntmps93;go_wp2;go_ret;rw[hv.out];exact⟨rfl,by go_grown⟩
def wrp (o:Po) (i:Nat) (s:Int):Bool:=if o.k=7∨o.k=8 then decide (s≤5)else if o.k=9 then (if i=0 then (decide (s<yL o.v)||(s==3&&yL o.v==3))else decide (s≤yL o.v))else false
theorem Vx (o:Po) (i:Nat) (s:Int) (w:World) (hi:i≤100):Calls Tryd.prog 95 #[.agg #[.int .i64 o.k,.int .i64 o.v,.string ⟨o.n.toArray⟩],.int .i64 (i:Int),.int .i64 s] w fun e w'=>e=.returned (.bool (wrp o i s))∧Below w.heap.size w w':=by
 by_cases h7:o.k=7
 ·have hv:Hid (wrp o i s=decide (s≤5)):=by unfold Hid wrp;rw[if_pos (Or.inl h7)]
  rw[h7];go_enter Tryd.func95,Tryd.ntmps95;go_wp2;go_ret;rw[hv.out];exact⟨rfl,by go_grown⟩
 have f7:(o.k==7)=false:=by simpa using h7
 by_cases h8:o.k=8
 ·have hv:Hid (wrp o i s=decide (s≤5)):=by unfold Hid wrp;rw[if_pos (Or.inr h8)]
  rw[h8];clear f7;go_enter Tryd.func95,Tryd.ntmps95;go_wp2;go_ret;rw[hv.out];exact⟨rfl,by go_grown⟩
 have f8:(o.k==8)=false:=by simpa using h8
 by_cases h9:o.k=9
 ·have hp:Hid (xx o=yL o.v):=by unfold Hid xx;rw[if_pos h9]
  have hB:=Hm ((Below.refl w.heap.size w).alloc (qn _) (.cells #[.int .i64 o.k,.int .i64 o.v,.string ⟨o.n.toArray⟩] 97));have f9:(o.k !=9)=false:=by simpa using h9
  have g9:(o.k==9)=true:=by simpa using h9
  have hw0:Hid (wrp o i s=if i=0 then (decide (s<yL o.v)||(s==3&&yL o.v==3))else decide (s≤yL o.v)):=by unfold Hid wrp;rw[if_neg (by omega),if_pos h9]
  obtain⟨t,ht⟩:∃t,t=yL o.v:=⟨_,rfl⟩;rw[←ht]at hp hw0;have SC:Hid (∀W:World,Calls Tryd.prog 93 #[.agg #[.int .i64 o.k,.int .i64 o.v,.string ⟨o.n.toArray⟩]] W fun e w'=>e=.returned (.int .i64 t)∧Below W.heap.size W w'):=fun W=>by have:=YW o W;rw[hp.out]at this;exact this
  clear ht h9 hp;by_cases hi0:i=0
  ·subst hi0
   have hv:Hid (wrp o 0 s=(decide (s<t)||(s==3&&t==3))):=by unfold Hid;rw[hw0.out,if_pos rfl]
   by_cases h1:s<t
   ·go_enter Tryd.func95,Tryd.ntmps95
    go_wp2_with fail;refine(SC.out _).mono ?_;rintro e w1 ⟨rfl,hb⟩;have HB:=Hm (zg hB.out hb);clear hb;go_wp2;go_ret;exact⟨zH (by rw[hv.out];simp[h1]),HB.out⟩
   ·have d1:decide (s<t)=false:=by simpa using h1
    cases h3:(s==3)with
    |true=>
     go_enter Tryd.func95,Tryd.ntmps95;go_wp2_with fail;refine(SC.out _).mono ?_;rintro e w1 ⟨rfl,hb⟩;have HB:=Hm (zg hB.out hb);clear hb;go_wp2;go_ret;exact⟨zH (by rw[hv.out];simp[d1,h3]),HB.out⟩
    |false=>
     go_enter Tryd.func95,Tryd.ntmps95;go_wp2_with fail;refine(SC.out _).mono ?_;rintro e w1 ⟨rfl,hb⟩;have HB:=Hm (zg hB.out hb);clear hb;go_wp2;go_ret;exact⟨zH (by rw[hv.out];simp[d1,h3]),HB.out⟩
  ·have hv:Hid (wrp o i s=decide (s≤t)):=by unfold Hid;rw[hw0.out,if_neg hi0]
   have hi':((i:Int)==0)=false:=by simp;omega
   go_enter Tryd.func95,Tryd.ntmps95;go_wp2_with fail;refine(SC.out _).mono ?_;rintro e w1 ⟨rfl,hb⟩;have HB:=Hm (zg hB.out hb);clear hb;go_wp2;go_ret;rw[hv.out];exact⟨rfl,HB.out⟩
 ·have hv:Hid (wrp o i s=false):=by unfold Hid wrp;rw[if_neg (by omega),if_neg h9]
  have f9:(o.k !=9)=true:=by simpa using h9
  have g9:(o.k==9)=false:=by simpa using h9
  go_enter Tryd.func95,Tryd.ntmps95;go_wp2;go_ret;rw[hv.out];exact⟨rfl,by go_grown⟩
theorem Uo:(Tryd.prog.info? 5).map (fun i=>(i.zero,i.size,i.bytes))=some (some (.int .u8 0),1,1):=by kernel_rfl
theorem infoSl:(Tryd.prog.info? 22).map (fun i=>(i.zero,i.size,i.bytes))=some (some (.slice none 0 0),1,24):=by kernel_rfl
theorem infoVl:(Tryd.prog.info? 126).map (fun i=>(i.zero,i.size,i.bytes))=some (some (.agg #[.int .i64 0,.int .i64 0,.slice none 0 0]),3,40):=by kernel_rfl
theorem VJ {P:Program} (w:World) (t e:TypeId) (g:Nat) (C:Array Value) (fr:Nat×Nat) (n c:Nat) (ht:P.underlying t=some (.slice e)) (he:P.underlying e=some (.int .u8)) (hb:w.heap[g]? =some (.cells C e fr)):
  (convert t t (.slice (some ⟨g,0,none⟩) n c)).run P w=.ok (.slice (some ⟨g,0,none⟩) n c) (w.freeze ⟨g,C.size,none⟩ 1):=by
 have hsh:w.shape? g=some (e,C.size):=by
  unfold World.shape?;rw[hb]
 simp[convert,run_underlying ht,run_underlying he,markStringish,hsh]
theorem Ww {w:World} {g:Nat} {C:Array Value} {e:TypeId} {fr:Nat×Nat} (hb:w.heap[g]? =some (.cells C e fr)) (p:Addr) (n:Nat):∃fr',(w.freeze p n).heap[g]? =some (.cells C e fr'):=by
 unfold World.freeze
 split
 ·exact⟨fr,hb⟩
 ·simp only[Array.getElem?_modify]
  split
  ·rw[hb];exact⟨_,rfl⟩
  ·exact⟨fr,hb⟩
theorem xU (w:World) (p:Addr) (n:Nat):(w.freeze p n).heap.size=w.heap.size:=by
 unfold World.freeze
 split<;>simp
theorem below_freeze {B:Nat} {a w:World} (h:Below B a w) (g k n:Nat) (hg:B≤g):Below B a (w.freeze ⟨g,k,none⟩ n):=by
 have hblk:∀i,i<B→(w.freeze ⟨g,k,none⟩ n).heap[i]? =w.heap[i]?:=fun i hi=>by
  unfold World.freeze
  split
  ·rfl
  ·simp only[Array.getElem?_modify]
   rw[if_neg (by show ¬g=i;omega)]
 have ho:(w.freeze ⟨g,k,none⟩ n).os=w.os∧(w.freeze ⟨g,k,none⟩ n).tape=w.tape∧(w.freeze ⟨g,k,none⟩ n).output=w.output:=by
  unfold World.freeze;split<;>exact⟨rfl,rfl,rfl⟩
 exact⟨ho.1.trans h.os,ho.2.1.trans h.tape,ho.2.2.trans h.output,by rw[xU];exact h.size,fun i hi=>(hblk i hi).trans (h.block i hi)⟩
def RdC (w:World) (a:Option Addr) (xs:List Value):Prop:=(a=none∧xs=[])∨∃g off,a=some ⟨g,off,none⟩∧∀j u,xs[j]? =some u→w.cell? ⟨g,off+j,none⟩=some u
theorem RdC.below {w w':World} {a:Option Addr} {xs:List Value} (h:RdC w a xs) (hb:Below w.heap.size w w'):RdC w' a xs:=by
 rcases h with h|⟨g,off,ha,h⟩
 ·exact Or.inl h
 ·exact Or.inr ⟨g,off,ha,fun j u hu=>zw hb (h j u hu)⟩
theorem catS (a b:Option Addr) (n m c d:Nat) (xs ys:List Value) (w:World) (hn:n=xs.length) (hm:m=ys.length) (ha:RdC w a xs) (hb:RdC w b ys) (h1:∀u∈xs,u.oneCell'=true) (h2:∀u∈ys,u.oneCell'=true) (b1:n≤10000000000) (b2:m≤10000000000) (ha0:a=none→c=0) (hb0:b=none→d=0):
  Calls Tryd.prog 96 #[.slice a n c,.slice b m d] w fun e w'=>∃v,e=.returned v∧w'.ownsRow w.heap.size 5 1 v (n+m) (xs++ys)∧Below w.heap.size w w':=by
 obtain⟨i0,hi,hz0,hz1,hz2⟩:=info_parts Uo;have HA:=Hm ha;have HB:=Hm hb;have HN:=Hm hn;have HM:=Hm hm;clear ha hb hn hm;have hrow:Hid ((w.alloc (.cells #[] 5)).ownsRow w.heap.size 5 1 (.slice (some ⟨w.heap.size,0,none⟩) 0 0) 0 []):=World.ownsRow_made w #[] 0 (qn _) (by unfold maxLen;omega) (by simp);rcases HA.out with⟨rfl,hx⟩|⟨g,off,rfl,hx⟩
 ·obtain rfl:n=0:=by rw[HN.out,hx];rfl
  obtain rfl:=ha0 rfl;subst hx;have B1:Hid (Below w.heap.size w (w.alloc (.cells #[] 5))):=(Below.refl _ _).alloc (qn _) _;rcases HB.out with⟨rfl,hy⟩|⟨g',off',rfl,hy⟩
  ·obtain rfl:m=0:=by rw[HM.out,hy];rfl
   obtain rfl:=hb0 rfl;subst hy;clear hb0 ha0;go_enter Tryd.func96,Tryd.ntmps96;go_wp2_with (at_builtin;refine wpList_append_own_none rfl _ _ 22 rfl w.heap.size 5 i0 1 Tryd.underlying22 hi _ _ _ rfl hrow.out rfl ?_);go_ret;exact⟨_,rfl,hrow.out,B1.out⟩
  ·clear hb0 ha0
   go_enter Tryd.func96,Tryd.ntmps96;go_wp2_with (first|(at_builtin;refine wpList_append_own_none rfl _ _ 22 rfl w.heap.size 5 i0 1 Tryd.underlying22 hi _ _ _ rfl hrow.out rfl ?_)|(at_builtin;refine wpList_append_own _ rfl _ _ 22 rfl w.heap.size 5 i0 (.int .u8 0) 1 1 Tryd.underlying22 hi hz0 hz1 hz2 rfl (by decide) _ _ _ rfl hrow.out ⟨g',off',none⟩ m d ys rfl (by rw[HM.out];simp) (fun j u hu=>by rw[Addr.add_mid];exact zw B1.out (hy j u hu)) h2 (by unfold maxLen;omega) (by omega) B1.out.size ?_));intro v2 w2 hown hgrow _;have O2:=Hm hown;have B2:Hid (Below w.heap.size w w2):=B1.out.grown hgrow B1.out.size (fun j hj=>(hrow.out.lt j hj).1);clear hown hgrow hrow B1;refine Hid.out ?_;refine Lib.hid ?_;go_wp2;go_ret;exact⟨_,rfl,by simpa using O2.out,B2.out⟩
 ·rcases HB.out with⟨rfl,hy⟩|⟨g',off',rfl,hy⟩
  ·obtain rfl:m=0:=by rw[HM.out,hy];rfl
   obtain rfl:=hb0 rfl;clear hb0 ha0;go_enter Tryd.func96,Tryd.ntmps96;go_wp2_with (at_builtin;refine wpList_append_own _ rfl _ _ 22 rfl w.heap.size 5 i0 (.int .u8 0) 1 1 Tryd.underlying22 hi hz0 hz1 hz2 rfl (by decide) _ _ _ rfl hrow.out ⟨g,off,none⟩ n c xs rfl (by rw[HN.out];simp) (fun j u hu=>by rw[Addr.add_mid];exact zw (by go_grown) (hx j u hu)) h1 (by unfold maxLen;omega) (by omega) (by simp) ?_);intro v1 w1 hown hgrow _;have O1:=Hm hown;have B1:Hid (Below w.heap.size w w1):=((Below.refl _ _).alloc (qn _) _).grown hgrow (by simp) (fun j hj=>(hrow.out.lt j hj).1);clear hown hgrow hrow;refine Hid.out ?_;refine Lib.hid ?_;go_wp2_with (at_builtin;refine wpList_append_own_none rfl _ _ 22 rfl w.heap.size 5 i0 1 Tryd.underlying22 hi _ _ _ rfl O1.out rfl ?_);go_ret;exact⟨_,rfl,by simpa[hy]using O1.out,B1.out⟩
  ·clear hb0 ha0
   go_enter Tryd.func96,Tryd.ntmps96;go_wp2_with (at_builtin;refine wpList_append_own _ rfl _ _ 22 rfl w.heap.size 5 i0 (.int .u8 0) 1 1 Tryd.underlying22 hi hz0 hz1 hz2 rfl (by decide) _ _ _ rfl hrow.out ⟨g,off,none⟩ n c xs rfl (by rw[HN.out];simp) (fun j u hu=>by rw[Addr.add_mid];exact zw (by go_grown) (hx j u hu)) h1 (by unfold maxLen;omega) (by omega) (by simp) ?_);intro v1 w1 hown hgrow _;have O1:=Hm hown;have B1:Hid (Below w.heap.size w w1):=((Below.refl _ _).alloc (qn _) _).grown hgrow (by simp) (fun j hj=>(hrow.out.lt j hj).1);clear hown hgrow hrow;refine Hid.out ?_;refine Lib.hid ?_
   go_wp2_with (at_builtin;refine wpList_append_own _ rfl _ _ 22 rfl w.heap.size 5 i0 (.int .u8 0) 1 1 Tryd.underlying22 hi hz0 hz1 hz2 rfl (by decide) _ _ _ rfl O1.out ⟨g',off',none⟩ m d ys rfl (by rw[HM.out];simp) (fun j u hu=>by rw[Addr.add_mid];exact zw B1.out (hy j u hu)) h2 (by unfold maxLen;omega) (by omega) B1.out.size ?_);intro v2 w2 hown hgrow _;have O2:=Hm hown;have B2:Hid (Below w.heap.size w w2):=B1.out.grown hgrow B1.out.size (fun j hj=>(O1.out.lt j hj).1);clear hown hgrow O1 B1;refine Hid.out ?_;refine Lib.hid ?_;go_wp2;go_ret;exact⟨_,rfl,O2.out,B2.out⟩
end Go.Proofs.YtbdldkpifanaiaaDoor.Syn
