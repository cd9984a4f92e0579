import Derived.Test.YtbkajklninmhiaaGreatDoorPm23
set_option maxHeartbeats 6400000
set_option maxRecDepth 1000000
set_option linter.unusedVariables false
set_option linter.unusedSimpArgs false
open List renaming setIfInBounds_toArray → qa, set_cons_zero → qb, length_append → qg, append_assoc → ql, getElem?_cons_zero → qn
open Nat renaming le_refl → qp
namespace Go.Proofs.YtbkajklninmhiaaGreatDoor.Dq
open Go Go.RowKit Mem Syn Parse Par Draw
attribute [local go_sem ↓] Go.wp_at_zero Go.wp_at_succ
variable {B g:Nat} {w0 w w':World} {bs:List UInt8} {D:Sr} {s s':DS}
variable {iv:Value} {X:List Xi}
theorem fillI2 (k k':Int) (n n':ByteArray) (a:Option Addr) (x y:Nat) (a':Option Addr) (x' y':Nat):Instr.fill (fun i=>some (i*7,7)) ((Array.range (2*7)).map ((Value.agg #[.int .i64 0,.string ⟨#[]⟩,.slice none 0 0,.slice none 0 0,.int .i64 0,.int .i64 0,.int .i64 0]).cells[·% (Value.agg #[.int .i64 0,.string ⟨#[]⟩,.slice none 0 0,.slice none 0 0,.int .i64 0,.int .i64 0,.int .i64 0]).cells.size]!)) [(0,.agg [Value.int .i64 k,.string n,.slice a x y,.slice none 0 0,.int .i64 0,.int .i64 0,.int .i64 0].toArray),(1,.agg [Value.int .i64 k',.string n',.slice a' x' y',.slice none 0 0,.int .i64 0,.int .i64 0,.int .i64 0].toArray)]=some [Value.int .i64 k,.string n,.slice a x y,.slice none 0 0,.int .i64 0,.int .i64 0,.int .i64 0,.int .i64 k',.string n',.slice a' x' y',.slice none 0 0,.int .i64 0,.int .i64 0,.int .i64 0].toArray:=by kernel_rfl
theorem PgO.made {B':Nat} (hB:B'≤w.heap.size) (hw:w'=w.alloc (.cells (X.flatMap Xi.cs).toArray 38)) (hlen:(X.flatMap Xi.cs).length=X.length*7) (hX:X.length≤10) (he:∀x∈X,OwnO B' w x.e x.im.E) (hf:∀x∈X,OwnO B' w x.f x.im.F) (hee:∀x∈X,∀y∈X,Ap x.e y.e∧Ap x.e y.f∧Ap x.f y.f) (hle:∀x∈X,x.im.E.length≤3000∧x.im.F.length≤3000):PgO B' w' (.slice (some ⟨w.heap.size,0,none⟩) X.length X.length) X:=by
 have hb:Below w.heap.size w w':=by rw[hw];exact zd (Below.refl _ _) _
 refine⟨⟨hlen,Or.inr ⟨w.heap.size,X.length,(X.flatMap Xi.cs).toArray,rfl,hB,by rw[hw];exact zo _ _,qp _,by unfold maxLen;omega,by simpa using hlen,?_⟩⟩,fun x hx=>(he x hx).below hb,fun x hx=>(hf x hx).below hb,fun x hx y hy=>(hee x hx y hy).1,fun x hx y hy=>(hee x hx y hy).2.1,fun x hx y hy=>(hee x hx y hy).2.2,hle⟩;rw[←hlen];exact List.take_length
theorem RH {W:World} {C':Array Value} (C:Cu B g w W bs D s) (hr:W.heap[w.heap.size]? =some (.cells #[.slice none 0 0] 25)) (P:PgO w.heap.size W iv X):Cu B g w (W.setCell ⟨w.heap.size,0,none⟩ iv) bs D s∧PgO w.heap.size (W.setCell ⟨w.heap.size,0,none⟩ iv) iv X∧(W.setCell ⟨w.heap.size,0,none⟩ iv).cell? ⟨w.heap.size,0,none⟩=some iv:=by
 refine⟨Cu.set C (qp _),PgO.far P hr (by decide) (by decide),?_⟩;have b1:=zq hr 0 iv;simp only[qa,qb]at b1;exact(zb b1 0).trans rfl
def VZ (k:Nat):List Im:=(List.range k).map fun i=>⟨6,[],[],[],((i % 16:Nat):Int),((i % 3:Nat):Int),0⟩
theorem Tg (k:Nat):VZ (k+1)=VZ k++[⟨6,[],[],[],((k % 16:Nat):Int),((k % 3:Nat):Int),0⟩]:=by unfold VZ;rw[List.range_succ,List.map_append];rfl
def XE:Nat→List Po
 |0=>[⟨1,1,[]⟩]
 |k+1=>[⟨3,1,[]⟩]++(XE k++[⟨1,2,[]⟩]++[⟨9,1,[]⟩])++[⟨9,0,[]⟩]
theorem YG:∀k,(XE k).length=4*k+1
 |0=>rfl
 |k+1=>by simp only[XE,qg,List.length_singleton,YG k];omega
def yZ (D:Sr) (s:DS):List Im×DS:=
 match D.bel s 4 with
 |(k,s1)=>match D.bel s1 2 with
  |(x,s2)=>
   if k=0 then (VZ (100+x),s2)
   else if k=1 then
    match D.bel s2 2 with
    |(y,s3)=>([⟨1,[120],xh (64+x) (7+(y:Int)),[],0,0,0⟩],s3)
   else if k=2 then ([⟨1,[120],chL 999,[],0,0,0⟩,⟨1,[121],xh x 7,[],0,0,0⟩],s2)
   else ([⟨4,[],XE (64+x),[],-3,4,-5⟩],s2)
theorem limitD (C0:Cu B g w w bs D s):Calls Tryz.prog 29 #[.pointer (some ⟨g,0,none⟩)] w (RP B g w bs D (yZ D s) 101):=by
 obtain⟨i0,hi,hz0,hz1,hz2⟩:=info_parts Wo;obtain⟨m,hm⟩:∃m,Hid (yZ D s=m):=⟨_,Hm rfl⟩;rw[hm.out];obtain⟨w1,hW1⟩:∃W,W=w.alloc (.cells #[.slice none 0 0] 25):=⟨_,rfl⟩;have C1:Hid (Cu B g w w1 bs D s):=by rw[hW1];exact C0.al _
 have Kres_1:Hid (w1.heap[w.heap.size]? =some (.cells #[.slice none 0 0] 25)):=by rw[hW1];exact zo _ _
 clear C0;go_enter Tryz.func29,Tryz.ntmps29;go_wp2_with fail;rw[←hW1];clear hW1;refine(yq C1.out 4 (by omega) (by omega)).mono ?_;rintro e' w2 ⟨k,s2,hx,lk,rfl,hc,hgb⟩;have C2:=Hm hc;have Qk:=Hm hx;have Kres_2:=Hm (Cu.blk C1.out (by omega) Kres_1.out hgb);clear Kres_1 hx hc hgb;go_wp2_with fail;refine(yq C2.out 2 (by omega) (by omega)).mono ?_;rintro e' w3 ⟨x,s3,hx,lx,rfl,hc,hgb⟩;have C3:=Hm hc;have Qx:=Hm hx;have Kres_3:=Hm (Cu.blk C2.out (by omega) Kres_2.out hgb);clear Kres_2 hx hc hgb;have hsz:=C3.out.size;by_cases k0:k=0
 ·subst k0
  have hb:Below w3.heap.size w3 (w3.alloc (.cells #[] 38)):=zd (Below.refl _ _) _;have C4:=Hm (Cu.below C3.out hb);have K4:=Hm (zg Kres_3.out hb);have P4:Hid (PgO w.heap.size (w3.alloc (.cells #[] 38)) (.slice (some ⟨w3.heap.size,0,none⟩) 0 0) []):=PgO.made (X:=[]) hsz rfl rfl (by simp) (fun _ h=>by cases h) (fun _ h=>by cases h) (fun _ h=>by cases h) (fun _ h=>by cases h);clear hb;have e1:IntKind.i64.wrap (100+(x:Int))=100+(x:Int):=by rw[IntKind.wrap_i64];omega
  go_wp2;go_loopw [5,6] (fun v i wr=>∃j:Nat,j≤100+x∧i=.int .i64 (j:Int)∧∃X:List Xi,X.map Xi.im=VZ j∧X.length=j∧Hid (PgO w.heap.size wr v X)∧Hid (Cu B g w wr bs D s3)∧Hid (wr.heap[w.heap.size]? =some (.cells #[.slice none 0 0] 25))) (fun _ i _=>100+x- (intOf i).toNat)
  case atStart=>exact⟨0,Nat.zero_le _,rfl,[],rfl,rfl,P4,C4,K4⟩
  case round=>
   obtain⟨j,hj,rfl,X,hX,hXl,PR,CR,KR⟩:=hrel;obtain⟨a,n5,c,rfl⟩:∃a n c,u5=.slice a n c:=by obtain⟨a,c,e,-⟩:=zh PR.out.row;exact⟨_,_,_,e⟩
   by_cases hlt:j<100+x
   ·have k1:(j:Int)<100+(x:Int):=by omega
    have e5:IntKind.i64.wrap ((j:Int)+1)=(j:Int)+1:=by rw[IntKind.wrap_i64];omega
    have e2:Int.tmod (j:Int) 16=((j % 16:Nat):Int):=by rw[Int.tmod_eq_emod_of_nonneg (by omega)];simp
    have e3:Int.tmod (j:Int) 3=((j % 3:Nat):Int):=by rw[Int.tmod_eq_emod_of_nonneg (by omega)];simp
    obtain⟨q,hq⟩:∃q,q=j % 16:=⟨_,rfl⟩;obtain⟨q',hq'⟩:∃q,q=j % 3:=⟨_,rfl⟩;have HQ:=Hm (And.intro hq hq');rw[←hq]at e2;rw[←hq']at e3;clear hq hq'
    have hn5:n5=j:=by
     obtain⟨a',c',e,-⟩:=zh PR.out.row;injection e with _ e2 _;rw[e2,hXl]
    subst hn5;have HX:=Hm (And.intro hX hXl);clear hX hXl;have hb:Below wr.heap.size wr (wr.alloc (.cells (itC ⟨6,[],[],[],(q:Int),(q':Int),0⟩ (.slice none 0 0) (.slice none 0 0)).toArray 38)):=zd (Below.refl _ _) _;have PA:=Hm (PgO.below PR.out hb);have CA:=Hm (Cu.below CR.out hb);have KA:=Hm (zg KR.out hb);clear hb;have hzA:w.heap.size≤(wr.alloc (.cells (itC ⟨6,[],[],[],(q:Int),(q':Int),0⟩ (.slice none 0 0) (.slice none 0 0)).toArray 38)).heap.size:=CA.out.size
    have RA:Hid ((wr.alloc (.cells (itC ⟨6,[],[],[],(q:Int),(q':Int),0⟩ (.slice none 0 0) (.slice none 0 0)).toArray 38)).ownsRow w.heap.size 38 7 (.slice a n5 c) n5 (X.flatMap Xi.cs)):=by
     have:=PA.out.row;rw[HX.out.2]at this;exact this
    have newsA:=Zf (w:=wr) ⟨6,[],[],[],(q:Int),(q':Int),0⟩ (.slice none 0 0) (.slice none 0 0) _ rfl;have oneA:=Yd ⟨6,[],[],[],(q:Int),(q':Int),0⟩ none 0 0 none 0 0;have fillA:=xT 6 ⟨#[]⟩ none 0 0 none 0 0 (q:Int) (q':Int) 0
    go_wp2_with (first|(at_builtin;go_must (refine wpList_append_own_at _ rfl _ _ 23 rfl w.heap.size 38 i0 (.agg #[.int .i64 0,.string ⟨#[]⟩,.slice none 0 0,.slice none 0 0,.int .i64 0,.int .i64 0,.int .i64 0]) 7 96 Tryz.underlying23 hi hz0 hz1 hz2 rfl (by decide) _ _ _ rfl RA.out ⟨wr.heap.size,0,none⟩ 1 1 (itC ⟨6,[],[],[],(q:Int),(q':Int),0⟩ (.slice none 0 0) (.slice none 0 0)) rfl rfl newsA oneA (by unfold maxLen;omega) (by omega) hzA ?_))|(refine zC rfl 23 38 _ rfl i0 _ Tryz.underlying23 hi hz0 7 hz1 (itC ⟨6,[],[],[],(q:Int),(q':Int),0⟩ (.slice none 0 0) (.slice none 0 0)) rfl fillA (by decide) (by decide) ?_));intro vi w5 hov hgr _ _
    have P5:Hid (PgO w.heap.size w5 vi (X++[⟨⟨6,[],[],[],(q:Int),(q':Int),0⟩,.slice none 0 0,.slice none 0 0⟩])):=by
     refine PgO.snoc (z:=⟨⟨6,[],[],[],(q:Int),(q':Int),0⟩,.slice none 0 0,.slice none 0 0⟩) PA.out (zP _ _) (zP _ _) (zS _) ⟨by simp,by simp⟩ (fun x hx=>⟨zS _,zS _,zS _,zS _⟩) ?_ hgr;rw[HX.out.2];exact hov
    have C5:=Hm (Cu.app CA.out RA.out (by decide) hgr);have K5:=Hm (zz hgr RA.out KA.out (by decide));obtain⟨az,bz,rfl,-⟩:=zh hov;clear hov hgr RA PA CA KA newsA oneA fillA;refine Hid.out ?_;refine Lib.hid ?_;go_wp2;exact⟨⟨n5+1,by omega,by go_num,_,by rw[List.map_append,HX.out.1,Tg,←HQ.out.1,←HQ.out.2];rfl,by rw[qg,HX.out.2];rfl,P5,C5,K5⟩,by simp[intOf];omega⟩
   ·obtain rfl:j=100+x:=by omega
    have k1:decide (((100+x:Nat):Int)<100+(x:Int))=false:=by simp
    have z0:=cL0 KR.out;have f0:=zc KR.out 0;go_wp2;clear z0 f0;obtain⟨c1,p1,t0⟩:=RH (C':=#[]) CR.out KR.out PR.out;obtain⟨Y,hY⟩:∃Y,Y=wr.setCell ⟨w.heap.size,0,none⟩ (.slice a n5 c):=⟨_,rfl⟩;rw[←hY]at c1 p1 t0 ⊢;clear hY;refine bodyPost_ret (v:=.agg #[.slice a n5 c]) (by simp[results,Tryz.results29,go_sem,t0];try rfl) rfl ?_;exact⟨_,X,rfl,by rw[←hm.out];simp[yZ,Qk.out,Qx.out,hX],p1,by rw[←hm.out];simp only[yZ,Qk.out,Qx.out,if_true];exact c1,by rw[←hm.out];simp[yZ,Qk.out,Qx.out,VZ];omega⟩
 have kk0:((k:Int)==0)=false:=by simp;omega
 by_cases k1:k=1
 ·subst k1
  have e1:IntKind.i64.wrap (64+(x:Int))=((64+x:Nat):Int):=by rw[IntKind.wrap_i64];omega
  go_wp2_with fail;refine(yq C3.out 2 (by omega) (by omega)).mono ?_;rintro e' w4 ⟨y,s4,hx,ly,rfl,hc,hgb⟩;have C4:=Hm hc;have Qy:=Hm hx;have Kres_4:=Hm (Cu.blk C3.out (by omega) Kres_3.out hgb);clear Kres_3 hx hc hgb;have e2:IntKind.i64.wrap (7+(y:Int))=7+(y:Int):=by rw[IntKind.wrap_i64];omega
  go_wp2_with fail;refine(Ph (64+x) (7+(y:Int)) _ (by omega)).mono ?_;rintro e' w5 ⟨vd,rfl,ho,hb⟩;have Kres_5:=Hm (zg Kres_4.out hb);have C5:=Hm (Cu.below C4.out hb);have O_d_5:=Hm (ho.low (Cu.size C4.out));obtain⟨ad,nd,cd,rfl⟩:∃a n c,vd=.slice a n c:=by obtain⟨a,c,e,-⟩:=zh ho;exact⟨_,_,_,e⟩
  clear Kres_4 ho hb;obtain⟨w6,hw⟩:∃W,W=w5.alloc (.cells (itC ⟨1,[120],xh (64+x) (7+(y:Int)),[],0,0,0⟩ (.slice ad nd cd) (.slice none 0 0)).toArray 38):=⟨_,rfl⟩;have hb:Below w5.heap.size w5 w6:=by rw[hw];exact zd (Below.refl _ _) _
  have P6:Hid (PgO w.heap.size w6 (.slice (some ⟨w5.heap.size,0,none⟩) 1 1) [⟨⟨1,[120],xh (64+x) (7+(y:Int)),[],0,0,0⟩,.slice ad nd cd,.slice none 0 0⟩]):=by
   refine PgO.made (X:=[⟨⟨1,[120],xh (64+x) (7+(y:Int)),[],0,0,0⟩,.slice ad nd cd,.slice none 0 0⟩]) (Cu.size C5.out) hw rfl (by simp) ?_ ?_ ?_ ?_
   ·intro x hx;rw[List.mem_singleton.1 hx];exact O_d_5.out
   ·intro x hx;rw[List.mem_singleton.1 hx];exact zP _ _
   ·intro x hx y hy;rw[List.mem_singleton.1 hx,List.mem_singleton.1 hy];exact⟨yH _,zS _,yH _⟩
   ·intro x hx;rw[List.mem_singleton.1 hx];exact⟨by first|(show(xh _ _).length≤3000;rw[xZ];omega)|(show(XE _).length≤3000;rw[YG];omega),by simp⟩
  have C6:=Hm (Cu.below C5.out hb);have K6:=Hm (zg Kres_5.out hb);clear hb;have z0:=cL0 K6.out;have f0:=zc K6.out 0;rw[hw]at z0 f0;have fillA:=xT 1 ⟨#[120]⟩ ad nd cd none 0 0 0 0 0;go_wp2_with (refine zC rfl 23 38 _ rfl i0 _ Tryz.underlying23 hi hz0 7 hz1 (itC ⟨1,[120],xh (64+x) (7+(y:Int)),[],0,0,0⟩ (.slice ad nd cd) (.slice none 0 0)) rfl fillA (by decide) (by decide) ?_);rw[←hw];clear hw z0 f0;obtain⟨c1,p1,t0⟩:=RH (C':=#[]) C6.out K6.out P6.out;obtain⟨Y,hY⟩:∃Y,Y=w6.setCell ⟨w.heap.size,0,none⟩ (.slice (some ⟨w5.heap.size,0,none⟩) 1 1):=⟨_,rfl⟩;rw[←hY]at c1 p1 t0 ⊢;clear hY;refine bodyPost_ret (v:=.agg #[.slice (some ⟨w5.heap.size,0,none⟩) 1 1]) (by simp[results,Tryz.results29,go_sem,t0];try rfl) rfl ?_
  exact⟨_,_,rfl,by rw[←hm.out];simp[yZ,Qk.out,Qx.out,Qy.out],p1,by rw[←hm.out];simp[yZ,Qk.out,Qx.out,Qy.out];exact c1,by rw[←hm.out];simp[yZ,Qk.out,Qx.out,Qy.out]⟩
 have kk1:((k:Int)==1)=false:=by simp;omega
 by_cases k2:k=2
 ·subst k2
  go_wp2_with fail;refine((show Calls _ _ #[.int .i64 1000] _ _ from chainD 999 _ (by omega))).mono ?_;rintro e' w4 ⟨vc,rfl,ho,hb⟩;have Kres_4:=Hm (zg Kres_3.out hb);have C4:=Hm (Cu.below C3.out hb);have O_c_4:=Hm (ho.low (Cu.size C3.out));obtain⟨ac,nc,cc,rfl⟩:∃a n c,vc=.slice a n c:=by obtain⟨a,c,e,-⟩:=zh ho;exact⟨_,_,_,e⟩
  clear Kres_3 ho hb;go_wp2_with fail;have HLC:Hid (∀b,(Value.slice ac nc cc).ownBlock=some b→b<w4.heap.size):=fun b hb=>(World.ownsRow.lt O_c_4.out b hb).2
  refine(Ph x 7 _ (by omega)).mono ?_;rintro e' w5 ⟨vd,rfl,ho,hb⟩;have O_c_5:=Hm (OwnO.below O_c_4.out hb);have Kres_5:=Hm (zg Kres_4.out hb);have C5:=Hm (Cu.below C4.out hb);have O_d_5:=Hm (ho.low (Cu.size C4.out));obtain⟨ad,nd,cd,rfl⟩:∃a n c,vd=.slice a n c:=by obtain⟨a,c,e,-⟩:=zh ho;exact⟨_,_,_,e⟩
  have APD:=Hm (XP HLC.out ho);clear O_c_4 Kres_4 ho hb;obtain⟨w6,hw⟩:∃W,W=w5.alloc (.cells (itC ⟨1,[120],chL 999,[],0,0,0⟩ (.slice ac nc cc) (.slice none 0 0)++itC ⟨1,[121],xh x 7,[],0,0,0⟩ (.slice ad nd cd) (.slice none 0 0)).toArray 38):=⟨_,rfl⟩;have hb:Below w5.heap.size w5 w6:=by rw[hw];exact zd (Below.refl _ _) _
  have P6:Hid (PgO w.heap.size w6 (.slice (some ⟨w5.heap.size,0,none⟩) 2 2) [⟨⟨1,[120],chL 999,[],0,0,0⟩,.slice ac nc cc,.slice none 0 0⟩,⟨⟨1,[121],xh x 7,[],0,0,0⟩,.slice ad nd cd,.slice none 0 0⟩]):=by
   refine PgO.made (X:=[⟨⟨1,[120],chL 999,[],0,0,0⟩,.slice ac nc cc,.slice none 0 0⟩,⟨⟨1,[121],xh x 7,[],0,0,0⟩,.slice ad nd cd,.slice none 0 0⟩]) (Cu.size C5.out) hw rfl (by simp) ?_ ?_ ?_ ?_
   ·intro x hx;simp only[List.mem_cons,List.not_mem_nil,or_false]at hx;rcases hx with rfl|rfl
    ·exact O_c_5.out
    ·exact O_d_5.out
   ·intro x hx;simp only[List.mem_cons,List.not_mem_nil,or_false]at hx;rcases hx with rfl|rfl
    ·exact zP _ _
    ·exact zP _ _
   ·intro x hx y hy;simp only[List.mem_cons,List.not_mem_nil,or_false]at hx hy;rcases hx with rfl|rfl<;>rcases hy with rfl|rfl
    ·exact⟨yH _,zS _,yH _⟩
    ·exact⟨APD.out,zS _,yH _⟩
    ·exact⟨APD.out.symm,zS _,yH _⟩
    ·exact⟨yH _,zS _,yH _⟩
   ·intro x hx;simp only[List.mem_cons,List.not_mem_nil,or_false]at hx;rcases hx with rfl|rfl
    ·exact⟨by show(chL _).length≤3000;rw[YN];omega,by simp⟩
    ·exact⟨by show(xh _ _).length≤3000;rw[xZ];omega,by simp⟩
  have C6:=Hm (Cu.below C5.out hb);have K6:=Hm (zg Kres_5.out hb);clear hb;have z0:=cL0 K6.out;have f0:=zc K6.out 0;rw[hw]at z0 f0;have fillA:=fillI2 1 1 ⟨#[120]⟩ ⟨#[121]⟩ ac nc cc ad nd cd;go_wp2_with (refine Zj rfl 23 38 _ _ rfl i0 _ Tryz.underlying23 hi hz0 7 hz1 (itC ⟨1,[120],chL 999,[],0,0,0⟩ (.slice ac nc cc) (.slice none 0 0)) (itC ⟨1,[121],xh x 7,[],0,0,0⟩ (.slice ad nd cd) (.slice none 0 0)) rfl rfl fillA (by decide) (by decide) ?_);rw[←hw];clear hw z0 f0;obtain⟨c1,p1,t0⟩:=RH (C':=#[]) C6.out K6.out P6.out;obtain⟨Y,hY⟩:∃Y,Y=w6.setCell ⟨w.heap.size,0,none⟩ (.slice (some ⟨w5.heap.size,0,none⟩) 2 2):=⟨_,rfl⟩;rw[←hY]at c1 p1 t0 ⊢;clear hY
  refine bodyPost_ret (v:=.agg #[.slice (some ⟨w5.heap.size,0,none⟩) 2 2]) (by simp[results,Tryz.results29,go_sem,t0];try rfl) rfl ?_;exact⟨_,_,rfl,by rw[←hm.out];simp[yZ,Qk.out,Qx.out],p1,by rw[←hm.out];simp[yZ,Qk.out,Qx.out];exact c1,by rw[←hm.out];simp[yZ,Qk.out,Qx.out]⟩
 have kk2:((k:Int)==2)=false:=by simp;omega
 go_wp2_with fail;refine(xO (1) _).mono ?_;rintro e' w4 ⟨ve,rfl,ho,hb⟩;have Kres_4:=Hm (zg Kres_3.out hb);have C4:=Hm (Cu.below C3.out hb);have O_e_4:=Hm (ho.low (Cu.size C3.out));obtain⟨ae,ne,ce,rfl⟩:∃a n c,ve=.slice a n c:=by obtain⟨a,c,e,-⟩:=zh ho;exact⟨_,_,_,e⟩
 clear Kres_3 ho hb;have e1:IntKind.i64.wrap (64+(x:Int))=((64+x:Nat):Int):=by rw[IntKind.wrap_i64];omega
 go_wp2;go_loopw [7,9] (fun v i wr=>∃j:Nat,j≤64+x∧i=.int .i64 (j:Int)∧Hid (OwnO w.heap.size wr v (XE j))∧Hid (Cu B g w wr bs D s3)∧Hid (wr.heap[w.heap.size]? =some (.cells #[.slice none 0 0] 25))) (fun _ i _=>64+x- (intOf i).toNat)
 case atStart=>exact⟨0,Nat.zero_le _,rfl,O_e_4,C4,Kres_4⟩
 case round=>
  obtain⟨j,hj,rfl,O_e_10,C10,Kres_10⟩:=hrel;obtain⟨w10,hw10⟩:∃W,W=wr:=⟨_,rfl⟩;rw[←hw10]at O_e_10 C10 Kres_10 ⊢;clear hw10;obtain⟨ae,ne,ce,rfl⟩:∃a n c,u7=.slice a n c:=by obtain⟨a,c,e,-⟩:=zh O_e_10.out;exact⟨_,_,_,e⟩
  have hjl:=YG j;by_cases hlt:j<64+x
  ·have k9:(j:Int)<((64+x:Nat):Int):=by omega
   have e5:IntKind.i64.wrap ((j:Int)+1)=(j:Int)+1:=by rw[IntKind.wrap_i64];omega
   go_wp2_with fail;refine(yV (1) _).mono ?_;rintro e' w11 ⟨va,rfl,ho,hb⟩;have O_e_11:=Hm (OwnO.below O_e_10.out hb);have Kres_11:=Hm (zg Kres_10.out hb);have C11:=Hm (Cu.below C10.out hb);have O_a_11:=Hm (ho.low (Cu.size C10.out));obtain⟨aa,na,ca,rfl⟩:∃a n c,va=.slice a n c:=by obtain⟨a,c,e,-⟩:=zh ho;exact⟨_,_,_,e⟩
   clear O_e_10 Kres_10 ho hb;go_wp2_with fail;refine(xO (2) _).mono ?_;rintro e' w12 ⟨vb,rfl,ho,hb⟩;have O_e_12:=Hm (OwnO.below O_e_11.out hb);have O_a_12:=Hm (OwnO.below O_a_11.out hb);have Kres_12:=Hm (zg Kres_11.out hb);have C12:=Hm (Cu.below C11.out hb);have O_b_12:=Hm (ho.low (Cu.size C11.out));obtain⟨ab,nb,cb,rfl⟩:∃a n c,vb=.slice a n c:=by obtain⟨a,c,e,-⟩:=zh ho;exact⟨_,_,_,e⟩
   clear O_e_11 O_a_11 Kres_11 ho hb;go_wp2_with fail;refine(ZR (1) _ O_e_12.out O_b_12.out (by first|omega|(simp;done)|(simp;omega)) (by first|omega|(simp;done)|(simp;omega)) (by first|omega|(simp;done)|(simp;omega)) (by first|omega|(simp;done)|(simp;omega))).mono ?_;rintro e' w13 ⟨vf,rfl,ho,hb⟩;have O_e_13:=Hm (OwnO.below O_e_12.out hb);have O_a_13:=Hm (OwnO.below O_a_12.out hb);have O_b_13:=Hm (OwnO.below O_b_12.out hb);have Kres_13:=Hm (zg Kres_12.out hb);have C13:=Hm (Cu.below C12.out hb);have O_f_13:=Hm (ho.low (Cu.size C12.out));obtain⟨af,nf,cf,rfl⟩:∃a n c,vf=.slice a n c:=by obtain⟨a,c,e,-⟩:=zh ho;exact⟨_,_,_,e⟩
   clear O_e_12 O_a_12 O_b_12 Kres_12 ho hb;go_wp2_with fail;refine(ZR (0) _ O_a_13.out O_f_13.out (by first|omega|(simp;done)|(simp;omega)) (by first|omega|(simp;done)|(simp;omega)) (by first|omega|(simp;done)|(simp;omega)) (by first|omega|(simp;done)|(simp;omega))).mono ?_;rintro e' w14 ⟨vh,rfl,ho,hb⟩;have O_a_14:=Hm (OwnO.below O_a_13.out hb);have O_f_14:=Hm (OwnO.below O_f_13.out hb);have Kres_14:=Hm (zg Kres_13.out hb);have C14:=Hm (Cu.below C13.out hb);have O_h_14:=Hm (ho.low (Cu.size C13.out));obtain⟨ah,nh,ch,rfl⟩:∃a n c,vh=.slice a n c:=by obtain⟨a,c,e,-⟩:=zh ho;exact⟨_,_,_,e⟩
   clear O_a_13 O_f_13 Kres_13 ho hb;go_wp2;exact⟨⟨j+1,by omega,by go_num,O_h_14,C14,Kres_14⟩,by simp[intOf];omega⟩
  ·obtain rfl:j=64+x:=by omega
   have k9:decide (((64+x:Nat):Int)<((64+x:Nat):Int))=false:=by simp
   obtain⟨w11,hw⟩:∃W,W=w10.alloc (.cells (itC ⟨4,[],XE (64+x),[],-3,4,-5⟩ (.slice ae ne ce) (.slice none 0 0)).toArray 38):=⟨_,rfl⟩;have hb:Below w10.heap.size w10 w11:=by rw[hw];exact zd (Below.refl _ _) _
   have P11:Hid (PgO w.heap.size w11 (.slice (some ⟨w10.heap.size,0,none⟩) 1 1) [⟨⟨4,[],XE (64+x),[],-3,4,-5⟩,.slice ae ne ce,.slice none 0 0⟩]):=by
    refine PgO.made (X:=[⟨⟨4,[],XE (64+x),[],-3,4,-5⟩,.slice ae ne ce,.slice none 0 0⟩]) (Cu.size C10.out) hw rfl (by simp) ?_ ?_ ?_ ?_
    ·intro x hx;rw[List.mem_singleton.1 hx];exact O_e_10.out
    ·intro x hx;rw[List.mem_singleton.1 hx];exact zP _ _
    ·intro x hx y hy;rw[List.mem_singleton.1 hx,List.mem_singleton.1 hy];exact⟨yH _,zS _,yH _⟩
    ·intro x hx;rw[List.mem_singleton.1 hx];exact⟨by first|(show(xh _ _).length≤3000;rw[xZ];omega)|(show(XE _).length≤3000;rw[YG];omega),by simp⟩
   have C11:=Hm (Cu.below C10.out hb);have K11:=Hm (zg Kres_10.out hb);clear hb;have z0:=cL0 K11.out;have f0:=zc K11.out 0;rw[hw]at z0 f0;have fillA:=xT 4 ⟨#[]⟩ ae ne ce none 0 0 (-3) 4 (-5);go_wp2_with (refine zC rfl 23 38 _ rfl i0 _ Tryz.underlying23 hi hz0 7 hz1 (itC ⟨4,[],XE (64+x),[],-3,4,-5⟩ (.slice ae ne ce) (.slice none 0 0)) rfl fillA (by decide) (by decide) ?_);rw[←hw];clear hw z0 f0;obtain⟨c1,p1,t0⟩:=RH (C':=#[]) C11.out K11.out P11.out;obtain⟨Y,hY⟩:∃Y,Y=w11.setCell ⟨w.heap.size,0,none⟩ (.slice (some ⟨w10.heap.size,0,none⟩) 1 1):=⟨_,rfl⟩;rw[←hY]at c1 p1 t0 ⊢;clear hY;refine bodyPost_ret (v:=.agg #[.slice (some ⟨w10.heap.size,0,none⟩) 1 1]) (by simp[results,Tryz.results29,go_sem,t0];try rfl) rfl ?_
   exact⟨_,_,rfl,by rw[←hm.out];simp[yZ,Qk.out,Qx.out,k0,k1,k2],p1,by rw[←hm.out];simp[yZ,Qk.out,Qx.out,k0,k1,k2];exact c1,by rw[←hm.out];simp[yZ,Qk.out,Qx.out,k0,k1,k2]⟩
end Go.Proofs.YtbkajklninmhiaaGreatDoor.Dq
namespace Go.Proofs.YtbkajklninmhiaaGreatDoor.Dq
open Go Go.RowKit Mem Syn Parse Par Draw
attribute [local go_sem ↓] Go.wp_at_zero Go.wp_at_succ
variable {B g:Nat} {w0 w w':World} {bs:List UInt8} {D:Sr} {s s':DS}
theorem ZF {P:Program} (w:World) (base:Nat) (t ty e:TypeId) (i:TypeInfo) (z:Value) (size bytes:Nat) (ht:P.underlying t=some (.slice e)) (hi:P.info? e=some i) (hz:i.zero=some z)
  (hsize:i.size=size) (hby:i.bytes=bytes) (hzs:z.cells.size=size) (hsz:0<size)
  (v:Value) (n:Nat) (xs:List Value) (hown:w.ownsRow base e size v n xs)
  (a:Addr) (m c:Nat) (news:List Value) (hl:news.length=m*size) (hnews:∀j u,news[j]? =some u→w.cell? (a.add j)=some u) (h1:∀u∈news,u.oneCell'=true)
  (h63:n+m≤maxLen) (hbytes:(n+m)*bytes≤140737488355328) (hbase:base≤w.heap.size):
  ∃v' w',(Builtin.append_ #[t,t] ty #[v,.slice (some a) m c]).run P w=.ok v' w'∧w'.ownsRow base e size v' (n+m) (xs++news)∧w.grownBy w' v.ownBlock∧w'.ownsRow base e size v n xs:=by
 by_cases hroom:∃g cap cur,v=.slice (some ⟨g,0,none⟩) n cap∧base≤g∧w.heap[g]? =some (.cells cur e (0,0))∧n≤cap∧cap≤maxLen∧cur.size=cap*size∧cur.toList.take (n*size)=xs∧n+m≤cap
 ·subst hsize
  subst hby;have hlen:(xs++news).length=(n+m)*i.size:=by rw[qg,hown.1,hl,Nat.add_mul]
  obtain⟨g,cap,cur,rfl,hbg,hg,hnc,hcm,hcs,htake,hrm⟩:=hroom;have hfit:n*i.size+news.length≤cur.size:=by rw[hl,hcs,←Nat.add_mul];exact Nat.mul_le_mul_right _ hrm
  have hr:=run_append_room (P:=P) w t ty e i ht hi g n cap cur hg a m c news hl hnews h1 hrm hfit;refine⟨_,_,hr,⟨hlen,.inr ⟨g,cap,_,rfl,hbg,setRow_heap w g cur _ e _ hg,hrm,hcm,?_,?_⟩⟩,⟨rfl,rfl,rfl,by simp,fun k _ hk=>setRow_other w g k _ (fun e=>hk (by simp[Value.ownBlock,e]))⟩,⟨hown.1,.inr ⟨g,cap,_,rfl,hbg,setRow_heap w g cur _ e _ hg,hnc,hcm,?_,?_⟩⟩⟩
  ·simp only[List.size_toArray,qg,List.length_take,List.length_drop,Array.length_toList]
   omega
  ·rw[htake,←hlen]
   exact List.take_left
  ·simp only[List.size_toArray,qg,List.length_take,List.length_drop,Array.length_toList]
   omega
  ·rw[htake,ql,←hown.1]
   exact List.take_left
 ·have hng:∀(row:Option Nat),True:=fun _=>trivial
  have hsmall:n+m≤9223372036854775807:=by simp only[maxLen]at h63;omega
  rcases hown.2 with⟨rfl,rfl⟩|⟨g,cap,cur,rfl,hbg,hg,hnc,hcm,hcs,htake⟩
  ·obtain⟨v',w',hr,h2,h3,-,-⟩:=run_append_own_at (P:=P) w base t ty e i z size bytes ht hi hz hsize hby hzs hsz _ 0 xs hown a m c news hl hnews h1 h63 hbytes hbase
   exact⟨v',w',hr,h2,h3,⟨hown.1,.inl ⟨rfl,rfl⟩⟩⟩
  ·have hg':cap<n+m:=by
    refine Nat.lt_of_not_le fun hle=>hroom ⟨g,cap,cur,rfl,hbg,hg,hnc,hcm,hcs,htake,hle⟩
   have holds:∀j u,xs[j]? =some u→w.cell? ((⟨g,0,none⟩:Addr).add j)=some u:=hown.cells (g:=g) rfl;obtain⟨v',w',hr,h2,h3⟩:=run_append_arg_grows (P:=P) w t ty e i z size bytes ht hi hz hsize hby hzs hsz ⟨g,0,none⟩ n cap xs hown.1 holds a m c news hl hnews hg' h63 hbytes;refine⟨v',w',hr,Joins.ownsRow_le h2 hbase,⟨h3.os,h3.tape,h3.output,h3.size,fun k hk _=>h3.block k hk (by simp)⟩,⟨hown.1,.inr ⟨g,cap,cur,rfl,hbg,?_,hnc,hcm,hcs,htake⟩⟩⟩;rw[h3.block g (zN hg) (by simp)];exact hg
theorem Yk {P:Program} {w:World} {ops:Array Oper} {rest:List Oper} {o:Oper} {a:Act} {Q:Exit→Act→World→Prop} (hgd:o.guard=none) (s x:Operand) (t:TypeId)
  (ho:o.op=.call {callee:=.builtin .append,args:=#[s,x],argTypes:=#[t,t]})
  (base:Nat) (e:TypeId) (i:TypeInfo) (z:Value) (size bytes:Nat) (ht:P.underlying t=some (.slice e)) (hi:P.info? e=some i) (hz:i.zero=some z)
  (hsize:i.size=size) (hby:i.bytes=bytes) (hzs:z.cells.size=size) (hsz:0<size)
  (v:Value) (n:Nat) (xs:List Value) (hs:a.eval s=v) (hown:w.ownsRow base e size v n xs)
  (ad:Addr) (m c:Nat) (news:List Value) (hx:a.eval x=.slice (some ad) m c) (hl:news.length=m*size) (hnews:∀j u,news[j]? =some u→w.cell? (ad.add j)=some u) (h1:∀u∈news,u.oneCell'=true)
  (h63:n+m≤maxLen) (hbytes:(n+m)*bytes≤140737488355328) (hbase:base≤w.heap.size)
  (h:∀v' w',w'.ownsRow base e size v' (n+m) (xs++news)→w.grownBy w' v.ownBlock→w'.ownsRow base e size v n xs→wpList P ops Q rest (a.put o.dst v') w'):
  wpList P ops Q (o::rest) a w:=by
 refine wpList_plain hgd fun K hK=>?_
 obtain⟨v',w',hr,h2,h3,h4⟩:=ZF (P:=P) w base t o.type e i z size bytes ht hi hz hsize hby hzs hsz v n xs hown ad m c news hl hnews h1 h63 hbytes hbase;unfold Oper.wp execOp;simp only[ho,resolve,invoke,builtin,Sem.run_bind,Sem.run_pure,Result.andThen_ok,List.map_toArray,List.map_cons,List.map_nil,hs,hx,hr];exact hK _ _ (h v' w' h2 h3 h4)
theorem X8 {P:Program} {ops:Array Oper} {o:Oper} {a:Act} {w:World} {K:Act→World→Prop} {Q:Exit→Act→World→Prop} {E:Prop}
  (hg:o.guard=none) (s x:Operand) (t:TypeId) (hop:o.op=Op.call {callee:=Callee.builtin Builtin.append,args:=#[s,x],argTypes:=#[t,t]})
  (B:Nat) (e:TypeId) (i:TypeInfo) (z:Value) (size bytes:Nat) (h1:P.underlying t=some (.slice e)) (h2:P.info? e=some i) (h3:i.zero=some z) (h4:i.size=size) (h5:i.bytes=bytes) (h6:z.cells.size=size) (h7:0<size)
  (v:Value) (n:Nat) (xs:List Value) (hs:a.eval s=v) (hrow:w.ownsRow B e size v n xs)
  (ad:Addr) (m c:Nat) (news:List Value) (hx:a.eval x=.slice (some ad) m c) (hn:news.length=m*size) (hc:∀j u,news[j]? =some u→w.cell? (ad.add j)=some u) (h1c:∀u∈news,u.oneCell'=true)
  (b1:n+m≤maxLen) (b2:(n+m)*bytes≤140737488355328) (hB:B≤w.heap.size)
  (hK:∀v' w',w'.ownsRow B e size v' (n+m) (xs++news)→w.grownBy w' v.ownBlock→w'.ownsRow B e size v n xs→K (a.put o.dst v') w'):
  if Region.wanted o (yielded ops a.tmps)=true then Oper.wp P o a w K Q else E:=by
 have hw:Region.wanted o (yielded ops a.tmps)=true:=by simp[Region.wanted,hg]
 rw[if_pos hw];obtain⟨v',w',hrun,r1,r2,r3⟩:=ZF (P:=P) w B t o.type e i z size bytes h1 h2 h3 h4 h5 h6 h7 v n xs hrow ad m c news hn hc h1c b1 b2 hB;have hk:=hK v' w' r1 r2 r3;unfold Oper.wp;simp[execOp,hop,resolve,invoke,builtin,hs,hx,hrun,Result.andThen];exact hk
end Go.Proofs.YtbkajklninmhiaaGreatDoor.Dq
namespace Go.Proofs.YtbkajklninmhiaaGreatDoor.Dq
open Go Go.RowKit Mem Syn Parse Par Draw
attribute [local go_sem ↓] Go.wp_at_zero Go.wp_at_succ
variable {B g:Nat} {w0 w w':World} {bs:List UInt8} {D:Sr} {s s':DS}
def Za (f:List Value→List Value):Nat→List (List Value)→List (List Value)
 |_,[]=>[]
 |0,x::r=>f x::r
 |j+1,x::r=>x::Za f j r
theorem Vv {f:List Value→List Value} {k:Nat} (hf:∀x,x.length=k→(f x).length=k):∀(j:Nat) (M:List (List Value)),(∀x∈M,x.length=k)→(∀x∈Za f j M,x.length=k)
 |_,[],h=>by simp[Za]
 |0,y::r,h=>fun x hx=>by
  rcases List.mem_cons.1 hx with rfl|hx
  ·exact hf _ (h y (by simp))
  ·exact h x (by simp[hx])
 |j+1,y::r,h=>fun x hx=>by
  rcases List.mem_cons.1 hx with rfl|hx
  ·exact h _ (by simp)
  ·exact Vv hf j r (fun z hz=>h z (by simp[hz])) x hx
theorem Vt (f:List Value→List Value):∀(j:Nat) (M:List (List Value)),(Za f j M).length=M.length
 |_,[]=>by simp[Za]
 |0,y::r=>by simp[Za]
 |j+1,y::r=>by simp[Za,Vt f j r]
theorem Wk {k q:Nat} {u:Value} (hq:q<k):∀(j:Nat) (M:List (List Value)),(∀x∈M,x.length=k)→j<M.length→M.flatten.set (j*k+q) u=(Za (fun x=>x.set q u) j M).flatten
 |_,[],_,hj=>by simp at hj
 |0,y::r,h,_=>by
  have hy:=h y (by simp);rw[Za,List.flatten_cons,List.flatten_cons,Nat.zero_mul,Nat.zero_add,List.set_append,if_pos (by omega)]
 |j+1,y::r,h,hj=>by
  have hy:=h y (by simp);have h1:(j+1)*k=k+j*k:=by rw[Nat.succ_mul];omega
  rw[Za,List.flatten_cons,List.flatten_cons,List.set_append,if_neg (by omega),hy,show(j+1)*k+q-k=j*k+q by omega];rw[Wk hq j r (fun z hz=>h z (by simp[hz])) (by simpa using hj)]
theorem Wj (f g:List Value→List Value):∀(j:Nat) (M:List (List Value)),Za f j (Za g j M)=Za (fun x=>f (g x)) j M
 |_,[]=>by simp[Za]
 |0,y::r=>by simp[Za]
 |j+1,y::r=>by simp[Za,Wj f g j r]
theorem Vu {α:Type} {c:α→List Value} {f:List Value→List Value} {v v':α} (hf:f (c v)=c v'):∀(j:Nat) (L:List α),L[j]? =some v→Za f j (L.map c)=(L.set j v').map c
 |_,[],h=>by simp at h
 |0,y::r,h=>by
  simp only[qn,Option.some.injEq]at h;subst h;simp[Za,hf]
 |j+1,y::r,h=>by
  have:=Vu hf j r (by simpa using h);simp[Za,this]
theorem xM {w:World} {B s n g c i:Nat} {e:TypeId} {u:Value} {xs:List Value} (h:w.ownsRow B e s (.slice (some ⟨g,0,none⟩) n c) n xs) (hi:i<n*s):(w.setCell ⟨g,i,none⟩ u).ownsRow B e s (.slice (some ⟨g,0,none⟩) n c) n (xs.set i u):=by
 refine⟨by rw[List.length_set];exact h.1,?_⟩;rcases h.2 with⟨h1,h2⟩|⟨g',cap,cur,h1,h2,h3,h4,h5,h6,h7⟩
 ·cases h1
 ·right
  refine⟨g',cap,cur.setIfInBounds i u,h1,h2,?_,h4,h5,by rw[Array.size_setIfInBounds];exact h6,?_⟩
  ·injection h1 with e1
   injection e1 with e1;injection e1 with e1;subst e1;exact zq h3 i u
  ·rw[Array.toList_setIfInBounds,←h7,List.take_set]
def Tb (j k:Nat):List (Nat×Value)→List Value→List Value
 |[],xs=>xs
 |p::r,xs=>Tb j k r (xs.set (j*k+p.1) p.2)
def RB:List (Nat×Value)→List Value→List Value
 |[],x=>x
 |p::r,x=>RB r (x.set p.1 p.2)
theorem Wb {k:Nat}:∀(l:List (Nat×Value)) (j:Nat) (M:List (List Value)),(∀p∈l,p.1<k)→(∀x∈M,x.length=k)→j<M.length→Tb j k l M.flatten=(Za (RB l) j M).flatten
 |[],j,M,_,_,_=>by
  have:∀(j:Nat) (M:List (List Value)),Za (RB []) j M=M:=by
   intro j M
   induction M generalizing j with
   |nil=>simp[Za]
   |cons y r ih=>cases j with
    |zero=>rfl
    |succ j=>rw[Za,ih]
  rw[Tb,this]
 |p::r,j,M,hl,hM,hj=>by
  have hp:=hl p (by simp);rw[Tb,Wk hp j M hM hj,Wb r j _ (fun z hz=>hl z (by simp[hz])) (Vv (fun x hx=>by rw[List.length_set];exact hx) j M hM) (by rw[Vt];exact hj),Wj];rfl
theorem Vf {α:Type} {c:α→List Value} {k:Nat} (hc:∀a,(c a).length=k) (l:List (Nat×Value)) (hl:∀p∈l,p.1<k) {L:List α} {j:Nat} {v v':α} (hj:L[j]? =some v) (hv:RB l (c v)=c v'):Tb j k l (L.flatMap c)=(L.set j v').flatMap c:=by
 have hjl:j<L.length:=(List.getElem?_eq_some_iff.1 hj).1;show Tb j k l ((L.map c).flatten)=((L.set j v').map c).flatten;rw[Wb l j (L.map c) hl (fun x hx=>by obtain⟨a,-,rfl⟩:=List.mem_map.1 hx;exact hc a) (by rw[List.length_map];exact hjl),Vu hv j L hj]
theorem zm {α:Type} {c:α→List Value} {k:Nat} (hc:∀a,(c a).length=k):∀(j:Nat) (L:List α) (v:α) (q:Nat),L[j]? =some v→q<k→(L.flatMap c)[j*k+q]? =(c v)[q]?
 |_,[],v,q,h,_=>by simp at h
 |0,y::r,v,q,h,hq=>by
  simp only[qn,Option.some.injEq]at h;subst h;rw[List.flatMap_cons,List.getElem?_append_left (by rw[hc];omega),Nat.zero_mul,Nat.zero_add]
 |j+1,y::r,v,q,h,hq=>by
  have h1:(j+1)*k=k+j*k:=by rw[Nat.succ_mul];omega
  rw[List.flatMap_cons,List.getElem?_append_right (by rw[hc];omega),hc,show(j+1)*k+q-k=j*k+q by omega];exact zm hc j r v q (by simpa using h) hq
theorem zk {W:World} {B' sz n b c i:Nat} {T:TypeId} {u:Value} {xs:List Value} (h:W.ownsRow B' T sz (.slice (some ⟨b,0,none⟩) n c) n xs) (hu:xs[i]? =some u):W.cell? ⟨b,i,none⟩=some u∧W.frozen? ⟨b,i,none⟩=false:=by
 rcases h.2 with⟨h1,-⟩|⟨b',cap,cur,h1,h2,h3,h4,h5,h6,h7⟩
 ·cases h1
 ·injection h1 with e1
  injection e1 with e1;injection e1 with e1;subst e1;refine⟨?_,zc h3 i⟩;rw[zb h3 i];rw[←h7,List.getElem?_take]at hu
  split at hu
  ·rw[←Array.getElem?_toList];exact hu
  ·cases hu
variable {iv:Value} {X:List Xi}
structure PgR (B:Nat) (w:World) (iv:Value) (X:List Xi):Prop where
 row:w.ownsRow B 38 7 iv X.length (X.flatMap Xi.cs)
 e:∀x∈X,OwnO B w x.e x.im.E
 f:∀x∈X,OwnO B w x.f x.im.F
 le:∀x∈X,x.im.E.length≤3010∧x.im.F.length≤3010
theorem PgO.r {B':Nat} (h:PgO B' w iv X):PgR B' w iv X:=⟨h.row,h.e,h.f,fun x hx=>by have:=h.le x hx;omega⟩
theorem RG {B C:Nat} {T:TypeId} {z n m:Nat} {v:Value} {xs ys:List Value} (h:w.ownsRow B T z v n xs) (k:w.ownsRow C T z v m ys):n=m∧xs=ys:=by
 rcases h.2 with⟨rfl,rfl⟩|⟨g,cap,cur,rfl,_,h3,_,_,_,h7⟩
 ·rcases k.2 with⟨_,rfl⟩|⟨g,cap,cur,e,_⟩
  ·exact⟨rfl,by have h1:=h.1;have h2:=k.1;rw[Nat.zero_mul]at h1 h2;rw[List.eq_nil_of_length_eq_zero h1,List.eq_nil_of_length_eq_zero h2]⟩
  ·cases e
 ·rcases k.2 with⟨e,_⟩|⟨g',cap',cur',e,_,k3,_,_,_,k7⟩
  ·cases e
  ·injection e with e1 e2 e3
   injection e1 with e1;injection e1 with e1;subst e1 e2;rw[h3]at k3;injection k3 with k3;injection k3 with k3;subst k3;exact⟨rfl,h7.symm.trans k7⟩
theorem Xl {B':Nat} {u v:Value} {L M:List Po} (hv:OwnO B' w v L) (hu:OwnO B' w u M) (ha:Ap v u) (hg:w.grownBy w' u.ownBlock) (hk:OwnO B' w' u M):OwnO B' w' v L:=by
 by_cases hb:∃b,v.ownBlock=some b∧u.ownBlock=some b
 ·obtain⟨b,h1,h2⟩:=hb
  obtain rfl:=ha b h1 h2;obtain⟨e1,e2⟩:=RG hv hu;unfold OwnO at*;rw[e1,e2];exact hk
 ·exact hv.keepA hu (fun b h1 h2=>hb ⟨b,h1,h2⟩) hg
def Blk (W:World) (b:Nat) (T:TypeId):Prop:=∃C fr,W.heap[b]? =some (.cells C T fr)
theorem Blk.set {W:World} {b:Nat} {T:TypeId} (h:Blk W b T) (i:Nat) (v:Value):Blk (W.setCell ⟨b,i,none⟩ v) b T:=by
 obtain⟨C,fr,h⟩:=h;exact⟨_,_,zq h i v⟩
theorem XM {p:World→Prop} {W:World} {b:Nat} {T:TypeId} (hp:∀W i v,Blk W b T→p W→p (W.setCell ⟨b,i,none⟩ v)) (hB:Blk W b T) (h:p W) (i0 i1 i2 i3 i4 i5 i6:Nat) (v0 v1 v2 v3 v4 v5 v6:Value):
  p (((((((W.setCell ⟨b,i0,none⟩ v0).setCell ⟨b,i1,none⟩ v1).setCell ⟨b,i2,none⟩ v2).setCell ⟨b,i3,none⟩ v3).setCell ⟨b,i4,none⟩ v4).setCell ⟨b,i5,none⟩ v5).setCell ⟨b,i6,none⟩ v6):=
 hp _ _ _ ((((((hB.set _ _).set _ _).set _ _).set _ _).set _ _).set _ _) (hp _ _ _ (((((hB.set _ _).set _ _).set _ _).set _ _).set _ _) (hp _ _ _ ((((hB.set _ _).set _ _).set _ _).set _ _) (hp _ _ _ (((hB.set _ _).set _ _).set _ _) (hp _ _ _ ((hB.set _ _).set _ _) (hp _ _ _ (hB.set _ _) (hp _ _ _ hB h))))))
theorem Ys {p:World→Prop} {W:World} {b:Nat} {T:TypeId} (hp:∀W i v,Blk W b T→p W→p (W.setCell ⟨b,i,none⟩ v)) (hB:Blk W b T) (h:p W) (i0 i1 i2:Nat) (v0 v1 v2:Value):
  p (((W.setCell ⟨b,i0,none⟩ v0).setCell ⟨b,i1,none⟩ v1).setCell ⟨b,i2,none⟩ v2):=hp _ _ _ ((hB.set _ _).set _ _) (hp _ _ _ (hB.set _ _) (hp _ _ _ hB h))
theorem ZL {B' b c n j:Nat} {x x':Xi} {W:World} (h:W.ownsRow B' 38 7 (.slice (some ⟨b,0,none⟩) n c) n (X.flatMap Xi.cs)) (hn:n=X.length) (hj:X[j]? =some x):
  (((((((W.setCell ⟨b,j*7,none⟩ (.int .i64 x'.im.k)).setCell ⟨b,j*7+1,none⟩ (.string ⟨x'.im.n.toArray⟩)).setCell ⟨b,j*7+2,none⟩ x'.e).setCell ⟨b,j*7+3,none⟩ x'.f).setCell ⟨b,j*7+4,none⟩ (.int .i64 x'.im.K)).setCell ⟨b,j*7+5,none⟩ (.int .i64 x'.im.lo)).setCell ⟨b,j*7+6,none⟩ (.int .i64 x'.im.hi)).ownsRow B' 38 7 (.slice (some ⟨b,0,none⟩) n c) n ((X.set j x').flatMap Xi.cs):=by
 have hjl:j<n:=by rw[hn];exact(List.getElem?_eq_some_iff.1 hj).1
 have Ra:=xM (i:=j*7) (u:=.int .i64 x'.im.k) h (by omega);have Rb:=xM (i:=j*7+1) (u:=.string ⟨x'.im.n.toArray⟩) Ra (by omega);have R1:=xM (i:=j*7+2) (u:=x'.e) Rb (by omega);have R2:=xM (i:=j*7+3) (u:=x'.f) R1 (by omega);have R3:=xM (i:=j*7+4) (u:=.int .i64 x'.im.K) R2 (by omega);have R4:=xM (i:=j*7+5) (u:=.int .i64 x'.im.lo) R3 (by omega);have R5:=xM (i:=j*7+6) (u:=.int .i64 x'.im.hi) R4 (by omega);have hs:=Vf (c:=Xi.cs) Xi.len [(0,.int .i64 x'.im.k),(1,.string ⟨x'.im.n.toArray⟩),(2,x'.e),(3,x'.f),(4,.int .i64 x'.im.K),(5,.int .i64 x'.im.lo),(6,.int .i64 x'.im.hi)] (by simp) hj (v':=x') rfl;rw[←hs];exact R5
theorem YR {B' b c n j:Nat} {L:List Po} {x x':Po} {W:World} (h:OwnO B' W (.slice (some ⟨b,0,none⟩) n c) L) (hj:L[j]? =some x):
  OwnO B' (((W.setCell ⟨b,j*3,none⟩ (.int .i64 x'.k)).setCell ⟨b,j*3+1,none⟩ (.int .i64 x'.v)).setCell ⟨b,j*3+2,none⟩ (.string ⟨x'.n.toArray⟩)) (.slice (some ⟨b,0,none⟩) n c) (L.set j x'):=by
 obtain⟨a',c',e,-⟩:=zh h;injection e with _ hn _;have hjl:j<n:=by rw[hn];exact(List.getElem?_eq_some_iff.1 hj).1
 unfold OwnO zH at h ⊢;rw[List.length_set];rw[←hn]at h ⊢;have Ra:=xM (i:=j*3) (u:=.int .i64 x'.k) h (by omega);have Rb:=xM (i:=j*3+1) (u:=.int .i64 x'.v) Ra (by omega);have R1:=xM (i:=j*3+2) (u:=.string ⟨x'.n.toArray⟩) Rb (by omega);have hs:=Vf (c:=Po.cells) Po.len [(0,.int .i64 x'.k),(1,.int .i64 x'.v),(2,.string ⟨x'.n.toArray⟩)] (by simp) hj (v':=x') rfl;rw[←hs];exact R1
end Go.Proofs.YtbkajklninmhiaaGreatDoor.Dq
