import Derived.Test.YtbkajklninmhiaaGreatDoorPm39
import Derived.Deep.RegionLaw
import Derived.Lib.AppendStr
import Derived.Lib.AppendIntMem
set_option maxHeartbeats 3200000
set_option maxRecDepth 100000
set_option linter.unusedVariables false
set_option linter.unusedSimpArgs false
open List renaming length_append → qg, getElem?_toArray → qm, getElem?_cons_zero → qn, getElem?_cons_succ → qo
open Nat renaming le_refl → qp, le_trans → qq
namespace Go.Proofs.YtbkajklninmhiaaGreatDoor.Syn
open Go Go.RowKit Mem
attribute [local go_sem ↓] Go.wp_at_zero Go.wp_at_succ
theorem yX {P:Program} {ops:Array Oper} {o:Oper} {a:Act} {w:World} {K:Act→World→Prop} {Q:Exit→Act→World→Prop} {E:Prop}
  (hg:o.guard=none) (s x:Operand) (t:TypeId) (hop:o.op=Op.call {callee:=Callee.builtin Builtin.append,args:=#[s,x],argTypes:=#[t,t]})
  (B:Nat) (e:TypeId) (i:TypeInfo) (z:Value) (size bytes:Nat) (h1:P.underlying t=some (.slice e)) (h2:P.info? e=some i) (h3:i.zero=some z) (h4:i.size=size) (h5:i.bytes=bytes) (h6:z.cells.size=size) (h7:0<size)
  (v:Value) (n:Nat) (xs:List Value) (hs:a.eval s=v) (hrow:w.ownsRow B e size v n xs)
  (ad:Addr) (m c:Nat) (news:List Value) (hx:a.eval x=.slice (some ad) m c) (hn:news.length=m*size) (hc:∀j u,news[j]? =some u→w.cell? (ad.add j)=some u) (h1c:∀u∈news,u.oneCell'=true)
  (b1:n+m≤maxLen) (b2:(n+m)*bytes≤140737488355328) (hB:B≤w.heap.size)
  (hK:∀v' w',w'.ownsRow B e size v' (n+m) (xs++news)→w.grownBy w' v.ownBlock→(v'.ownBlock=v.ownBlock∨v'.ownBlock=some w.heap.size)→K (a.put o.dst v') w'):
  if Region.wanted o (yielded ops a.tmps)=true then Oper.wp P o a w K Q else E:=by
 have hw:Region.wanted o (yielded ops a.tmps)=true:=by simp[Region.wanted,hg]
 rw[if_pos hw];obtain⟨v',w',hrun,r1,r2,-,r3⟩:=run_append_own_at (P:=P) w B t o.type e i z size bytes h1 h2 h3 h4 h5 h6 h7 v n xs hrow ad m c news hn hc h1c b1 b2 hB;have hk:=hK v' w' r1 r2 r3;unfold Oper.wp;simp[execOp,hop,resolve,invoke,builtin,hs,hx,hrun,Result.andThen];exact hk
theorem yg {w w':World} {B n s:Nat} {v:Value} {t:TypeId} {xs:List Value} (h:w.ownsRow B t s v n xs) (hb:Below w.heap.size w w'):w'.ownsRow B t s v n xs:=by
 refine⟨h.1,?_⟩;rcases h.2 with h0|⟨g,cap,cur,h1,h2,h3,h4⟩
 ·exact Or.inl h0
 ·exact Or.inr ⟨g,cap,cur,h1,h2,by rw[hb.block g (zN h3)];exact h3,h4⟩
theorem WI {w:World} {B n m:Nat} {e:TypeId} {a:Option Addr} {c:Nat} {xs:List Value} (h:w.ownsRow B e 1 (.slice a n c) n xs) (hm:m≤n):w.ownsRow B e 1 (.slice a m c) m (xs.take m):=by
 have hl:=h.1;refine⟨by rw[List.length_take];omega,?_⟩;rcases h.2 with⟨h1,h2⟩|⟨g,cap,cur,h1,h2,h3,h4,h5,h6,h7⟩
 ·injection h1 with e1 e2 e3
  left;obtain rfl:m=0:=by omega
  exact⟨by rw[e1,e3],rfl⟩
 ·injection h1 with e1 e2 e3
  right;refine⟨g,cap,cur,by rw[e1,e3],h2,h3,by omega,h5,h6,?_⟩;rw[←h7,List.take_take,Nat.mul_one,Nat.mul_one,Nat.min_eq_left hm]
theorem Nd.to {w w':World} {r r':Option Nat} {v:Value} {t:Tr} (h:Nd w r v t) (hb:w.grownBy w' r) (hr:∀g,g<w.heap.size→some g≠r→some g≠r'):Nd w' r' v t:=by
 induction h with
 |leaf o=>exact .leaf o
 |pre o v a h ih=>exact .pre o v a ih
 |bin o v u a b h h' ih ih'=>exact .bin o v u a b ih ih'
 |two o g off c v u a b h0 hk c1 c2 h h' ih ih'=>exact .two o g off c v u a b (hr g (lt_of_cell c1) h0) (hk.grown hb h0) (hb.cell c1 h0) (hb.cell c2 h0) ih ih'
 |three o g off c v u x a b d h0 hk c1 c2 c3 h h' h'' ih ih' ih''=>exact .three o g off c v u x a b d (hr g (lt_of_cell c1) h0) (hk.grown hb h0) (hb.cell c1 h0) (hb.cell c2 h0) (hb.cell c3 h0) ih ih' ih''
theorem Nds.to {w w':World} {r r':Option Nat} {vs:List Value} {ts:List Tr} (h:Nds w r vs ts) (hb:w.grownBy w' r) (hr:∀g,g<w.heap.size→some g≠r→some g≠r'):Nds w' r' vs ts:=by
 induction h with
 |nil=>exact .nil
 |cons v t vs ts h hs ih=>exact .cons v t vs ts (h.to hb hr) ih
theorem XD {W w7:World} {r:Option Nat} {xs:List Value} {s:List Tr} {nv vn:Value} {t:Tr} (h:Nds W r xs s) (hn:Nd W r nv t) (hg:W.grownBy w7 r) (hblk:vn.ownBlock=r∨vn.ownBlock=some W.heap.size):Nds w7 vn.ownBlock (xs++[nv]) (s++[t]):=by
 have hr:∀g,g<W.heap.size→some g≠r→some g≠vn.ownBlock:=fun g hg' hne=>by
  rcases hblk with e|e
  ·rw[e];exact hne
  ·rw[e];intro e2;injection e2 with e2;omega
 exact(h.snoc hn).to hg hr
theorem UH (a:Option Addr) (n n' c:Nat):(Value.slice a n c).ownBlock=(Value.slice a n' c).ownBlock:=by cases a<;>rfl
theorem xP (w:World) (v:Value) (t:TypeId):∀j u,[v][j]? =some u→(w.alloc (.cells #[v] t)).cell? ((⟨w.heap.size,0,none⟩:Addr).add j)=some u:=fun j u h=>by
 rw[Addr.add_mid,Nat.zero_add,zb (zo w _) j];simpa using h
inductive TreeP (w w':World) (E:Nat→Po) (n:Nat) (e:Ending):Prop
 |ok (v:Value) (t:Tr) (he:e=.returned (.tuple #[v,.bool true])) (hs:stk E n=some [t]) (hd:Nd w' none v t) (hb:Below w.heap.size w w'):TreeP w w' E n e
 |no (he:e=.returned (.tuple #[.nilIface,.bool false])) (hs:∀t,stk E n≠some [t]) (hb:Below w.heap.size w w'):TreeP w w' E n e
theorem Xj {E:Nat→Po} {j n:Nat} {s:List Tr} (hs:stk E j=some s) (hj:j<n) (h:opB (E j)=false∨s.length<ar (E j)):∀t,stk E n≠some [t]:=fun t e=>by
 have:stk E (j+1)=none:=by
  simp only[stk,hs,Option.bind_some];rw[if_neg];rintro⟨h1,h2⟩;rcases h with h|h
  ·rw[h]at h1;cases h1
  ·omega
 rw[TC this (by omega)]at e
 cases e
theorem Vc {E:Nat→Po} {j:Nat} {s:List Tr} (hs:stk E j=some s) (h1:opB (E j)=true) (h2:ar (E j)≤s.length):stk E (j+1)=some (s.take (s.length-ar (E j))++[mk (E j) (s.drop (s.length-ar (E j)))]):=by
 simp only[stk,hs,Option.bind_some];rw[if_pos ⟨h1,h2⟩]
theorem Pm (o:Po):ar o≤3:=by unfold ar;split<;>(try split)<;>(try split)<;>(try split)<;>omega
theorem QU (E:Nat→Po) (a:Option Addr) (n cap:Nat) (w:World) (hs:zK w a n 3 (fun i=>(E i).cells)) (hn:n≤1048576) (hW:Xg w) (hO:Uk w):
  Calls Tryz.prog 79 #[.slice a n cap] w fun e w'=>TreeP w w' E n e:=by
 obtain⟨i0,hi,hz0,hz1,hz2⟩:=info_parts Wn;have H:=Hm hs;have HW:=Hm hW;have HO:=Hm hO;clear hs hW hO;go_enter Tryz.func79,Tryz.ntmps79;go_wp2;go_loopw [4,10] (fun v i wr=>∃(j:Nat) (s:List Tr) (xs:List Value),j≤n∧i=.int .i64 (j:Int)∧Hid (stk E j=some s)∧Hid (wr.ownsRow w.heap.size 130 1 v s.length xs)∧Hid (Nds wr v.ownBlock xs s)∧Hid (Below w.heap.size w wr)) (fun _ i _=>n- (intOf i).toNat)
 case atStart=>exact⟨0,[],[],Nat.zero_le _,rfl,rfl,World.ownsRow_nil w _ _ _,Nds.nil,Below.refl _ _⟩
 case round=>
  obtain⟨j,s,xs,hj,rfl,hst,hrow,hnd,hb⟩:=hrel;obtain⟨sa,sc,hv,hsc⟩:=xK hrow.out;rw[hv]at hrow hnd ⊢;clear hv;have hlen:=Uv hst.out;obtain⟨L,hL⟩:∃L,L=s.length:=⟨_,rfl⟩;rw[←hL]at hrow hsc hlen hnd;rw[←hL];have HL:=Hm hL;clear hL;by_cases hlt:j<n
  ·rcases H.out with h0|⟨b,off,rfl,h0⟩
   ·omega
   obtain⟨e0,e1,e2⟩:=Po.at (z8 (h0 j hlt) hb.out);clear h0;have k0:(0:Int)≤(j:Int):=by omega
   have k1:(j:Int)<(n:Int):=by omega
   obtain⟨o,ho⟩:∃o,o=E j:=⟨_,rfl⟩;rw[←ho]at e0 e1 e2;have HE:=Hm ho;clear ho;go_wp2_with fail;clear e0 e1 e2;have hb1:=Hm (zd hb.out (.cells #[.int .i64 o.k,.int .i64 o.v,.string ⟨o.n.toArray⟩] 88));refine(countI o _).mono ?_;rintro e w1 ⟨rfl,hb2⟩;have hbA:=Hm (zn hb1.out hb2);have A1:=Hm (zg (zo wr _) hb2);have R1:=Hm (yg (hrow.out.alloc _) hb2);have N1:=Hm ((hnd.out.kept (Below.alloc (Below.refl _ _) (qp _) _)).kept hb2);clear hb1 hb2 hrow hnd;have z0:=zN A1.out;obtain⟨A,hA⟩:∃A,A=ar o:=⟨_,rfl⟩;rw[←hA];have hA3:A≤3:=by rw[hA];exact Pm o
   have HA:=Hm hA;clear hA;by_cases hAL:A≤L
   ·obtain⟨m,hm⟩:∃m,L=m+A:=⟨L-A,by omega⟩
    subst hm;have hsub:((m+A:Nat):Int) - (A:Int)=(m:Int):=by omega
    have hneg:decide ((m:Int)<0)=false:=by simp
    have x0:=zb A1.out 0;have x1:=zb A1.out 1;have x2:=zb A1.out 2;simp only[qm,qn,qo]at x0 x1 x2;go_wp2_with fail;refine(Tp o _ (HW.out.below hbA.out) (HO.out.below hbA.out)).mono ?_;rintro e w2 ⟨rfl,hb2⟩;have hbB:=Hm (zn hbA.out hb2);have A2:=Hm (zg A1.out hb2);have R2:=Hm (yg R1.out hb2);have N2:=Hm (N1.out.kept hb2);clear hb2 hbA A1 R1 N1 x0 x1 x2;have z2:=zN A2.out
    cases hop:opB o with
    |false=>
     have hbad:Hid (∀t,stk E n≠some [t]):=Xj hst.out hlt (Or.inl (by rw[←HE.out];exact hop));go_wp2_with fail;go_ret2;exact .no rfl hbad.out hbB.out
    |true=>
     have hnext:Hid (stk E (j+1)=some (s.take m++[mk o (s.drop m)])):=by
      have:=Vc hst.out (by rw[←HE.out];exact hop) (by rw[←HE.out,←HL.out,←HA.out];omega);rw[←HE.out,←HL.out,←HA.out,Nat.add_sub_cancel]at this;exact this
     have hxl:Hid (xs.length=m+A):=by have:=R2.out.1;unfold Hid;omega
     have hopr:Hid (Nds w2 (Value.slice sa (m+A) sc).ownBlock (xs.drop m) (s.drop m)):=N2.out.drop m;have x0:=zb A2.out 0;have x1:=zb A2.out 1;have x2:=zb A2.out 2;simp only[qm,qn,qo]at x0 x1 x2;have q0:(0:Int)≤(m:Int):=by omega
     have q1:(m:Int)≤(sc:Int):=by omega
     have q2:(m:Int)≤(m:Int)+(A:Int):=by omega
     have q3:(m:Int)+(A:Int)≤(sc:Int):=by omega
     go_wp2_with fail;have hbk:Hid (∀g',(Value.slice sa (m+A) sc).ownBlock=some g'→w.heap.size≤g'∧g'<w2.heap.size):=R2.out.lt
     have hneS:some wr.heap.size≠(Value.slice sa (m+A) sc).ownBlock:=fun e=>by
      rcases R2.out.2 with⟨h1,h2⟩|⟨g,scap,cur,h1,h2,h3,h4⟩
      ·rw[h1]at e;cases e
      ·rw[h1]at e
       injection e with e;have h8:=A2.out;rw[e]at h8;have h9:(⟨g,0,none⟩:Addr).block=g:=rfl;rw[h9,h3]at h8;exact absurd (Option.some.inj h8) (fun h=>by injection h with _ h10;exact absurd h10 (by decide))
     have hBw:w.heap.size≤w2.heap.size:=hbB.out.size;have hlow:Hid (∀g',(Value.slice sa m sc).ownBlock=some g'→g'<w2.drew.heap.size):=fun g' h=>(hbk.out g' (by rw[UH sa (m+A) m];exact h)).2
     have hlow2:Hid (∀g',(Value.slice sa m sc).ownBlock=some g'→w.heap.size≤g'):=fun g' h=>(hbk.out g' (by rw[UH sa (m+A) m];exact h)).1
     have hdl:Hid ((xs.drop m).length=A):=by unfold Hid;rw[List.length_drop,hxl.out];omega
     have hTk:=Hm (WI R2.out (show m≤m+A by omega));rcases R2.out.2 with⟨h1,h2⟩|⟨g,scap,cur,h1,h2,h3,h4,h5,h6,h7⟩
     ·injection h1 with g1 g2 g3
      obtain rfl:m=0:=by omega
      obtain rfl:A=0:=by omega
      subst g1;subst g3;clear g2 h2;have hdn:Hid (xs.drop 0=[]):=List.drop_eq_nil_of_le (Nat.le_of_eq hxl.out)
      go_region_held3 (fun w'=>w'.cell? ⟨wr.heap.size,0,none⟩=some (.int .i64 o.k)∧w'.cell? ⟨wr.heap.size,1,none⟩=some (.int .i64 o.v)∧w'.cell? ⟨wr.heap.size,2,none⟩=some (.string ⟨o.n.toArray⟩))
       (first|(have _:=hgrow;(repeat' constructor)<;>exact hgrow.cell (by first|assumption|(simp[*];done)) hneS)|go_keep|((repeat' constructor)<;>exact zB hb3 (by first|assumption|(simp[*];done))))
       ((first|(go_at_call 116;refine(WP o _ _ 0 (xs.drop 0) (s.drop 0) w2.drew hop HA.out hdl.out (Or.inl hdn.out) (Value.slice none 0 0).ownBlock (hopr.out.kept (Below.refl _ _).drew) (by omega) hlow.out).mono ?_;rintro e w3 ⟨nv,rfl,hnv,hb3⟩;obtain⟨nT,nu,rfl⟩:=hnv.form)|(refine yX rfl (.tmp 28) (.tmp 34) 161 rfl w.heap.size 130 i0 .nilIface 1 16 Tryz.underlying161 hi hz0 hz1 hz2 rfl (by decide) (Value.slice none 0 0) 0 (xs.take 0) (by simp[Act.eval,Act.put]) (yg (yg hTk.out (Below.refl _ _).drew) hb3 |>.alloc _) ⟨w3.heap.size,0,none⟩ 1 1 [.iface nT nu] (by simp[Act.eval,Act.put]) rfl (xP w3 _ 130) (by intro u hu;simp only[List.mem_singleton]at hu;rw[hu];exact hnv.one) (by unfold maxLen;omega) (by omega) (by have:=hb3.size;simp at this;simp;omega) ?_;intro vn w7 hown hgrow hblk)))
      have hbZ:=Hm ((zn hbB.out.drew hb3).alloc (zn hbB.out.drew hb3).size (.cells #[.iface nT nu] 130));have hb7:Hid (Below w.heap.size w w7):=hbZ.out.grown hgrow hbZ.out.size hlow2.out;have hN7:=Hm (XD (vn:=vn) ((((N2.out.take 0).kept (Below.refl _ _).drew).kept hb3).kept (Below.alloc (Below.refl _ _) (qp _) (.cells #[.iface nT nu] 130))) (hnv.kept (Below.alloc (Below.refl _ _) (qp _) _)) hgrow hblk)
      have hO7:Hid (w7.ownsRow w.heap.size 130 1 vn (s.take 0++[mk o (s.drop 0)]).length (xs.take 0++[.iface nT nu])):=by
       unfold Hid;rw[qg,List.length_singleton,List.length_take,←HL.out,Nat.min_eq_left (by omega)];exact hown
      clear hb3 hnv hown hgrow hblk hbZ;go_wp2;exact⟨⟨j+1,_,_,by omega,by go_num,hnext,hO7,hN7,hb7⟩,by simp[intOf];omega⟩
     ·injection h1 with g1 g2 g3
      subst g1;subst g3;have hgl:=zN h3;clear h3 h7 h6 g2
      have hAr:Hid (∀i u,(xs.drop m)[i]? =some u→w2.cell? ⟨g,m+i,none⟩=some u):=fun i u hu=>by
       rw[List.getElem?_drop]at hu;have hi:m+i<m+A:=by have:=hxl.out;rw[←this];exact(List.getElem?_eq_some_iff.1 hu).1
       obtain⟨g',c',he,-,-,-,hc⟩:=Zm R2.out (by omega);injection he with he;injection he with he;injection he with he;subst he;exact hc (m+i) u hu
      by_cases hcm:sc=m
      ·obtain rfl:A=0:=by omega
       subst hcm;have hdn:Hid (xs.drop sc=[]):=List.drop_eq_nil_of_le (Nat.le_of_eq hxl.out)
       go_region_held3 (fun w'=>w'.cell? ⟨wr.heap.size,0,none⟩=some (.int .i64 o.k)∧w'.cell? ⟨wr.heap.size,1,none⟩=some (.int .i64 o.v)∧w'.cell? ⟨wr.heap.size,2,none⟩=some (.string ⟨o.n.toArray⟩))
        (first|(have _:=hgrow;(repeat' constructor)<;>exact hgrow.cell (by first|assumption|(simp[*];done)) hneS)|go_keep|((repeat' constructor)<;>exact zB hb3 (by first|assumption|(simp[*];done))))
        ((first|(go_at_call 116;refine(WP o _ _ 0 (xs.drop sc) (s.drop sc) w2.drew hop HA.out hdl.out (Or.inl hdn.out) (Value.slice (some ⟨g,0,none⟩) sc sc).ownBlock (hopr.out.kept (Below.refl _ _).drew) (by omega) hlow.out).mono ?_;rintro e w3 ⟨nv,rfl,hnv,hb3⟩;obtain⟨nT,nu,rfl⟩:=hnv.form)|(refine yX rfl (.tmp 28) (.tmp 34) 161 rfl w.heap.size 130 i0 .nilIface 1 16 Tryz.underlying161 hi hz0 hz1 hz2 rfl (by decide) (Value.slice (some ⟨g,0,none⟩) sc sc) sc (xs.take sc) (by simp[Act.eval,Act.put]) (yg (yg hTk.out (Below.refl _ _).drew) hb3 |>.alloc _) ⟨w3.heap.size,0,none⟩ 1 1 [.iface nT nu] (by simp[Act.eval,Act.put]) rfl (xP w3 _ 130) (by intro u hu;simp only[List.mem_singleton]at hu;rw[hu];exact hnv.one) (by unfold maxLen;omega) (by omega) (by have:=hb3.size;simp at this;simp;omega) ?_;intro vn w7 hown hgrow hblk)))
       have hbZ:=Hm ((zn hbB.out.drew hb3).alloc (zn hbB.out.drew hb3).size (.cells #[.iface nT nu] 130));have hb7:Hid (Below w.heap.size w w7):=hbZ.out.grown hgrow hbZ.out.size hlow2.out;have hN7:=Hm (XD (vn:=vn) ((((N2.out.take sc).kept (Below.refl _ _).drew).kept hb3).kept (Below.alloc (Below.refl _ _) (qp _) (.cells #[.iface nT nu] 130))) (hnv.kept (Below.alloc (Below.refl _ _) (qp _) _)) hgrow hblk)
       have hO7:Hid (w7.ownsRow w.heap.size 130 1 vn (s.take sc++[mk o (s.drop sc)]).length (xs.take sc++[.iface nT nu])):=by
        unfold Hid;rw[qg,List.length_singleton,List.length_take,←HL.out,Nat.min_eq_left (by omega)];exact hown
       clear hb3 hnv hown hgrow hblk hbZ;go_wp2;exact⟨⟨j+1,_,_,by omega,by go_num,hnext,hO7,hN7,hb7⟩,by simp[intOf];omega⟩
      ·go_region_held3 (fun w'=>w'.cell? ⟨wr.heap.size,0,none⟩=some (.int .i64 o.k)∧w'.cell? ⟨wr.heap.size,1,none⟩=some (.int .i64 o.v)∧w'.cell? ⟨wr.heap.size,2,none⟩=some (.string ⟨o.n.toArray⟩))
        (first|(have _:=hgrow;(repeat' constructor)<;>exact hgrow.cell (by first|assumption|(simp[*];done)) hneS)|go_keep|((repeat' constructor)<;>exact zB hb3 (by first|assumption|(simp[*];done))))
        ((first|(go_at_call 116;refine(WP o _ _ A (xs.drop m) (s.drop m) w2.drew hop HA.out hdl.out (Or.inr ⟨g,m,rfl,fun i u hu=>(hAr.out i u hu)⟩) (Value.slice (some ⟨g,0,none⟩) m sc).ownBlock (hopr.out.kept (Below.refl _ _).drew) (by omega) hlow.out).mono ?_;rintro e w3 ⟨nv,rfl,hnv,hb3⟩;obtain⟨nT,nu,rfl⟩:=hnv.form)|(refine yX rfl (.tmp 28) (.tmp 34) 161 rfl w.heap.size 130 i0 .nilIface 1 16 Tryz.underlying161 hi hz0 hz1 hz2 rfl (by decide) (Value.slice (some ⟨g,0,none⟩) m sc) m (xs.take m) (by simp[Act.eval,Act.put]) (yg (yg hTk.out (Below.refl _ _).drew) hb3 |>.alloc _) ⟨w3.heap.size,0,none⟩ 1 1 [.iface nT nu] (by simp[Act.eval,Act.put]) rfl (xP w3 _ 130) (by intro u hu;simp only[List.mem_singleton]at hu;rw[hu];exact hnv.one) (by unfold maxLen;omega) (by omega) (by have:=hb3.size;simp at this;simp;omega) ?_;intro vn w7 hown hgrow hblk)))
       have hbZ:=Hm ((zn hbB.out.drew hb3).alloc (zn hbB.out.drew hb3).size (.cells #[.iface nT nu] 130));have hb7:Hid (Below w.heap.size w w7):=hbZ.out.grown hgrow hbZ.out.size hlow2.out;have hN7:=Hm (XD (vn:=vn) ((((N2.out.take m).kept (Below.refl _ _).drew).kept hb3).kept (Below.alloc (Below.refl _ _) (qp _) (.cells #[.iface nT nu] 130))) (hnv.kept (Below.alloc (Below.refl _ _) (qp _) _)) hgrow hblk)
       have hO7:Hid (w7.ownsRow w.heap.size 130 1 vn (s.take m++[mk o (s.drop m)]).length (xs.take m++[.iface nT nu])):=by
        unfold Hid;rw[qg,List.length_singleton,List.length_take,←HL.out,Nat.min_eq_left (by omega)];exact hown
       clear hb3 hnv hown hgrow hblk hbZ;go_wp2;exact⟨⟨j+1,_,_,by omega,by go_num,hnext,hO7,hN7,hb7⟩,by simp[intOf];omega⟩
   ·have hneg:(L:Int) - (A:Int)<0:=by omega
    have hbad:Hid (∀t,stk E n≠some [t]):=Xj hst.out hlt (Or.inr (by rw[←HE.out,←HL.out,←HA.out];omega));go_wp2_with fail;go_ret2;exact .no rfl hbad.out hbA.out
  ·obtain rfl:j=n:=by omega
   have k1:decide ((j:Int)<(j:Int))=false:=by simp
   by_cases h1:L=1
   ·obtain⟨g,c,he,-,-,-,hc⟩:=Zm hrow.out (by omega)
    injection he with he1 he2 he3;subst he1;subst he3;clear he2;have hxl:xs.length=1:=by have:=hrow.out.1;omega
    have hsl:s.length=1:=by rw[←HL.out];exact h1
    have q0:(0:Int)<(L:Int):=by omega
    have hq:((L:Int)==1)=true:=by simp[h1]
    have hq2:((L:Int)!=1)=false:=by simp[h1]
    clear h1
    match xs,s,hxl,hsl,hc,hnd,hst with
    |[x],[t],_,_,hc,hnd,hst=>
     have c0:wr.cell? ⟨g,0,none⟩=some x:=hc 0 x rfl
     have hx:Hid (Nd wr none x t):=by
      cases hnd.out with
      |cons _ _ _ _ h _=>exact h.free (fun _ _ _=>by simp)
     clear hc hnd hrow hxl hsl;go_wp2;go_ret2;exact .ok x t rfl hst.out hx.out hb.out
   ·have hbad:Hid (∀t,stk E j≠some [t]):=fun t e=>by
     rw[hst.out]at e;have e:=Option.some.inj e;rw[HL.out,e]at h1;exact h1 rfl
    have hq:((L:Int)==1)=false:=by simp;omega
    have hq2:((L:Int)!=1)=true:=by simp;omega
    go_wp2;go_ret2;exact .no rfl hbad.out hb.out
structure XT (w:World):Prop where
 t:Xg w
 o:Uk w
 b:ZT w
theorem XT.below {w w':World} (h:XT w) (hb:Below w.heap.size w w'):XT w':=⟨h.t.below hb,h.o.below hb,h.b.below hb⟩
theorem wellI (E:Nat→Po) (a:Option Addr) (n cap:Nat) (w:World) (hs:zK w a n 3 (fun i=>(E i).cells)) (hn:n≤1000000) (hT:XT w):
  Calls Tryz.prog 113 #[.slice a n cap] w fun e w'=>e=.returned (.bool (yp E n))∧Below w.heap.size w w':=by
 have H:=Hm hs;have HT:=Hm hT;clear hs hT;go_enter Tryz.func113,Tryz.ntmps113;go_wp2_with fail;refine(QU E a n cap _ H.out (by omega) HT.out.t HT.out.o).mono ?_;rintro e w1 (⟨v,t,rfl,hst,hd,hb⟩|⟨rfl,hst,hb⟩)
 ·have HD:=Hm hd
  have HB:=Hm hb;have hi:=Yy hst;have hw:t.wf:=hi.1 t (by simp);have hz:t.sz≤1000000:=by have:=hi.2;simp[szs]at this;omega
  have NO:=Hm (nestOk t hw hz);have hv:Hid (yp E n=decide (t.nst≤64)):=by unfold Hid yp;rw[hst]
  obtain⟨q,hq⟩:∃q,q=t.nst:=⟨_,rfl⟩;have HQ:=Hm hq;rw[←hq]at hv;clear hd hb hi hw hz hst hq;obtain⟨T,u,rfl⟩:=HD.out.form;have D':=HD.out
  cases D'
  all_goals
   go_wp2_with fail;refine(NO.out _ _ _ HD.out (HT.out.b.below HB.out)).mono ?_;rintro e w2 ⟨rfl,hb2⟩;rw[←HQ.out];have HB2:=Hm (zn HB.out hb2);clear hb2;go_wp2;go_ret;rw[hv.out];exact⟨rfl,HB2.out⟩
 ·have HB:=Hm hb
  have hv:Hid (yp E n=false):=by
   unfold Hid yp
   split
   ·rename_i t h;exact absurd h (hst t)
   ·rfl
  clear hb hst;go_wp2;go_ret;rw[hv.out];exact⟨rfl,HB.out⟩
def exB (E:Nat→Po) (n:Nat) (u:Bool):Bool:=if u=true then yp E n else n==0
theorem Xq (E:Nat→Po) (a:Option Addr) (n cap:Nat) (u:Bool) (w:World) (hs:zK w a n 3 (fun i=>(E i).cells)) (hn:n≤1000000) (hT:XT w):
  Calls Tryz.prog 77 #[.slice a n cap,.bool u] w fun e w'=>e=.returned (.bool (exB E n u))∧Below w.heap.size w w':=by
 cases u with
 |true=>
  have hv:Hid (exB E n true=yp E n):=rfl;go_enter Tryz.func77,Tryz.ntmps77;go_wp2_with fail;refine(wellI E a n cap _ hs hn hT).mono ?_;rintro e w1 ⟨rfl,hb⟩;go_wp2;go_ret;rw[hv.out];exact⟨rfl,hb⟩
 |false=>
  have hv:Hid (exB E n false=((n:Int)==0)):=by unfold Hid exB;rw[Bool.eq_iff_iff];simp
  clear hs hT;go_enter Tryz.func77,Tryz.ntmps77;go_wp2;go_ret;rw[hv.out];exact⟨rfl,Below.refl _ _⟩
def nmB (n:List UInt8) (u:Bool):Bool:=if u=true then yj n else n==[]
theorem Ti (n:List UInt8) (u:Bool) (w:World) (hT:Xg w):Calls Tryz.prog 76 #[.string ⟨n.toArray⟩,.bool u] w fun e w'=>e=.returned (.bool (nmB n u))∧w'=w:=by
 cases u with
 |true=>
  have hv:Hid (nmB n true=yj n):=rfl;go_enter Tryz.func76,Tryz.ntmps76;go_wp2_with fail;refine(Xp n _ hT).mono ?_;rintro e w1 ⟨rfl,hb⟩;rw[hb];go_wp2;go_ret;rw[hv.out];exact⟨rfl,rfl⟩
 |false=>
  have hv:Hid (nmB n false=(n==[])):=rfl;clear hT;go_enter Tryz.func76,Tryz.ntmps76;go_wp2;go_ret;rw[hv.out];exact⟨zJ (by cases n<;>rfl),rfl⟩
def zT (x u:Int):Bool:=if u=1 then inR x 0 15 else if u=2 then inR x 0 999999999 else if u=3 then inR x (-999999999) 999999999 else x==0
theorem V5 (x u:Int) (w:World) (h0:0≤u) (h1:u≤3):Calls Tryz.prog 78 #[.int .i64 x,.int .i64 u] w fun e w'=>e=.returned (.bool (zT x u))∧w'=w:=by
 have:u=0∨u=1∨u=2∨u=3:=by omega
 clear h0 h1;rcases this with rfl|rfl|rfl|rfl
 all_goals
  go_enter Tryz.func78,Tryz.ntmps78;go_wp2_with (go_at_call 75;refine(V0 _ _ _ _).mono ?_;rintro e w' ⟨rfl,hw⟩;rw[hw];clear hw);go_ret;exact⟨zJ (by simp[zT]),rfl⟩
structure It where
 (k:Int) (n:List UInt8) (nE nF:Nat) (E F:Nat→Po) (K lo hi:Int)
structure Lo where
 (aE aF:Option Addr) (cE cF:Nat)
def It.cells (i:It) (l:Lo):List Value:=[.int .i64 i.k,.string ⟨i.n.toArray⟩,.slice l.aE i.nE l.cE,.slice l.aF i.nF l.cF,.int .i64 i.K,.int .i64 i.lo,.int .i64 i.hi]
theorem It.len (i:It) (l:Lo):(i.cells l).length=7:=rfl
theorem It.one (i:It) (l:Lo):(i.cells l).toArray.all (·.oneCell')=true:=by simp[It.cells,Value.oneCell']
theorem It.at {w:World} {b o:Nat} {i:It} {l:Lo} (h:w.rangeAt b o (i.cells l)):w.cell? ⟨b,o,none⟩=some (.int .i64 i.k)∧w.cell? ⟨b,o+1,none⟩=some (.string ⟨i.n.toArray⟩)∧w.cell? ⟨b,o+2,none⟩=some (.slice l.aE i.nE l.cE)∧w.cell? ⟨b,o+3,none⟩=some (.slice l.aF i.nF l.cF)∧w.cell? ⟨b,o+4,none⟩=some (.int .i64 i.K)∧w.cell? ⟨b,o+5,none⟩=some (.int .i64 i.lo)∧w.cell? ⟨b,o+6,none⟩=some (.int .i64 i.hi):=
 ⟨h 0 _ rfl,h 1 _ rfl,h 2 _ rfl,h 3 _ rfl,h 4 _ rfl,h 5 _ rfl,h 6 _ rfl⟩
structure Pr where
 (n:Nat) (I:Nat→It)
structure Yu (w:World) (a:Option Addr) (P:Pr) (L:Nat→Lo):Prop where
 s:zK w a P.n 7 (fun i=>(P.I i).cells (L i))
 e:∀i,i<P.n→zK w (L i).aE (P.I i).nE 3 (fun j=>((P.I i).E j).cells)
 f:∀i,i<P.n→zK w (L i).aF (P.I i).nF 3 (fun j=>((P.I i).F j).cells)
theorem Yu.below {w w':World} {a:Option Addr} {P:Pr} {L:Nat→Lo} (h:Yu w a P L) (hb:Below w.heap.size w w'):Yu w' a P L:=⟨h.s.below hb,fun i hi=>(h.e i hi).below hb,fun i hi=>(h.f i hi).below hb⟩
structure Sh where
 (n e f:Bool) (k lo hi:Int)
def Zo:List Sh:=[⟨false,false,false,0,0,0⟩,⟨true,true,false,0,0,0⟩,⟨false,true,false,0,0,0⟩,⟨false,true,false,0,0,0⟩,⟨false,true,false,3,3,3⟩,⟨false,true,true,0,0,0⟩,⟨false,false,false,1,1,0⟩,⟨false,false,false,2,0,0⟩,⟨false,true,false,0,3,3⟩,⟨false,true,false,2,0,0⟩]
def sh (m:Nat):Sh:=Zo.getD m ⟨false,false,false,0,0,0⟩
theorem sh_bd (m:Nat) (h:m<10):0≤(sh m).k∧(sh m).k≤3∧0≤(sh m).lo∧(sh m).lo≤3∧0≤(sh m).hi∧(sh m).hi≤3:=by
 have:m=0∨m=1∨m=2∨m=3∨m=4∨m=5∨m=6∨m=7∨m=8∨m=9:=by omega
 rcases this with rfl|rfl|rfl|rfl|rfl|rfl|rfl|rfl|rfl|rfl<;>decide
def VL (w:World):Prop:=∀m,m<10→w.cell? ⟨1,m*6,none⟩=some (.bool (sh m).n)∧w.cell? ⟨1,m*6+1,none⟩=some (.bool (sh m).e)∧w.cell? ⟨1,m*6+2,none⟩=some (.bool (sh m).f)∧w.cell? ⟨1,m*6+3,none⟩=some (.int .i64 (sh m).k)∧w.cell? ⟨1,m*6+4,none⟩=some (.int .i64 (sh m).lo)∧w.cell? ⟨1,m*6+5,none⟩=some (.int .i64 (sh m).hi)
theorem VL.below {w w':World} (h:VL w) (hb:Below w.heap.size w w'):VL w':=fun m hm=>by
 obtain⟨h0,h1,h2,h3,h4,h5⟩:=h m hm;exact⟨zB hb h0,zB hb h1,zB hb h2,zB hb h3,zB hb h4,zB hb h5⟩
def itB (i:It):Bool:=inR i.k 1 9&&(nmB i.n (sh i.k.toNat).n&&(exB i.E i.nE (sh i.k.toNat).e&&(exB i.F i.nF (sh i.k.toNat).f&&(zT i.K (sh i.k.toNat).k&&(zT i.lo (sh i.k.toNat).lo&&zT i.hi (sh i.k.toNat).hi)))))
end Go.Proofs.YtbkajklninmhiaaGreatDoor.Syn
namespace Go.Proofs.YtbkajklninmhiaaGreatDoor.Syn
open Go Go.RowKit Mem
open Go.Proofs.YtbkajklninmhiaaGreatDoor.Print (Own Zt byteCells_one)
attribute [local go_sem ↓] Go.wp_at_zero Go.wp_at_succ
def Kb (B:Nat) (x v:Value) (w w':World):Prop:=Below B w w'∧Lib.OthersKept 5 none w w'∧w.grownBy w' x.ownBlock∧(v.ownBlock=x.ownBlock∨∃g,v.ownBlock=some g∧w.heap.size≤g)
theorem Kb.refl (B:Nat) (x:Value) (w:World):Kb B x x w w:=⟨Below.refl _ _,Lib.OthersKept.refl _ _ _,⟨rfl,rfl,rfl,qp _,fun _ _ _=>rfl⟩,.inl rfl⟩
theorem Kb.trans {B:Nat} {x v u:Value} {a b c:World} (h:Kb B x v a b) (k:Kb B v u b c):Kb B x u a c:=by
 refine⟨h.1.trans k.1,h.2.1.trans k.2.1,h.2.2.1.andThen k.2.2.1 (fun j hj=>?_),?_⟩
 ·rcases h.2.2.2 with e|⟨g,e,hg⟩
  ·exact .inr (e ▸ hj)
  ·rw[e]at hj;cases hj;exact .inl hg
 ·rcases k.2.2.2 with e|⟨g,e,hg⟩
  ·rw[e];exact h.2.2.2
  ·exact .inr ⟨g,e,qq h.1.size hg⟩
theorem Kb.of {B:Nat} {x:Value} {w w':World} (h:Below w.heap.size w w') (hB:B≤w.heap.size):Kb B x x w w':=
 ⟨h.mono hB,fun k o hk _ _=>by rw[h.block k (zN hk)];exact hk,⟨h.os,h.tape,h.output,h.size,fun k hk _=>h.block k hk⟩,.inl rfl⟩
theorem Kb.alloc {B:Nat} {x v:Value} {a w:World} (h:Kb B x v a w) (hB:B≤w.heap.size) (o:Obj):Kb B x v a (w.alloc o):=h.trans (Kb.of (zd (Below.refl _ _) o) hB)
theorem Kb.drew {B:Nat} {x v:Value} {a w:World} (h:Kb B x v a w):Kb B x v a w.drew:=⟨h.1.drew,h.2.1.drew,⟨h.2.2.1.os,h.2.2.1.tape,h.2.2.1.output,h.2.2.1.size,h.2.2.1.block⟩,h.2.2.2⟩
theorem Kb.blk {B g:Nat} {x v:Value} {w w':World} {cs:Array Value} {t:TypeId} {fr:Nat×Nat} (h:Kb B x v w w') (hb:w.heap[g]? =some (.cells cs t fr)) (ht:t≠5):w'.heap[g]? =some (.cells cs t fr):=
 h.2.1 g _ hb (fun e=>by cases e) (fun c fz e=>by cases e;exact ht rfl)
theorem Kb.far {B g:Nat} {x v:Value} {w w':World} {o:Obj} (h:Kb B x v w w') (hb:w.heap[g]? =some o) (hne:x.ownBlock≠some g):w'.heap[g]? =some o:=by
 rw[h.2.2.1.block g (zN hb) (fun e=>hne e.symm)];exact hb
theorem Own.kindb {B:Nat} {w:World} {v:Value} {bs:List UInt8} (h:Own B w v bs):∀g,v.ownBlock=some g→∃c fz,w.heap[g]? =some (.cells c 5 fz):=by
 intro g hg;rcases h.2 with⟨rfl,-⟩|⟨g',cap,cur,rfl,-,hb,-⟩
 ·simp[Value.ownBlock]at hg
 ·simp[Value.ownBlock]at hg;subst hg;exact⟨cur,_,hb⟩
theorem Own.lt {B:Nat} {w:World} {v:Value} {bs:List UInt8} (h:Own B w v bs) {g:Nat} (hg:v.ownBlock=some g):g<w.heap.size:=by
 obtain⟨c,fz,hb⟩:=Own.kindb h g hg;exact zN hb
theorem Kb.grown {B:Nat} {w w':World} {x v:Value} {bs:List UInt8} (ho:Own B w x bs) (hg:w.grownBy w' x.ownBlock) (hat:v.ownBlock=x.ownBlock∨v.ownBlock=some w.heap.size) (hB:B≤w.heap.size):Kb B x v w w':=by
 refine⟨(Below.refl _ _).grown hg hB (fun k hk=>(World.ownsRow.lt ho k hk).1),fun k o hk _ hne=>?_,hg,hat.imp id fun e=>⟨_,e,qp _⟩⟩;rw[hg.block k (zN hk) (fun e=>?_)]
 ·exact hk
 ·obtain⟨c,fz,h⟩:=Own.kindb ho k e.symm
  rw[hk]at h;exact hne c fz (Option.some.inj h)
theorem str_at {w w':World} {B:Nat} {t u ty e:TypeId} {i:TypeInfo} (ht:Tryz.prog.underlying t=some (.slice e)) (hu:Tryz.prog.underlying u=some .string) (hi:Tryz.prog.info? e=some i) (hz:i.zero=some (.int .u8 0)) (hsize:i.size=1) (hby:i.bytes=1)
  {v v':Value} {n:Nat} {xs:List Value} (hown:w.ownsRow B e 1 v n xs) {s:ByteArray} (hb:n+s.size≤140737488355328) (hr:(Builtin.append_ #[t,u] ty #[v,.string s]).run Tryz.prog w=.ok v' w'):
  v'.ownBlock=v.ownBlock∨v'.ownBlock=some w.heap.size:=by
 have hxl:xs.length=n:=by simpa using hown.1
 rcases hown.2 with⟨rfl,rfl⟩|⟨g,cap,cur,rfl,hbg,hg,hnc,hcm,hcs,htake⟩
 ·by_cases hm:s.size=0
  ·have hf:=Lib.run_firstCells_string (P:=Tryz.prog) w 1 s
   rw[hm]at hf;simp[Builtin.append_,run_underlying ht,run_underlying hu,sizeOf,typeInfo,hi,hsize,Builtin.lenOf,hm,hf]at hr;exact .inl (by rw[←hr.1])
  ·rw[run_append_nil_string (P:=Tryz.prog) w t u ty e i (.int .u8 0) ht hu hi hz s (by omega) (by omega) (by rw[hby];omega)]at hr
   cases hr
   exact .inr rfl
 ·by_cases hroom:n+s.size≤cap
  ·have hcz:cur.size=cap:=by simpa using hcs
   rw[Lib.run_append_room_string (P:=Tryz.prog) w t u ty e i ht hu hi hsize g n cap cur hg s hroom (by omega)]at hr
   cases hr
   exact .inl rfl
  ·rw[Lib.run_append_grow_string (P:=Tryz.prog) w t u ty e i (.int .u8 0) ht hu hi hz ⟨g,0,none⟩ n cap xs (by rw[hsize];simpa using hxl) (hown.cells (g:=g) rfl) s (by omega) (by omega) (by rw[hby];exact growslice_fits (by omega) (by omega))]at hr
   cases hr
   exact .inr rfl
theorem Nd.oth {B:Nat} {w w':World} {x y v:Value} {t:Tr} (h:Nd w none v t) (hk:Kb B x y w w'):Nd w' none v t:=by
 have cell:∀{g o:Nat} {u:Value},Nk w g→w.cell? ⟨g,o,none⟩=some u→w'.cell? ⟨g,o,none⟩=some u:=fun hn hc=>by
  obtain⟨C,fr,hb⟩:=hn;rw[World.cell?_of_block (a:=⟨_,_,none⟩) ((hk.blk hb (by decide)).trans hb.symm)];exact hc
 have nk:∀{g:Nat},Nk w g→Nk w' g:=fun hn=>by obtain⟨C,fr,hb⟩:=hn;exact⟨C,fr,hk.blk hb (by decide)⟩
 induction h with
 |leaf o=>exact .leaf o
 |pre o v a h ih=>exact .pre o v a ih
 |bin o v u a b h h' ih ih'=>exact .bin o v u a b ih ih'
 |two o g off c v u a b hr hn c1 c2 h h' ih ih'=>exact .two o g off c v u a b hr (nk hn) (cell hn c1) (cell hn c2) ih ih'
 |three o g off c v u x a b d hr hn c1 c2 c3 h h' h'' ih ih' ih''=>exact .three o g off c v u x a b d hr (nk hn) (cell hn c1) (cell hn c2) (cell hn c3) ih ih' ih''
def Y0 (B:Nat) (w:World):Prop:=∀w',Below B w w'→XT w'
theorem Y0.on {B:Nat} {w w1:World} (h:Y0 B w) (hb:Below B w w1):Y0 B w1:=fun w' h'=>h w' (hb.trans h')
theorem Y0.now {B:Nat} {w:World} (h:Y0 B w):XT w:=h w (Below.refl _ _)
theorem WJ {B m n:Nat} {w:World} {v:Value} {bs cs:List UInt8} (hm:m=bs.length) (hn:n=cs.length) (h:w.ownsRow B 5 1 v (m+n) (Lib.byteCells bs++Lib.byteCells cs)):Own B w v (bs++cs):=by
 subst hm hn;unfold Own;rw[qg,Lib.byteCells_append];exact h
theorem zw {B:Nat} {w w':World} {v:Value} {bs:List UInt8} (h:Own B w v bs) (hb:Below w.heap.size w w'):Own B w' v bs:=yg h hb
theorem xA {w:World} {o:Oper} {a:Act} {K:Act→World→Prop} {Q:Exit→Act→World→Prop} (sl x:Operand)
  (ho:o.op=.call {callee:=.builtin .append,args:=#[sl,x],argTypes:=#[22,9]})
  (B:Nat) (v:Value) (bs:List UInt8) (hs:a.eval sl=v) (hown:Own B w v bs) (s:List UInt8) (hx:a.eval x=.string ⟨s.toArray⟩) (hB:B≤w.heap.size) (hl:bs.length+s.length≤1000000000)
  (h:∀v' w',Own B w' v' (bs++s)→Kb B v v' w w'→K (a.put o.dst v') w'):o.wp Tryz.prog a w K Q:=by
 obtain⟨i0,hi,hz0,hz1,hz2⟩:=info_parts Zt;have hsz:(⟨s.toArray⟩:ByteArray).size=s.length:=by simp[ByteArray.size]
 obtain⟨v',w',hr,h2,h3,h4⟩:=Lib.run_append_own_string (P:=Tryz.prog) w B 22 9 o.type 5 i0 Tryz.underlying22 Tryz.underlying9 hi hz0 hz1 hz2 v bs.length (Lib.byteCells bs) hown ⟨s.toArray⟩ (by rw[hsz];unfold maxLen;omega) (by rw[hsz];omega) hB;unfold Oper.wp execOp;simp only[ho,resolve,invoke,builtin,Sem.run_bind,Sem.run_pure,Result.andThen_ok,List.map_toArray,List.map_cons,List.map_nil,hs,hx,hr];exact h v' w' (WJ rfl hsz (by rw[Lib.strCells_toArray]at h2;exact h2)) (Kb.grown hown h3 (str_at Tryz.underlying22 Tryz.underlying9 hi hz0 hz1 hz2 hown (by rw[hsz];omega) hr) hB)
theorem zQ {w:World} {ops:Array Oper} {rest:List Oper} {o:Oper} {a:Act} {Q:Exit→Act→World→Prop} (hgd:o.guard=none) (sl x:Operand)
  (ho:o.op=.call {callee:=.builtin .append,args:=#[sl,x],argTypes:=#[22,9]})
  (B:Nat) (v:Value) (bs:List UInt8) (hs:a.eval sl=v) (hown:Own B w v bs) (s:List UInt8) (hx:a.eval x=.string ⟨s.toArray⟩) (hB:B≤w.heap.size) (hl:bs.length+s.length≤1000000000)
  (h:∀v' w',Own B w' v' (bs++s)→Kb B v v' w w'→wpList Tryz.prog ops Q rest (a.put o.dst v') w'):wpList Tryz.prog ops Q (o::rest) a w:=
 wpList_plain hgd fun K hK=>xA sl x ho B v bs hs hown s hx hB hl fun v' w' h1 h2=>hK _ _ (h v' w' h1 h2)
theorem ZU {w:World} {o:Oper} {a:Act} {K:Act→World→Prop} {Q:Exit→Act→World→Prop} (sl x:Operand)
  (ho:o.op=.call {callee:=.builtin .append,args:=#[sl,x],argTypes:=#[22,22]})
  (B:Nat) (v:Value) (bs:List UInt8) (hs:a.eval sl=v) (hown:Own B w v bs) (g c:Nat) (hx:a.eval x=.slice (some ⟨g,0,none⟩) 1 c) (b:UInt8) (hc:w.cell? ⟨g,0,none⟩=some (.int .u8 (b.toNat:Int))) (hB:B≤w.heap.size) (hl:bs.length≤1000000000)
  (h:∀v' w',Own B w' v' (bs++[b])→Kb B v v' w w'→K (a.put o.dst v') w'):o.wp Tryz.prog a w K Q:=by
 obtain⟨i0,hi,hz0,hz1,hz2⟩:=info_parts Zt
 obtain⟨v',w',hr,h2,h3,-,h5⟩:=run_append_own_at (P:=Tryz.prog) w B 22 o.type 5 i0 (.int .u8 0) 1 1 Tryz.underlying22 hi hz0 hz1 hz2 rfl (by decide) v bs.length (Lib.byteCells bs) hown ⟨g,0,none⟩ 1 c (Lib.byteCells [b]) rfl (fun j u hj=>by
  have h0:j=0:=by
   have:=(List.getElem?_eq_some_iff.1 hj).1;simp[Lib.byteCells]at this;exact this
  subst h0;simp[Lib.byteCells]at hj;subst hj;rw[Addr.add_mid]
  exact hc) (byteCells_one _) (by unfold maxLen;omega) (by omega) hB
 unfold Oper.wp execOp;simp only[ho,resolve,invoke,builtin,Sem.run_bind,Sem.run_pure,Result.andThen_ok,List.map_toArray,List.map_cons,List.map_nil,hs,hx,hr];exact h v' w' (WJ rfl rfl h2) (Kb.grown hown h3 h5 hB)
theorem zX {w:World} {ops:Array Oper} {rest:List Oper} {o:Oper} {a:Act} {Q:Exit→Act→World→Prop} (hgd:o.guard=none) (sl x:Operand)
  (ho:o.op=.call {callee:=.builtin .append,args:=#[sl,x],argTypes:=#[22,22]})
  (B:Nat) (v:Value) (bs:List UInt8) (hs:a.eval sl=v) (hown:Own B w v bs) (g c:Nat) (hx:a.eval x=.slice (some ⟨g,0,none⟩) 1 c) (b:UInt8) (hc:w.cell? ⟨g,0,none⟩=some (.int .u8 (b.toNat:Int))) (hB:B≤w.heap.size) (hl:bs.length≤1000000000)
  (h:∀v' w',Own B w' v' (bs++[b])→Kb B v v' w w'→wpList Tryz.prog ops Q rest (a.put o.dst v') w'):wpList Tryz.prog ops Q (o::rest) a w:=
 wpList_plain hgd fun K hK=>ZU sl x ho B v bs hs hown g c hx b hc hB hl fun v' w' h1 h2=>hK _ _ (h v' w' h1 h2)
end Go.Proofs.YtbkajklninmhiaaGreatDoor.Syn
