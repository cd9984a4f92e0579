import Derived.Test.YtbdldkpifanaiaaDoorCr06
set_option maxHeartbeats 6400000
set_option maxRecDepth 100000
set_option linter.unusedVariables false
set_option linter.unusedSimpArgs false
open List renaming length_append → qg, getElem?_toArray → qk, getElem?_cons_zero → ql, getElem?_cons_succ → qm
open Nat renaming le_refl → qn
namespace Go.Proofs.YtbdldkpifanaiaaDoor.Syn
open Go Go.RowKit Mem
attribute [local go_sem ↓] Go.wp_at_zero Go.wp_at_succ
theorem sz_le {l:List Tr} {i:Nat} (h:i<l.length):(l.getD i default).sz≤szs l:=by
 induction l generalizing i with
 |nil=>simp at h
 |cons t r ih=>
  cases i with
  |zero=>simp[szs]
  |succ i=>have:=ih (i:=i) (by simpa using h);simp only[szs,List.map_cons,List.sum_cons,List.getD_cons_succ]at*;omega
theorem Yx (w:World) (x y z:Value) (t:TypeId):∀j u,[x,y,z][j]? =some u→(w.alloc (.cells #[x,y,z] t)).cell? ((⟨w.heap.size,0,none⟩:Addr).add j)=some u:=fun j u h=>by
 rw[Addr.add_mid,Nat.zero_add,za (zi w _) j];simpa using h
theorem wrap_small (x:Int) (h0:0≤x) (h1:x≤1000000000):IntKind.i64.wrap x=x:=by rw[IntKind.wrap_i64];omega
inductive FoldP (w w':World) (E:Nat→Po) (n:Nat) (e:Ending):Prop
 |ok (t:Tr) (he:e=.returned (.tuple #[.bool true,.agg #[.int .i64 t.str,.int .i64 t.nst,.slice none 0 0]])) (hs:stk E n=some [t]) (hb:Below w.heap.size w w'):FoldP w w' E n e
 |no (he:e=.returned (.tuple #[.bool false,.agg #[.int .i64 0,.int .i64 0,.slice none 0 0]])) (hs:∀t,stk E n≠some [t]) (hb:Below w.heap.size w w'):FoldP w w' E n e
theorem zV {w:World} {B n c:Nat} {e:TypeId} {a:Option Addr} {l:List Tr} (h:w.ownsRow B e 3 (.slice a n c) n (yi l)) (hn:n=l.length):zq w a n 3 (fun i=>yn (l.getD i default)):=by
 rcases h.2 with⟨h1,h2⟩|⟨g,cap,cur,h1,h2,h3,h4,h5,h6,h7⟩
 ·exact Or.inl h2
 ·injection h1 with g1 g2 g3
  rw[g1,hn];refine Wf (fun j u hu=>?_);rw[Nat.zero_add,za h3 j];rw[←h7,List.getElem?_take]at hu
  split at hu
  ·rw[←Array.getElem?_toList];exact hu
  ·cases hu
theorem Vi {w:World} {B n m c:Nat} {e:TypeId} {a:Option Addr} {l:List Tr} (h:w.ownsRow B e 3 (.slice a n c) n (yi l)) (hm:m≤n) (hn:n=l.length):w.ownsRow B e 3 (.slice a m c) m (yi (l.take m)):=by
 refine⟨by rw[XC,List.length_take];omega,?_⟩;rcases h.2 with⟨h1,h2⟩|⟨g,cap,cur,h1,h2,h3,h4,h5,h6,h7⟩
 ·injection h1 with e1 e2 e3
  left;obtain rfl:m=0:=by omega
  exact⟨by rw[e1,e3],rfl⟩
 ·injection h1 with e1 e2 e3
  right;refine⟨g,cap,cur,by rw[e1,e3],h2,h3,by omega,h5,h6,?_⟩;have:List.take (m*3) cur.toList=(List.take (n*3) cur.toList).take (m*3):=by rw[List.take_take,Nat.min_eq_left (by omega)]
  rw[this,h7,WZ]
theorem Ys {w:World} {B n g c:Nat} {e:TypeId} {xs:List Value} (h:w.ownsRow B e 3 (.slice (some ⟨g,0,none⟩) n c) n xs):∀j u,xs[j]? =some u→w.cell? ⟨g,j,none⟩=some u:=fun j u hu=>by
 rcases h.2 with⟨h1,h2⟩|⟨g',cap,cur,h1,h2,h3,h4,h5,h6,h7⟩
 ·cases h1
 ·injection h1 with g1
  injection g1 with g1;injection g1 with g1;rw[g1,za h3 j];rw[←h7,List.getElem?_take]at hu
  split at hu
  ·rw[←Array.getElem?_toList];exact hu
  ·cases hu
theorem foldS (E:Nat→Po) (a:Option Addr) (n cap:Nat) (w:World) (hs:zq w a n 3 (fun i=>(E i).cells)) (hn:n≤1000000):
  Calls Tryd.prog 88 #[.slice a n cap,.bool false] w fun e w'=>FoldP w w' E n e:=by
 obtain⟨i0,hi,hz0,hz1,hz2⟩:=info_parts infoVl;have H:=Hm hs;clear hs;go_enter Tryd.func88,Tryd.ntmps88;go_wp2;go_loopw [6,7] (fun v i wr=>∃(j:Nat) (s:List Tr),j≤n∧i=.int .i64 (j:Int)∧Hid (stk E j=some s)∧Hid (wr.ownsRow (w.heap.size+1) 126 3 v s.length (yi s))∧Hid (∃g,v.ownBlock=some g)∧Hid (wr.heap[w.heap.size]? =some (.cells #[.int .i64 0,.int .i64 0,.slice none 0 0] 126))∧Hid (Below w.heap.size w wr)) (fun _ i _=>n- (intOf i).toNat)
 case atStart=>
  refine⟨0,[],Nat.zero_le _,rfl,rfl,?_,⟨_,rfl⟩,?_,?_⟩
  ·have:=World.ownsRow_made (w.alloc (.cells #[.int .i64 0,.int .i64 0,.slice none 0 0] 126)) (base:=w.heap.size+1) (e:=126) (size:=3) #[] 0 (by simp) (by unfold maxLen;omega) (by simp)
   simp only[World.size_alloc]at this;exact this
  ·exact zh (zi w _) _
  ·unfold Hid;go_grown
 case round=>
  obtain⟨j,s,hj,rfl,hst,hrow,hsome,hres,hb⟩:=hrel;obtain⟨sa,sc,hv,hsc⟩:=ya hrow.out;rw[hv]at hrow hsome ⊢;clear hv;have hlen:=WA hst.out;obtain⟨L,hL⟩:∃L,L=s.length:=⟨_,rfl⟩;rw[←hL]at hrow hsc hlen hsome;rw[←hL];have HL:=Hm hL;clear hL;by_cases hlt:j<n
  ·rcases H.out with h0|⟨b,off,rfl,h0⟩
   ·omega
   have HE:Hid (∀W,Below w.heap.size w W→W.cell? ⟨b,off+j*3,none⟩=some (.int .i64 (E j).k)∧W.cell? ⟨b,off+j*3+1,none⟩=some (.int .i64 (E j).v)∧W.cell? ⟨b,off+j*3+2,none⟩=some (.string ⟨(E j).n.toArray⟩)):=fun W hW=>Po.at (zt (h0 j hlt) hW)
   clear h0;have k0:(0:Int)≤(j:Int):=by omega
   have k1:(j:Int)<(n:Int):=by omega
   obtain⟨o,ho⟩:∃o,o=E j:=⟨_,rfl⟩;rw[←ho]at HE;have HO:=Hm ho;clear ho;obtain⟨e0,e1,e2⟩:=HE.out _ hb.out;go_wp2_with fail;clear e0 e1 e2;refine(Ti o _).mono ?_;rintro e w1 ⟨rfl,hb1⟩;have B1:=Hm (zg hb.out hb1);have R1:=Hm (yj hrow.out hb1);have S1:=Hm (ze hres.out hb1);clear hb1 hb hrow hres
   cases hop:opB o with
   |false=>
    have hbad:Hid (∀t,stk E n≠some [t]):=WB hst.out hlt (Or.inl (by rw[←HO.out];exact hop));have r0:=za S1.out 0;have r1:=za S1.out 1;have r2:=za S1.out 2;have g0:=zb S1.out 0;have g1:=zb S1.out 1;have g2:=zb S1.out 2;simp only[qk,ql,qm]at r0 r1 r2;go_wp2;obtain⟨Z,hZ⟩:∃Z:World,Z=((w1.setCell ⟨w.heap.size,0,none⟩ (.int .i64 0)).setCell ⟨w.heap.size,1,none⟩ (.int .i64 0)).setCell ⟨w.heap.size,2,none⟩ (.slice none 0 0):=⟨_,rfl⟩;rw[←hZ];obtain⟨s0,s1,s2⟩:=xu (show Z.heap[w.heap.size]? =some (.cells #[.int .i64 0,.int .i64 0,.slice none 0 0] 126) by rw[hZ];exact yP S1.out)
    have HZB:Below w.heap.size w Z:=by rw[hZ];exact zy (zy (zy B1.out _ (by simp) _) _ (by simp) _) _ (by simp) _
    clear hZ;refine bodyPost_ret (v:=.tuple #[.bool false,.agg #[.int .i64 0,.int .i64 0,.slice none 0 0]]) (by simp[results,Tryd.results88,go_sem,s0,s1,s2];try rfl) rfl ?_;exact .no rfl hbad.out HZB
   |true=>
    obtain⟨e0,e1,e2⟩:=HE.out _ B1.out;go_wp2_with fail;clear e0 e1 e2;refine(Wy o _ hop).mono ?_;rintro e w2 ⟨rfl,hb2⟩;have B2:=Hm (zg B1.out hb2);have R2:=Hm (yj R1.out hb2);have S2:=Hm (ze S1.out hb2);clear hb2 B1 R1 S1;obtain⟨A,hA⟩:∃A,A=ar o:=⟨_,rfl⟩;rw[←hA];have hA3:A≤3:=by rw[hA];exact Wc o
    have HA:=Hm hA;clear hA;by_cases hAL:(L:Int)<(A:Int)
    ·have hbad:Hid (∀t,stk E n≠some [t]):=WB hst.out hlt (Or.inr (by rw[←HO.out,←HL.out,←HA.out];omega))
     have r0:=za S2.out 0;have r1:=za S2.out 1;have r2:=za S2.out 2;have g0:=zb S2.out 0;have g1:=zb S2.out 1;have g2:=zb S2.out 2;simp only[qk,ql,qm]at r0 r1 r2;go_wp2;obtain⟨Z,hZ⟩:∃Z:World,Z=((w2.setCell ⟨w.heap.size,0,none⟩ (.int .i64 0)).setCell ⟨w.heap.size,1,none⟩ (.int .i64 0)).setCell ⟨w.heap.size,2,none⟩ (.slice none 0 0):=⟨_,rfl⟩;rw[←hZ];obtain⟨s0,s1,s2⟩:=xu (show Z.heap[w.heap.size]? =some (.cells #[.int .i64 0,.int .i64 0,.slice none 0 0] 126) by rw[hZ];exact yP S2.out);have HZB:Below w.heap.size w Z:=by rw[hZ];exact zy (zy (zy B2.out _ (by simp) _) _ (by simp) _) _ (by simp) _
     clear hZ;refine bodyPost_ret (v:=.tuple #[.bool false,.agg #[.int .i64 0,.int .i64 0,.slice none 0 0]]) (by simp[results,Tryd.results88,go_sem,s0,s1,s2];try rfl) rfl ?_;exact .no rfl hbad.out HZB
    ·have hALd:decide ((L:Int)<(A:Int))=false:=by simpa using hAL
     obtain⟨m,hm⟩:∃m,L=m+A:=⟨L-A,by omega⟩;subst hm;clear hAL
     have hnext:Hid (stk E (j+1)=some (s.take m++[mk o (s.drop m)])):=by
      have:=XJ hst.out (by rw[←HO.out];exact hop) (by rw[←HO.out,←HL.out,←HA.out];omega);rw[←HO.out,←HL.out,←HA.out,Nat.add_sub_cancel]at this;exact this
     have hdl:Hid ((s.drop m).length=A):=by unfold Hid;rw[List.length_drop,←HL.out];omega
     have hmc:Hid (yn (mk o (s.drop m))=[.int .i64 (xx o),.int .i64 (apN o (fun i=>(s.drop m).getD i default) A),.slice none 0 0]):=by
      have:=Uf (l:=s.drop m) hop (by rw[hdl.out];exact HA.out);rw[hdl.out]at this;exact this
     obtain⟨q,hq⟩:∃q,q=apN o (fun i=>(s.drop m).getD i default) A:=⟨_,rfl⟩;rw[←hq]at hmc
     have hszs:Hid (∀i,i<A→((s.drop m).getD i default).sz≤1000000):=fun i hi=>by
      have h1:=(Xq hst.out).2;have h2:szs (s.take m)+szs (s.drop m)=szs s:=by rw[←Xo,List.take_append_drop]
      have h3:((s.drop m).getD i default).sz≤szs (s.drop m):=sz_le (by rw[hdl.out];exact hi);omega
     have AS:Hid (∀(a3:Option Addr) (c3:Nat) (W:World),zq W a3 A 3 (fun i=>yn ((s.drop m).getD i default))→Calls Tryd.prog 91 #[.agg #[.int .i64 o.k,.int .i64 o.v,.string ⟨o.n.toArray⟩],.slice a3 A c3,.bool false] W fun e w'=>e=.returned (.agg #[.int .i64 (xx o),.int .i64 q,.slice none 0 0])∧Below W.heap.size W w'):=fun a3 c3 W h=>by rw[hq];exact applyS o _ A a3 c3 W h hA3 hszs.out
     clear hq
     obtain⟨g,rfl⟩:∃g,sa=some ⟨g,0,none⟩:=by
      rcases R2.out.2 with⟨h1,h2⟩|⟨g,cc,cur,h1,-⟩
      ·obtain⟨g',hg'⟩:=hsome.out;rw[h1]at hg';cases hg'
      ·injection h1 with h1;exact⟨g,h1⟩
     have hTk:=Hm (Vi R2.out (show m≤m+A by omega) HL.out)
     have hcl:Hid (∀p u,(yi (s.drop m))[p]? =some u→w2.cell? ⟨g,m*3+p,none⟩=some u):=fun q u hu=>by
      refine Ys R2.out (m*3+q) u ?_;rw[←W0,List.getElem?_drop]at hu;exact hu
     have hsub:((m+A:Nat):Int) - (A:Int)=(m:Int):=by omega
     have hw1:IntKind.i64.wrap (((m+A:Nat):Int) - (A:Int))=(m:Int):=by rw[hsub];exact wrap_small _ (by omega) (by omega)
     have hw2:IntKind.i64.wrap ((m:Int)+(A:Int) - (A:Int))=(m:Int):=by rw[show(m:Int)+(A:Int) - (A:Int)=(m:Int) by omega];exact wrap_small _ (by omega) (by omega)
     have hw3:IntKind.i64.wrap (m:Int)=(m:Int):=wrap_small _ (by omega) (by omega);have q0:(0:Int)≤(m:Int):=by omega
     have q1:(m:Int)≤(sc:Int):=by omega
     have q2:(m:Int)≤(m:Int)+(A:Int):=by omega
     have q3:(m:Int)+(A:Int)≤(sc:Int):=by omega
     have hempty:Hid ((w2.alloc (.cells #[] 126)).ownsRow w2.heap.size 126 3 (.slice (some ⟨w2.heap.size,0,none⟩) 0 0) 0 []):=World.ownsRow_made w2 #[] 0 (qn _) (by unfold maxLen;omega) (by simp);have hvl:Hid ((yi (s.drop m)).length=A*3):=by unfold Hid;rw[XC,hdl.out]
     have hcl2:Hid (∀p u,(yi (s.drop m))[p]? =some u→w2.cell? ⟨g,m*3+p,none⟩=some u):=hcl;by_cases hcm:sc=m
     ·obtain rfl:A=0:=by omega
      subst hcm
      have hcl2:Hid (∀p u,(yi (s.drop sc))[p]? =some u→w2.cell? ⟨g,0+p,none⟩=some u):=fun q u hu=>by
       have:=(List.getElem?_eq_some_iff.1 hu).1;rw[hvl.out]at this;omega
      go_wp2_with (at_builtin;refine wpList_append_own _ rfl _ _ 130 rfl w2.heap.size 126 i0 (.agg #[.int .i64 0,.int .i64 0,.slice none 0 0]) 3 40 Tryd.underlying130 hi hz0 hz1 hz2 rfl (by decide) _ _ _ rfl hempty.out ⟨g,0,none⟩ 0 0 (yi (s.drop sc)) rfl hvl.out (fun q u hu=>by rw[Addr.add_mid];exact zw (by go_grown) (hcl2.out q u hu)) (XB _) (by unfold maxLen;omega) (by omega) (by simp) ?_);intro v3 w3 hown3 hgrow3 _;obtain⟨a3,c3,rfl,-⟩:=ya hown3;have hbX:Hid (Below w2.heap.size w2 w3):=((Below.refl _ _).alloc (qn _) _).grown hgrow3 (by simp) (fun k hk=>(hempty.out.lt k hk).1);have B3:=Hm (zg B2.out hbX.out);have T3:=Hm (yj hTk.out hbX.out);have S3:=Hm (ze S2.out hbX.out);have hsl:=Hm (zV (l:=s.drop sc) (by simpa using hown3) hdl.out.symm)
      clear hown3 hgrow3 hempty hbX B2 R2 S2 hTk hcl hcl2;refine Hid.out ?_;refine Lib.hid ?_;obtain⟨e0,e1,e2⟩:=HE.out _ B3.out;go_wp2_with fail;have hz3:=B3.out.size
      have hneB:some b≠(Value.slice (some ⟨g,0,none⟩) sc sc).ownBlock:=fun e=>by
       injection e with e;have h1:=lt_of_cell ((HE.out _ (Below.refl _ _)).1);have h2:=(T3.out.lt g rfl).1;have h3:b=g:=e;omega
      go_region_held3 (fun w'=>w'.cell? ⟨b,off+j*3,none⟩=some (.int .i64 o.k)∧w'.cell? ⟨b,off+j*3+1,none⟩=some (.int .i64 o.v)∧w'.cell? ⟨b,off+j*3+2,none⟩=some (.string ⟨o.n.toArray⟩))
       (first|(have _:=hgrow;(repeat' constructor)<;>exact hgrow.cell (by first|assumption|(simp[*];done)) hneB)|go_keep|((repeat' constructor)<;>exact zw hb4 (by first|assumption|(simp[*];done))))
       ((first|(go_at_call 91;refine(AS.out a3 c3 w3.drew hsl.out).mono ?_;rintro e w4 ⟨rfl,hb4⟩)|(refine zm rfl (.tmp 47) (.tmp 55) 130 rfl (w.heap.size+1) 126 i0 (.agg #[.int .i64 0,.int .i64 0,.slice none 0 0]) 3 40 Tryd.underlying130 hi hz0 hz1 hz2 rfl (by decide) (.slice (some ⟨g,0,none⟩) sc sc) sc (yi (s.take sc)) (by simp[Act.eval,Act.put]) ((yj (yj T3.out (Below.refl _ _).drew) hb4).alloc _) ⟨w4.heap.size,0,none⟩ 1 1 [.int .i64 (xx o),.int .i64 q,.slice none 0 0] (by simp[Act.eval,Act.put]) rfl (Yx w4 _ _ _ 126) (by intro u hu;simp only[List.mem_cons,List.not_mem_nil,or_false]at hu;rcases hu with rfl|rfl|rfl<;>rfl) (by unfold maxLen;omega) (by omega) (by have:=hb4.size;simp at this;simp;omega) ?_;intro vn w7 hown hgrow hblk)))
      have hbZ:=Hm ((zg B3.out.drew hb4).alloc (zg B3.out.drew hb4).size (.cells #[.int .i64 (xx o),.int .i64 q,.slice none 0 0] 126));have hb7:Hid (Below w.heap.size w w7):=hbZ.out.grown hgrow hbZ.out.size (fun k hk=>by have:=(T3.out.lt k hk).1;omega)
      have S7:Hid (w7.heap[w.heap.size]? =some (.cells #[.int .i64 0,.int .i64 0,.slice none 0 0] 126)):=by
       have h1:=zh (ze (ze S3.out (Below.refl _ _).drew) hb4) (.cells #[.int .i64 (xx o),.int .i64 q,.slice none 0 0] 126);unfold Hid;rw[hgrow.block _ (zu h1) (fun e=>by have:=(T3.out.lt w.heap.size e.symm).1;omega)];exact h1
      have hO7:Hid (w7.ownsRow (w.heap.size+1) 126 3 vn (s.take sc++[mk o (s.drop sc)]).length (yi (s.take sc++[mk o (s.drop sc)]))):=by
       unfold Hid;rw[qg,List.length_singleton,List.length_take,←HL.out,Nat.min_eq_left (by omega),XD,show yi [mk o (s.drop sc)]=yn (mk o (s.drop sc)) by simp[yi],hmc.out];exact hown
      have hs7:Hid (∃g,vn.ownBlock=some g):=by
       rcases hblk with h|h
       ·exact⟨g,h⟩
       ·exact⟨_,h⟩
      clear hb4 hown hgrow hblk hbZ T3 S3 B3 e0 e1 e2;go_wp2;exact⟨⟨j+1,_,by omega,by go_num,hnext,hO7,hs7,S7,hb7⟩,by simp[intOf];omega⟩
     ·go_wp2_with (at_builtin;refine wpList_append_own _ rfl _ _ 130 rfl w2.heap.size 126 i0 (.agg #[.int .i64 0,.int .i64 0,.slice none 0 0]) 3 40 Tryd.underlying130 hi hz0 hz1 hz2 rfl (by decide) _ _ _ rfl hempty.out ⟨g,m*3,none⟩ A (sc-m) (yi (s.drop m)) rfl hvl.out (fun q u hu=>by rw[Addr.add_mid];exact zw (by go_grown) (hcl2.out q u hu)) (XB _) (by unfold maxLen;omega) (by omega) (by simp) ?_)
      intro v3 w3 hown3 hgrow3 _;obtain⟨a3,c3,rfl,-⟩:=ya hown3;have hbX:Hid (Below w2.heap.size w2 w3):=((Below.refl _ _).alloc (qn _) _).grown hgrow3 (by simp) (fun k hk=>(hempty.out.lt k hk).1);have B3:=Hm (zg B2.out hbX.out);have T3:=Hm (yj hTk.out hbX.out);have S3:=Hm (ze S2.out hbX.out);have hsl:=Hm (zV (l:=s.drop m) (by simpa using hown3) hdl.out.symm);clear hown3 hgrow3 hempty hbX B2 R2 S2 hTk hcl hcl2;refine Hid.out ?_;refine Lib.hid ?_;obtain⟨e0,e1,e2⟩:=HE.out _ B3.out;go_wp2_with fail;have hz3:=B3.out.size
      have hneB:some b≠(Value.slice (some ⟨g,0,none⟩) m sc).ownBlock:=fun e=>by
       injection e with e;have h1:=lt_of_cell ((HE.out _ (Below.refl _ _)).1);have h2:=(T3.out.lt g rfl).1;have h3:b=g:=e;omega
      go_region_held3 (fun w'=>w'.cell? ⟨b,off+j*3,none⟩=some (.int .i64 o.k)∧w'.cell? ⟨b,off+j*3+1,none⟩=some (.int .i64 o.v)∧w'.cell? ⟨b,off+j*3+2,none⟩=some (.string ⟨o.n.toArray⟩))
       (first|(have _:=hgrow;(repeat' constructor)<;>exact hgrow.cell (by first|assumption|(simp[*];done)) hneB)|go_keep|((repeat' constructor)<;>exact zw hb4 (by first|assumption|(simp[*];done))))
       ((first|(go_at_call 91;refine(AS.out a3 c3 w3.drew hsl.out).mono ?_;rintro e w4 ⟨rfl,hb4⟩)|(refine zm rfl (.tmp 47) (.tmp 55) 130 rfl (w.heap.size+1) 126 i0 (.agg #[.int .i64 0,.int .i64 0,.slice none 0 0]) 3 40 Tryd.underlying130 hi hz0 hz1 hz2 rfl (by decide) (.slice (some ⟨g,0,none⟩) m sc) m (yi (s.take m)) (by simp[Act.eval,Act.put]) ((yj (yj T3.out (Below.refl _ _).drew) hb4).alloc _) ⟨w4.heap.size,0,none⟩ 1 1 [.int .i64 (xx o),.int .i64 q,.slice none 0 0] (by simp[Act.eval,Act.put]) rfl (Yx w4 _ _ _ 126) (by intro u hu;simp only[List.mem_cons,List.not_mem_nil,or_false]at hu;rcases hu with rfl|rfl|rfl<;>rfl) (by unfold maxLen;omega) (by omega) (by have:=hb4.size;simp at this;simp;omega) ?_;intro vn w7 hown hgrow hblk)))
      have hbZ:=Hm ((zg B3.out.drew hb4).alloc (zg B3.out.drew hb4).size (.cells #[.int .i64 (xx o),.int .i64 q,.slice none 0 0] 126));have hb7:Hid (Below w.heap.size w w7):=hbZ.out.grown hgrow hbZ.out.size (fun k hk=>by have:=(T3.out.lt k hk).1;omega)
      have S7:Hid (w7.heap[w.heap.size]? =some (.cells #[.int .i64 0,.int .i64 0,.slice none 0 0] 126)):=by
       have h1:=zh (ze (ze S3.out (Below.refl _ _).drew) hb4) (.cells #[.int .i64 (xx o),.int .i64 q,.slice none 0 0] 126);unfold Hid;rw[hgrow.block _ (zu h1) (fun e=>by have:=(T3.out.lt w.heap.size e.symm).1;omega)];exact h1
      have hO7:Hid (w7.ownsRow (w.heap.size+1) 126 3 vn (s.take m++[mk o (s.drop m)]).length (yi (s.take m++[mk o (s.drop m)]))):=by
       unfold Hid;rw[qg,List.length_singleton,List.length_take,←HL.out,Nat.min_eq_left (by omega),XD,show yi [mk o (s.drop m)]=yn (mk o (s.drop m)) by simp[yi],hmc.out];exact hown
      have hs7:Hid (∃g,vn.ownBlock=some g):=by
       rcases hblk with h|h
       ·exact⟨g,h⟩
       ·exact⟨_,h⟩
      clear hb4 hown hgrow hblk hbZ T3 S3 B3 e0 e1 e2;go_wp2;exact⟨⟨j+1,_,by omega,by go_num,hnext,hO7,hs7,S7,hb7⟩,by simp[intOf];omega⟩
  ·obtain rfl:j=n:=by omega
   have k1:decide ((j:Int)<(j:Int))=false:=by simp
   by_cases h1:L=1
   ·have hsl:s.length=1:=by rw[←HL.out];exact h1
    have q0:(0:Int)<(L:Int):=by omega
    have hq:((L:Int)==1)=true:=by simp[h1]
    have hq2:((L:Int)!=1)=false:=by simp[h1]
    obtain⟨g,rfl⟩:∃g,sa=some ⟨g,0,none⟩:=by
     rcases hrow.out.2 with⟨h1,h2⟩|⟨g,cc,cur,h1,-⟩
     ·obtain⟨g',hg'⟩:=hsome.out;rw[h1]at hg';cases hg'
     ·injection h1 with h1;exact⟨g,h1⟩
    have hcc:=Ys hrow.out;clear h1
    match s,hsl,hcc,hst with
    |[t],_,hcc,hst=>
     have c0:wr.cell? ⟨g,0,none⟩=some (.int .i64 t.str):=hcc 0 _ rfl;have c1:wr.cell? ⟨g,1,none⟩=some (.int .i64 t.nst):=hcc 1 _ rfl;have c2:wr.cell? ⟨g,2,none⟩=some (.slice none 0 0):=hcc 2 _ rfl;clear hcc hsl hrow hsome;have r0:=za hres.out 0;have r1:=za hres.out 1;have r2:=za hres.out 2;have g0:=zb hres.out 0;have g1:=zb hres.out 1;have g2:=zb hres.out 2;simp only[qk,ql,qm]at r0 r1 r2;go_wp2;go_region;obtain⟨Z,hZ⟩:∃Z:World,Z=(((wr.setCell ⟨w.heap.size,0,none⟩ (.int .i64 t.str)).setCell ⟨w.heap.size,1,none⟩ (.int .i64 t.nst)).setCell ⟨w.heap.size,2,none⟩ (.slice none 0 0)).drew:=⟨_,rfl⟩;rw[←hZ]
     obtain⟨s0,s1,s2⟩:=xu (show Z.heap[w.heap.size]? =some (.cells #[.int .i64 t.str,.int .i64 t.nst,.slice none 0 0] 126) by rw[hZ];exact yP hres.out);have HZB:Hid (Below w.heap.size w Z):=by unfold Hid;rw[hZ];exact(zy (zy (zy hb.out _ (by simp) _) _ (by simp) _) _ (by simp) _).drew
     clear hZ r0 r1 r2 g0 g1 g2 c0 c1 c2;go_wp2;refine bodyPost_ret (v:=.tuple #[.bool true,.agg #[.int .i64 t.str,.int .i64 t.nst,.slice none 0 0]]) (by simp[results,Tryd.results88,go_sem,s0,s1,s2];try rfl) rfl ?_;exact .ok t rfl hst.out HZB.out
   ·have hbad:Hid (∀t,stk E j≠some [t]):=fun t e=>by
     rw[hst.out]at e;have e:=Option.some.inj e;rw[HL.out,e]at h1;exact h1 rfl
    have hq:((L:Int)==1)=false:=by simp;omega
    have hq2:((L:Int)!=1)=true:=by simp;omega
    have r0:=za hres.out 0;have r1:=za hres.out 1;have r2:=za hres.out 2;have g0:=zb hres.out 0;have g1:=zb hres.out 1;have g2:=zb hres.out 2;simp only[qk,ql,qm]at r0 r1 r2;go_wp2;obtain⟨Z,hZ⟩:∃Z:World,Z=((wr.setCell ⟨w.heap.size,0,none⟩ (.int .i64 0)).setCell ⟨w.heap.size,1,none⟩ (.int .i64 0)).setCell ⟨w.heap.size,2,none⟩ (.slice none 0 0):=⟨_,rfl⟩;rw[←hZ];obtain⟨s0,s1,s2⟩:=xu (show Z.heap[w.heap.size]? =some (.cells #[.int .i64 0,.int .i64 0,.slice none 0 0] 126) by rw[hZ];exact yP hres.out);have HZB:Below w.heap.size w Z:=by rw[hZ];exact zy (zy (zy hb.out _ (by simp) _) _ (by simp) _) _ (by simp) _
    clear hZ;refine bodyPost_ret (v:=.tuple #[.bool false,.agg #[.int .i64 0,.int .i64 0,.slice none 0 0]]) (by simp[results,Tryd.results88,go_sem,s0,s1,s2];try rfl) rfl ?_;exact .no rfl hbad.out HZB
end Go.Proofs.YtbdldkpifanaiaaDoor.Syn
