import Derived.Test.YtbdldkpifanaiaaDoorCr05
set_option maxHeartbeats 3200000
set_option maxRecDepth 100000
set_option linter.unusedVariables false
set_option linter.unusedSimpArgs false
open List renaming length_append → qg, length_cons → qh, length_nil → qi, getElem?_toArray → qk, getElem?_cons_zero → ql, getElem?_cons_succ → qm
open Nat renaming le_refl → qn
namespace Go.Proofs.YtbdldkpifanaiaaDoor.Syn
open Go Go.RowKit Mem
attribute [local go_sem ↓] Go.wp_at_zero Go.wp_at_succ
def yn (t:Tr):List Value:=[.int .i64 t.str,.int .i64 t.nst,.slice none 0 0]
def wn (o:Po) (ts:Nat→Tr) (i:Nat):Int:=if wrp o i (ts i).str=true then (ts i).nst+1 else (ts i).nst
def mxw (o:Po) (ts:Nat→Tr):Nat→Int
 |0=>0
 |n+1=>if mxw o ts n<wn o ts n then wn o ts n else mxw o ts n
theorem Tw (o:Po) (ts:Nat→Tr) (i:Nat) (h:(ts i).sz≤1000000):0≤wn o ts i∧wn o ts i≤2000001:=by
 have:=xF (ts i);unfold wn;split<;>omega
theorem Ue (o:Po) (ts:Nat→Tr) (n:Nat) (h:∀i,i<n→(ts i).sz≤1000000):0≤mxw o ts n∧mxw o ts n≤2000001:=by
 induction n with
 |zero=>simp[mxw]
 |succ n ih=>
  have:=ih (fun i hi=>h i (by omega));have:=Tw o ts n (h n (by omega));unfold mxw
  split<;>omega
def apN (o:Po) (ts:Nat→Tr) (N:Nat):Int:=if N=0 then 0 else if o.k=9 then mxw o ts N else mxw o ts N+1
theorem zl {w w':World} {g:Nat} {C:Array Value} {t e:TypeId} {fr:Nat×Nat} {v:Value} {B n s:Nat} {xs:List Value} (hg:w.grownBy w' v.ownBlock) (hrow:w.ownsRow B e s v n xs) (hb:w.heap[g]? =some (.cells C t fr)) (hne:t≠e):w'.heap[g]? =some (.cells C t fr):=by
 rw[hg.block g (zu hb) ?_]
 ·exact hb
 ·intro e1
  rcases hrow.2 with⟨h0,-⟩|⟨g',cap,cur,h1,h2,h3,h4⟩
  ·rw[h0]at e1;cases e1
  ·rw[h1]at e1
   injection e1 with e1;have e2:g=g':=e1;rw[e2,h3]at hb;injection hb with hb;injection hb with _ h5;exact hne h5.symm
theorem VL {w:World} {B s n r i:Nat} {v u:Value} {e t:TypeId} {xs:List Value} {C:Array Value} {fr:Nat×Nat} (h:w.ownsRow B e s v n xs) (hx:w.heap[r]? =some (.cells C t fr)) (hne:e≠t):(w.setCell ⟨r,i,none⟩ u).ownsRow B e s v n xs:=by
 refine⟨h.1,?_⟩;rcases h.2 with h0|⟨g,cap,cur,h1,h2,h3,h4⟩
 ·exact Or.inl h0
 ·refine Or.inr ⟨g,cap,cur,h1,h2,zd h3 ?_ _,h4⟩
  intro e1;have e2:g=r:=e1;rw[e2,hx]at h3;injection h3 with h3;injection h3 with _ h5;exact hne h5.symm
theorem yP {w:World} {g:Nat} {x y z a b c:Value} {t:TypeId} (h:w.heap[g]? =some (.cells #[x,y,z] t)):(((w.setCell ⟨g,0,none⟩ a).setCell ⟨g,1,none⟩ b).setCell ⟨g,2,none⟩ c).heap[g]? =some (.cells #[a,b,c] t):=by
 have:=zk (zk (zk h 0 a) 1 b) 2 c;simpa using this
theorem xu {w:World} {g:Nat} {x y z:Value} {t:TypeId} (h:w.heap[g]? =some (.cells #[x,y,z] t)):w.cell? ⟨g,0,none⟩=some x∧w.cell? ⟨g,1,none⟩=some y∧w.cell? ⟨g,2,none⟩=some z:=by
 have h0:=za h 0;have h1:=za h 1;have h2:=za h 2;simp only[qk,ql,qm]at h0 h1 h2;exact⟨h0,h1,h2⟩
theorem applyS (o:Po) (ts:Nat→Tr) (N:Nat) (a:Option Addr) (c:Nat) (w:World) (hs:zq w a N 3 (fun i=>yn (ts i))) (hN:N≤3) (hsz:∀i,i<N→(ts i).sz≤1000000):
  Calls Tryd.prog 91 #[.agg #[.int .i64 o.k,.int .i64 o.v,.string ⟨o.n.toArray⟩],.slice a N c,.bool false] w fun e w'=>e=.returned (.agg #[.int .i64 (xx o),.int .i64 (apN o ts N),.slice none 0 0])∧Below w.heap.size w w':=by
 obtain⟨i0,hi,hz0,hz1,hz2⟩:=info_parts Uo;obtain⟨i1,hi1,hy0,hy1,hy2⟩:=info_parts infoSl;have H:=Hm hs;have HZ:=Hm hsz;clear hs hsz;obtain⟨S,hS⟩:∃S,S=xx o:=⟨_,rfl⟩;have SC:Hid (∀W:World,Calls Tryd.prog 93 #[.agg #[.int .i64 o.k,.int .i64 o.v,.string ⟨o.n.toArray⟩]] W fun e w'=>e=.returned (.int .i64 S)∧Below W.heap.size W w'):=fun W=>by rw[hS];exact YW o W
 rw[←hS];clear hS;go_enter Tryd.func91,Tryd.ntmps91;go_wp2_with fail;refine(SC.out _).mono ?_;rintro e w1 ⟨rfl,hb1⟩;have HB1:=Hm (zg (w:=w) (by go_grown) hb1);have P1:=Hm (ze (zh (zi w _) _) hb1);have R1:=Hm (ze (zx w _ _) hb1);clear hb1 SC;have z1:=zu R1.out;by_cases h0:N=0
 ·have hq:((N:Int)==0)=true:=by simp[h0]
  have hv:Hid (apN o ts N=0):=by unfold Hid apN;rw[if_pos h0]
  clear h0;have r0:=za R1.out 0;have r1:=za R1.out 1;have r2:=za R1.out 2;have q0:=zb R1.out 0;have q1:=zb R1.out 1;have q2:=zb R1.out 2;simp only[qk,ql,qm]at r0 r1 r2;go_wp2;obtain⟨Z,hZ⟩:∃Z:World,Z=((((w1.setCell ⟨w.heap.size+1,0,none⟩ (.int .i64 S)).setCell ⟨w.heap.size+1,1,none⟩ (.int .i64 0)).setCell ⟨w.heap.size+1,2,none⟩ (.slice none 0 0)).alloc (.cells #[.int .i64 S,.int .i64 0,.slice none 0 0] 126)):=⟨_,rfl⟩;rw[←hZ];obtain⟨s0,s1,s2⟩:=xu (show Z.heap[w.heap.size+1]? =some (.cells #[.int .i64 S,.int .i64 0,.slice none 0 0] 126) by rw[hZ];exact zh (yP R1.out) _)
  have HZB:Below w.heap.size w Z:=by rw[hZ];exact(zy (zy (zy HB1.out _ (by simp) _) _ (by simp) _) _ (by simp) _).alloc (by have:=HB1.out.size;simp[World.setCell];omega) _
  clear hZ;refine bodyPost_ret (v:=.agg #[.int .i64 S,.int .i64 0,.slice none 0 0]) (by simp[results,Tryd.results91,go_sem,s0,s1,s2];try rfl) rfl ⟨by rw[hv.out],HZB⟩
 have hq:((N:Int)==0)=false:=by simp;omega
 have n0:0<N:=by omega
 go_wp2_with fail;obtain⟨z,hz⟩:∃z,z=w1.heap.size:=⟨_,rfl⟩;have h2:Hid (∃W,W=(w1.alloc (.cells #[.int .i64 S,.int .i64 0,.slice none 0 0] 126)).alloc (.cells #[] 22)):=⟨_,rfl⟩;obtain⟨W,hW⟩:=h2.out;have W1:Hid (W.heap[w1.heap.size]? =some (.cells #[.int .i64 S,.int .i64 0,.slice none 0 0] 126)):=by unfold Hid;rw[hW];exact zh (zi w1 _) _
 have W2:Hid (W.ownsRow w.heap.size 22 1 (.slice (some ⟨w1.heap.size+1,0,none⟩) 0 0) 0 []):=by
  unfold Hid;rw[hW];have:=World.ownsRow_made (w1.alloc (.cells #[.int .i64 S,.int .i64 0,.slice none 0 0] 126)) (base:=w.heap.size) (e:=22) (size:=1) #[] 0 (by have:=HB1.out.size;simp;omega) (by unfold maxLen;omega) (by simp);simpa using this
 have W3:=Hm (show W.heap[w.heap.size]? =some (.cells #[.int .i64 o.k,.int .i64 o.v,.string ⟨o.n.toArray⟩] 97) by rw[hW];exact zh (zh P1.out _) _);have W4:=Hm (show W.heap[w.heap.size+1]? =some (.cells #[.int .i64 0,.int .i64 0,.slice none 0 0] 126) by rw[hW];exact zh (zh R1.out _) _);have W5:Hid (Below w.heap.size w W):=by unfold Hid;rw[hW];exact zf (zf HB1.out _) _
 rw[←hW];clear hW h2 hz HB1 P1 R1;obtain⟨z,hz⟩:∃z,z=w1.heap.size:=⟨_,rfl⟩;have hzw:w.heap.size+1<z:=by rw[hz];exact z1
 clear z1;go_loopw [8,9] (fun tv i wr=>∃(j:Nat) (ys:List Value),j≤N∧i=.int .i64 (j:Int)∧Hid (wr.ownsRow w.heap.size 22 1 tv j ys)∧Hid (wr.heap[w1.heap.size]? =some (.cells #[.int .i64 S,.int .i64 (mxw o ts j),.slice none 0 0] 126))∧Hid (wr.heap[w.heap.size]? =some (.cells #[.int .i64 o.k,.int .i64 o.v,.string ⟨o.n.toArray⟩] 97))∧Hid (wr.heap[w.heap.size+1]? =some (.cells #[.int .i64 0,.int .i64 0,.slice none 0 0] 126))∧Hid (Below w.heap.size w wr)) (fun _ i _=>N- (intOf i).toNat)
 case atStart=>exact⟨0,[],Nat.zero_le _,rfl,W2,W1,W3,W4,W5⟩
 case round=>
  clear W1 W2 W3 W4 W5;obtain⟨j,ys,hj,rfl,ho,hout,hop,hres,hb⟩:=hrel;by_cases hlt:j<N
  ·rcases H.out with h0|⟨b,off,rfl,h0⟩
   ·omega
   have hcl:=zt (h0 j hlt) hb.out;have e0:wr.cell? ⟨b,off+j*3,none⟩=some (.int .i64 (ts j).str):=hcl 0 _ rfl;have e1:wr.cell? ⟨b,off+j*3+1,none⟩=some (.int .i64 (ts j).nst):=hcl 1 _ rfl;have e2:wr.cell? ⟨b,off+j*3+2,none⟩=some (.slice none 0 0):=hcl 2 _ rfl;clear hcl h0;have k0:(0:Int)≤(j:Int):=by omega
   have k1:(j:Int)<(N:Int):=by omega
   have p0:=za hop.out 0;have p1:=za hop.out 1;have p2:=za hop.out 2;simp only[qk,ql,qm]at p0 p1 p2;have hsz:=HZ.out j hlt;have hnb:=xF (ts j);have hmb:=Ue o ts j (fun i hi=>HZ.out i (by omega));obtain⟨n,hn⟩:∃n,n=(ts j).nst:=⟨_,rfl⟩;obtain⟨u,hu⟩:∃u,u=(ts j).str:=⟨_,rfl⟩;obtain⟨M,hM⟩:∃M,M=mxw o ts j:=⟨_,rfl⟩;have hwn:Hid (wn o ts j=if wrp o j u=true then n+1 else n):=by unfold Hid wn;rw[hu,hn]
   have hmx:Hid (mxw o ts (j+1)=if M<wn o ts j then wn o ts j else M):=by unfold Hid;rw[hM];rfl
   rw[←hn]at e1 hnb;rw[←hu]at e0;rw[←hM]at hmb hout;clear hn hu hM;obtain⟨nb0,nb1⟩:0≤n∧n≤2000000:=by omega
   obtain⟨mb0,mb1⟩:=hmb;clear hnb hsz;go_wp2_with fail
   go_region_held3 (fun w'=>w'.cell? ⟨w.heap.size,0,none⟩=some (.int .i64 o.k)∧w'.cell? ⟨w.heap.size,1,none⟩=some (.int .i64 o.v)∧w'.cell? ⟨w.heap.size,2,none⟩=some (.string ⟨o.n.toArray⟩)∧w'.cell? ⟨b,off+j*3,none⟩=some (.int .i64 u))
    (first|go_keep|((repeat' constructor)<;>exact zw hb2 (by first|assumption|(simp[*];done))))
    ((go_at_call 95;refine(Vx o j u wr.drew (by omega)).mono ?_;rintro e w2 ⟨rfl,hb2⟩))
   have hbd:=Hm (zg (Below.refl wr.heap.size wr).drew hb2);have B2:=Hm (zg hb.out hbd.out);have O2:=Hm (yj ho.out hbd.out);have U2:=Hm (ze hout.out hbd.out);have P2:=Hm (ze hop.out hbd.out);have R2:=Hm (ze hres.out hbd.out);clear hb2 hbd hb ho hout hop hres e0 e1 e2 p0 p1 p2;obtain⟨ta,tc,htv,htc⟩:=ya O2.out;rw[htv]at O2;rw[htv];clear htv;have hwz:=zu P2.out;go_upto_if 50 with fail;go_cut [10,11] (fun nv xv wx=>∃(xa:Option Addr) (xn xc:Nat),nv=.int .i64 (wn o ts j)∧xv=.slice xa xn xc∧Hid (Below w2.heap.size w2 wx))
   case first=>
    cases hw:wrp o j u with
    |false=>
     have hv:Hid (wn o ts j=n):=by unfold Hid;rw[hwn.out,hw];rfl
     go_wp2_with fail;go_meet;exact⟨none,0,0,by rw[hv.out],rfl,Below.refl _ _⟩
    |true=>
     have hv:Hid (wn o ts j=n+1):=by unfold Hid;rw[hwn.out,hw];rfl
     have cv:=VJ (P:=Tryd.prog) (w2.alloc (.cells #[.int .u8 40] 5)) 22 5 w2.heap.size #[.int .u8 40] (0,0) 1 1 Tryd.underlying22 Tryd.underlying5 (zi _ _);obtain⟨fr,hfr⟩:=Ww (zi w2 (.cells #[.int .u8 40] 5)) ⟨w2.heap.size,1,none⟩ 1;have hbf:Hid (Below w2.heap.size w2 ((w2.alloc (.cells #[.int .u8 40] 5)).freeze ⟨w2.heap.size,1,none⟩ 1)):=below_freeze ((Below.refl _ _).alloc (qn _) _) _ _ _ (qn _)
     have CS:=Hm (catS (some ⟨w2.heap.size,0,none⟩) none 1 0 1 0 [.int .u8 40] [] ((w2.alloc (.cells #[.int .u8 40] 5)).freeze ⟨w2.heap.size,1,none⟩ 1) rfl rfl (Or.inr ⟨w2.heap.size,0,rfl,fun j u hu=>by rw[Nat.zero_add,za hfr j];simpa using hu⟩) (Or.inl ⟨rfl,rfl⟩) (by intro u hu;simp only[List.mem_singleton]at hu;rw[hu];rfl) (by intro u hu;cases hu) (by omega) (by omega) (by intro h;cases h) (fun _=>rfl));clear hfr;go_wp2_with fail;refine CS.out.mono ?_;rintro e w3 ⟨v3,rfl,ho3,hb3⟩;obtain⟨va,vc,rfl,hvc⟩:=ya ho3;have O3:=Hm ho3;have B3:=Hm (zg hbf.out hb3);have hz3:=hb3.size;rw[xU,World.size_alloc]at hz3
     have O3':Hid (w3.ownsRow w2.heap.size 5 1 (.slice va (1+0) vc) (1+0) ([.int .u8 40]++[])):=by
      refine⟨ho3.1,?_⟩;rcases ho3.2 with h|⟨g,cap,cur,q1,q2,q3⟩
      ·exact Or.inl h
      ·exact Or.inr ⟨g,cap,cur,q1,by rw[xU,World.size_alloc]at q2;omega,q3⟩
     clear ho3 hb3 cv CS hbf O3;go_wp2_with (at_builtin;refine wpList_append_own _ rfl _ _ 22 rfl w2.heap.size 5 i0 (.int .u8 0) 1 1 Tryd.underlying22 hi hz0 hz1 hz2 rfl (by decide) _ _ _ rfl (O3'.out.alloc _) ⟨w3.heap.size,0,none⟩ 1 1 [.int .u8 41] rfl rfl (ZB w3 _ 5) (by intro u hu;simp only[List.mem_singleton]at hu;rw[hu];rfl) (by unfold maxLen;omega) (by omega) (by simp;omega) ?_);intro v4 w4 hown4 hgrow4 _;obtain⟨xa,xc,rfl,-⟩:=ya hown4;have B4:Hid (Below w2.heap.size w2 w4):=(B3.out.alloc B3.out.size _).grown hgrow4 (by simp;omega) (fun k hk=>(O3'.out.lt k hk).1);clear hown4 hgrow4 O3' B3;refine Hid.out ?_;refine Lib.hid ?_;go_wp2_with fail;go_meet;exact⟨xa,_,xc,by rw[hv.out],rfl,B4.out⟩
   case rest=>
    obtain⟨xa,xn,xc,rfl,rfl,hbx⟩:=hcut;have hq0:=Tw o ts j (HZ.out j hlt);obtain⟨q,hq⟩:∃q,q=wn o ts j:=⟨_,rfl⟩;rw[←hq]at hmx hq0;rw[←hq];obtain⟨q0,q1⟩:=hq0;clear hq hwn;have B3:=Hm (zg B2.out hbx.out);have O3:=Hm (yj O2.out hbx.out);have U3:=Hm (ze U2.out hbx.out);have P3:=Hm (ze P2.out hbx.out);have R3:=Hm (ze R2.out hbx.out);clear hbx B2 O2 U2 P2 R2 hwz;have x1:=za U3.out 1;have y1:=zb U3.out 1;simp only[qk,ql,qm]at x1;by_cases hm:M<q
    ·have hv:Hid (mxw o ts (j+1)=q):=by unfold Hid;rw[hmx.out,if_pos hm]
     go_upto_region 17 with fail;clear x1 y1;obtain⟨Z,hZ⟩:∃Z:World,Z=wc.setCell ⟨w1.heap.size,1,none⟩ (.int .i64 q):=⟨_,rfl⟩;rw[←hZ]
     have UZ:Hid (Z.heap[w1.heap.size]? =some (.cells #[.int .i64 S,.int .i64 (mxw o ts (j+1)),.slice none 0 0] 126)):=by
      unfold Hid;rw[hZ,hv.out];have:=zk U3.out 1 (.int .i64 q);simpa using this
     have PZ:Hid (Z.heap[w.heap.size]? =some (.cells #[.int .i64 o.k,.int .i64 o.v,.string ⟨o.n.toArray⟩] 97)):=by
      unfold Hid;rw[hZ];exact zd P3.out (by show w.heap.size≠w1.heap.size;omega) _
     have RZ:Hid (Z.heap[w.heap.size+1]? =some (.cells #[.int .i64 0,.int .i64 0,.slice none 0 0] 126)):=by
      unfold Hid;rw[hZ];exact zd R3.out (by show w.heap.size+1≠w1.heap.size;omega) _
     have OZ:Hid (Z.ownsRow w.heap.size 22 1 (.slice ta j tc) j ys):=by
      unfold Hid;rw[hZ];exact VL O3.out U3.out (by decide)
     have BZ:Hid (Below w.heap.size w Z):=by unfold Hid;rw[hZ];exact zy B3.out _ (by show w.heap.size≤w1.heap.size;omega) _
     clear hZ U3 P3 R3 O3 B3 hv hmx;go_wp2_with (at_builtin;refine wpList_append_own _ rfl _ _ 135 rfl w.heap.size 22 i1 (.slice none 0 0) 1 24 Tryd.underlying135 hi1 hy0 hy1 hy2 rfl (by decide) _ _ _ rfl (OZ.out.alloc _) ⟨Z.heap.size,0,none⟩ 1 1 [.slice xa xn xc] rfl rfl (ZB Z _ 22) (by intro u hu;simp only[List.mem_singleton]at hu;rw[hu];rfl) (by unfold maxLen;omega) (by omega) (by have:=BZ.out.size;simp;omega) ?_);intro v4 w4 hown4 hgrow4 _;have U4:=Hm (zl hgrow4 (OZ.out.alloc _) (zh UZ.out _) (by decide));have P4:=Hm (zl hgrow4 (OZ.out.alloc _) (zh PZ.out _) (by decide));have R4:=Hm (zl hgrow4 (OZ.out.alloc _) (zh RZ.out _) (by decide));have B4:Hid (Below w.heap.size w w4):=(BZ.out.alloc BZ.out.size _).grown hgrow4 (by have:=BZ.out.size;simp;omega) (fun k hk=>(OZ.out.lt k hk).1)
     have O4:=Hm hown4;clear hown4 hgrow4 OZ UZ PZ RZ BZ;refine Hid.out ?_;refine Lib.hid ?_;go_wp2;exact⟨⟨j+1,_,by omega,by go_num,O4,U4,P4,R4,B4⟩,by simp[intOf];omega⟩
    ·have hv:Hid (mxw o ts (j+1)=M):=by unfold Hid;rw[hmx.out,if_neg hm]
     have hmd:decide (M<q)=false:=by simpa using hm
     go_upto_region 17 with fail;clear x1 y1;obtain⟨Z,hZ⟩:∃Z:World,Z=wc:=⟨_,rfl⟩;rw[←hZ]
     have UZ:Hid (Z.heap[w1.heap.size]? =some (.cells #[.int .i64 S,.int .i64 (mxw o ts (j+1)),.slice none 0 0] 126)):=by
      unfold Hid;rw[hZ,hv.out];exact U3.out
     have PZ:Hid (Z.heap[w.heap.size]? =some (.cells #[.int .i64 o.k,.int .i64 o.v,.string ⟨o.n.toArray⟩] 97)):=by unfold Hid;rw[hZ];exact P3.out
     have RZ:Hid (Z.heap[w.heap.size+1]? =some (.cells #[.int .i64 0,.int .i64 0,.slice none 0 0] 126)):=by unfold Hid;rw[hZ];exact R3.out
     have OZ:Hid (Z.ownsRow w.heap.size 22 1 (.slice ta j tc) j ys):=by unfold Hid;rw[hZ];exact O3.out
     have BZ:Hid (Below w.heap.size w Z):=by unfold Hid;rw[hZ];exact B3.out
     clear hZ U3 P3 R3 O3 B3 hv hmx;go_wp2_with (at_builtin;refine wpList_append_own _ rfl _ _ 135 rfl w.heap.size 22 i1 (.slice none 0 0) 1 24 Tryd.underlying135 hi1 hy0 hy1 hy2 rfl (by decide) _ _ _ rfl (OZ.out.alloc _) ⟨Z.heap.size,0,none⟩ 1 1 [.slice xa xn xc] rfl rfl (ZB Z _ 22) (by intro u hu;simp only[List.mem_singleton]at hu;rw[hu];rfl) (by unfold maxLen;omega) (by omega) (by have:=BZ.out.size;simp;omega) ?_);intro v4 w4 hown4 hgrow4 _;have U4:=Hm (zl hgrow4 (OZ.out.alloc _) (zh UZ.out _) (by decide));have P4:=Hm (zl hgrow4 (OZ.out.alloc _) (zh PZ.out _) (by decide));have R4:=Hm (zl hgrow4 (OZ.out.alloc _) (zh RZ.out _) (by decide));have B4:Hid (Below w.heap.size w w4):=(BZ.out.alloc BZ.out.size _).grown hgrow4 (by have:=BZ.out.size;simp;omega) (fun k hk=>(OZ.out.lt k hk).1)
     have O4:=Hm hown4;clear hown4 hgrow4 OZ UZ PZ RZ BZ;refine Hid.out ?_;refine Lib.hid ?_;go_wp2;exact⟨⟨j+1,_,by omega,by go_num,O4,U4,P4,R4,B4⟩,by simp[intOf];omega⟩
  ·obtain rfl:j=N:=by omega
   have k1:decide ((j:Int)<(j:Int))=false:=by simp
   have hmb:=Ue o ts j HZ.out;obtain⟨M,hM⟩:∃M,M=mxw o ts j:=⟨_,rfl⟩;have hap:Hid (apN o ts j=if o.k=9 then M else M+1):=by unfold Hid apN;rw[if_neg (by omega),hM]
   rw[←hM]at hout hmb;clear hM;obtain⟨mb0,mb1⟩:=hmb;have p0:=za hop.out 0;have o0:=za hout.out 0;have o1:=za hout.out 1;have o2:=za hout.out 2;have f1:=zb hout.out 1;have r0:=za hres.out 0;have r1:=za hres.out 1;have r2:=za hres.out 2;have g0:=zb hres.out 0;have g1:=zb hres.out 1;have g2:=zb hres.out 2;simp only[qk,ql,qm]at p0 o0 o1 o2 r0 r1 r2;by_cases h9:o.k=9
   ·have hv:Hid (apN o ts j=M):=by unfold Hid;rw[hap.out,if_pos h9]
    have q9:(o.k==9)=true:=by simpa using h9
    have q9':(o.k !=9)=false:=by simpa using h9
    clear h9 hap;go_wp2;obtain⟨Z,hZ⟩:∃Z:World,Z=((wr.setCell ⟨w.heap.size+1,0,none⟩ (.int .i64 S)).setCell ⟨w.heap.size+1,1,none⟩ (.int .i64 M)).setCell ⟨w.heap.size+1,2,none⟩ (.slice none 0 0):=⟨_,rfl⟩;rw[←hZ];obtain⟨s0,s1,s2⟩:=xu (show Z.heap[w.heap.size+1]? =some (.cells #[.int .i64 S,.int .i64 M,.slice none 0 0] 126) by rw[hZ];exact yP hres.out);have HZB:Below w.heap.size w Z:=by rw[hZ];exact zy (zy (zy hb.out _ (by simp) _) _ (by simp) _) _ (by simp) _
    clear hZ;refine bodyPost_ret (v:=.agg #[.int .i64 S,.int .i64 M,.slice none 0 0]) (by simp[results,Tryd.results91,go_sem,s0,s1,s2];try rfl) rfl ⟨by rw[hv.out],HZB⟩
   ·have hv:Hid (apN o ts j=M+1):=by unfold Hid;rw[hap.out,if_neg h9]
    have q9:(o.k==9)=false:=by simpa using h9
    have q9':(o.k !=9)=true:=by simpa using h9
    clear h9 hap;go_upto_region 20 with fail;clear p0 o0 o1 o2 f1 r0 r1 r2 g0 g1 g2;obtain⟨V,hV⟩:∃V:World,V=wr.setCell ⟨w1.heap.size,1,none⟩ (.int .i64 (M+1)):=⟨_,rfl⟩;rw[←hV]
    have UV:Hid (V.heap[w1.heap.size]? =some (.cells #[.int .i64 S,.int .i64 (M+1),.slice none 0 0] 126)):=by
     unfold Hid;rw[hV];have:=zk hout.out 1 (.int .i64 (M+1));simpa using this
    have RV:Hid (V.heap[w.heap.size+1]? =some (.cells #[.int .i64 0,.int .i64 0,.slice none 0 0] 126)):=by
     unfold Hid;rw[hV];exact zd hres.out (by show w.heap.size+1≠w1.heap.size;omega) _
    have BV:Hid (Below w.heap.size w V):=by unfold Hid;rw[hV];exact zy hb.out _ (by show w.heap.size≤w1.heap.size;omega) _
    clear hV hout hres hb;have o0:=za UV.out 0;have o1:=za UV.out 1;have o2:=za UV.out 2;have r0:=za RV.out 0;have r1:=za RV.out 1;have r2:=za RV.out 2;have g0:=zb RV.out 0;have g1:=zb RV.out 1;have g2:=zb RV.out 2;simp only[qk,ql,qm]at o0 o1 o2 r0 r1 r2;go_wp2;obtain⟨Z,hZ⟩:∃Z:World,Z=((V.setCell ⟨w.heap.size+1,0,none⟩ (.int .i64 S)).setCell ⟨w.heap.size+1,1,none⟩ (.int .i64 (M+1))).setCell ⟨w.heap.size+1,2,none⟩ (.slice none 0 0):=⟨_,rfl⟩;rw[←hZ];obtain⟨s0,s1,s2⟩:=xu (show Z.heap[w.heap.size+1]? =some (.cells #[.int .i64 S,.int .i64 (M+1),.slice none 0 0] 126) by rw[hZ];exact yP RV.out)
    have HZB:Below w.heap.size w Z:=by rw[hZ];exact zy (zy (zy BV.out _ (by simp) _) _ (by simp) _) _ (by simp) _
    clear hZ;refine bodyPost_ret (v:=.agg #[.int .i64 S,.int .i64 (M+1),.slice none 0 0]) (by simp[results,Tryd.results91,go_sem,s0,s1,s2];try rfl) rfl ⟨by rw[hv.out],HZB⟩
instance : Inhabited Tr:=⟨.leaf default⟩
theorem mk_op {o:Po} {l:List Tr}:(mk o l).op=o:=by
 unfold mk
 split
 ·rfl
 ·split<;>rfl
 ·rfl
 ·rfl
theorem mk_nst {o:Po} {l:List Tr} (h:opB o=true) (hl:l.length=ar o):(mk o l).nst=apN o (fun i=>l.getD i default) l.length:=by
 obtain⟨k0,k1,v0,v1⟩:=Wq h;clear h;unfold ar at hl
 split at hl
 ·rename_i hk
  match l,hl with
  |[a],_=>
   have:=xF a;have hw:wrp o 0 a.str=decide (a.str≤5):=by unfold wrp;rw[if_pos hk]
   have e0:wn o (fun i=>[a].getD i default) 0=opn a.nst a.str 6:=by
    show(if wrp o 0 a.str=true then a.nst+1 else a.nst)=_;rw[hw];unfold opn;by_cases hs:a.str≤5
    ·rw[if_pos (by simpa using hs),if_pos (by omega)]
    ·rw[if_neg (by simpa using hs),if_neg (by omega)]
   have p0:0≤opn a.nst a.str 6:=by unfold opn;split<;>omega
   simp only[mk,Tr.nst,apN,mxw,List.length_singleton,e0];rw[if_neg (by omega),if_neg (by omega)]
   split<;>omega
 ·rename_i hk
  split at hl
  ·rename_i hk'
   match l,hl with
   |[a,b],_=>
    have:=xF a;have:=xF b;have hw0:wrp o 0 a.str=(decide (a.str<yL o.v)||(a.str==3&&yL o.v==3)):=by unfold wrp;rw[if_neg hk,if_pos hk',if_pos rfl]
    have hw1:wrp o 1 b.str=decide (b.str≤yL o.v):=by unfold wrp;rw[if_neg hk,if_pos hk',if_neg (by omega)]
    have e0:wn o (fun i=>[a,b].getD i default) 0=opn a.nst a.str (lL (yL o.v)):=by
     show(if wrp o 0 a.str=true then a.nst+1 else a.nst)=_;rw[hw0];unfold opn lL;by_cases h3:yL o.v=3
     ·rw[if_pos h3,h3]
      by_cases hs:a.str<4
      ·rw[if_pos hs,if_pos (by simp;omega)]
      ·rw[if_neg hs,if_neg (by simp;omega)]
     ·rw[if_neg h3]
      by_cases hs:a.str<yL o.v
      ·rw[if_pos hs,if_pos (by simp[hs])]
      ·rw[if_neg hs,if_neg (by simp[hs,h3])]
    have e1:wn o (fun i=>[a,b].getD i default) 1=opn b.nst b.str (yL o.v+1):=by
     show(if wrp o 1 b.str=true then b.nst+1 else b.nst)=_;rw[hw1];unfold opn;by_cases hs:b.str≤yL o.v
     ·rw[if_pos (by simpa using hs),if_pos (by omega)]
     ·rw[if_neg (by simpa using hs),if_neg (by omega)]
    have p0:0≤opn a.nst a.str (lL (yL o.v)):=by unfold opn;split<;>omega
    have p1:0≤opn b.nst b.str (yL o.v+1):=by unfold opn;split<;>omega
    simp only[mk];rw[if_pos hk'];simp only[Tr.nst,apN,mxw,qh,qi,e0,e1];rw[if_neg (by omega),if_pos hk']
    split<;>split<;>omega
  ·rename_i hk'
   split at hl
   ·rename_i hk2
    have hw:∀i s,wrp o i s=false:=fun i s=>by unfold wrp;rw[if_neg hk,if_neg hk']
    split at hl
    ·match l,hl with
     |[a,b,c],_=>
      have:=xF a;have:=xF b;have:=xF c;have e:∀i,wn o (fun i=>[a,b,c].getD i default) i=([a,b,c].getD i default).nst:=fun i=>by unfold wn;rw[hw];rfl
      simp only[mk,Tr.nst,apN,mxw,qh,qi,e,List.getD_cons_zero,List.getD_cons_succ];rw[if_neg (by omega),if_neg hk']
      split<;>split<;>split<;>omega
    ·match l,hl with
     |[a,b],_=>
      have:=xF a;have:=xF b;have e:∀i,wn o (fun i=>[a,b].getD i default) i=([a,b].getD i default).nst:=fun i=>by unfold wn;rw[hw];rfl
      simp only[mk];rw[if_neg hk'];simp only[Tr.nst,apN,mxw,qh,qi,e,List.getD_cons_zero,List.getD_cons_succ];rw[if_neg (by omega),if_neg hk']
      split<;>split<;>omega
   ·match l,hl with
    |[],_=>rfl
theorem Uf {o:Po} {l:List Tr} (h:opB o=true) (hl:l.length=ar o):yn (mk o l)=[.int .i64 (xx o),.int .i64 (apN o (fun i=>l.getD i default) l.length),.slice none 0 0]:=by
 unfold yn;rw[mk_nst h hl,Tr.str,mk_op]
def yi (s:List Tr):List Value:=s.flatMap yn
theorem XC (s:List Tr):(yi s).length=s.length*3:=by
 induction s with
 |nil=>rfl
 |cons t r ih=>unfold yi at*;rw[List.flatMap_cons,qg,ih];simp[yn];omega
theorem XD (a b:List Tr):yi (a++b)=yi a++yi b:=by simp[yi]
theorem WZ (s:List Tr) (m:Nat):(yi s).take (m*3)=yi (s.take m):=by
 induction s generalizing m with
 |nil=>simp[yi]
 |cons t r ih=>
  cases m with
  |zero=>simp[yi]
  |succ m=>
   have:yi (t::r)=yn t++yi r:=by simp[yi]
   rw[this,List.take_succ_cons];have h2:yi (t::r.take m)=yn t++yi (r.take m):=by simp[yi]
   rw[h2,←ih m,show(m+1)*3=(yn t).length+m*3 by simp[yn];omega,List.take_length_add_append]
theorem W0 (s:List Tr) (m:Nat):(yi s).drop (m*3)=yi (s.drop m):=by
 induction s generalizing m with
 |nil=>simp[yi]
 |cons t r ih=>
  cases m with
  |zero=>simp
  |succ m=>
   have:yi (t::r)=yn t++yi r:=by simp[yi]
   rw[this,List.drop_succ_cons,←ih m,show(m+1)*3=(yn t).length+m*3 by simp[yn];omega,List.drop_length_add_append]
theorem UQ (s:List Tr) (i:Nat) (hi:i<s.length) (q:Nat) (hq:q<3):(yi s)[i*3+q]? =(yn (s.getD i default))[q]?:=by
 induction s generalizing i with
 |nil=>simp at hi
 |cons t r ih=>
  have:yi (t::r)=yn t++yi r:=by simp[yi]
  rw[this];have hl:(yn t).length=3:=rfl
  cases i with
  |zero=>rw[List.getElem?_append_left (by omega)];simp
  |succ i=>
   rw[List.getElem?_append_right (by omega),hl,show(i+1)*3+q-3=i*3+q by omega,ih i (by simpa using hi)];simp
theorem XB (s:List Tr):∀u∈yi s,u.oneCell'=true:=by
 intro u hu;unfold yi at hu;obtain⟨t,-,ht⟩:=List.mem_flatMap.1 hu;simp only[yn,List.mem_cons,List.not_mem_nil,or_false]at ht;rcases ht with rfl|rfl|rfl<;>rfl
theorem Wf {w:World} {g off:Nat} {s:List Tr} (h:∀j u,(yi s)[j]? =some u→w.cell? ⟨g,off+j,none⟩=some u):zq w (some ⟨g,off,none⟩) s.length 3 (fun i=>yn (s.getD i default)):=by
 refine Or.inr ⟨g,off,rfl,fun i hi=>?_⟩;intro q u hu;have hq:q<3:=by have:=(List.getElem?_eq_some_iff.1 hu).1;exact this
 have:=h (i*3+q) u (by rw[UQ s i hi q hq];exact hu);rw[←Nat.add_assoc]at this;exact this
end Go.Proofs.YtbdldkpifanaiaaDoor.Syn
