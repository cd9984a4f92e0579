import Derived.Test.YtbdldkpifanaiaaDoorCr09
set_option maxHeartbeats 6400000
set_option maxRecDepth 100000
set_option linter.unusedVariables false
set_option linter.unusedSimpArgs false
open List renaming getElem?_toArray → qk, getElem?_cons_zero → ql, getElem?_cons_succ → qm
namespace Go.Proofs.YtbdldkpifanaiaaDoor.Cd
open Go Go.RowKit Mem Syn
attribute [local go_sem ↓] Go.wp_at_zero Go.wp_at_succ
def dup1 (i q:It):Int:=if i.k=1∧q.k=1∧(q.n==i.n)=true then 4 else if i.k=7∧q.k=7 then 5 else 0
def Zk (P:Pr) (i:It):Nat→Int
 |0=>0
 |q+1=>if Zk P i q=0 then dup1 i (P.I q)else Zk P i q
theorem XS {P:Pr} {i:It} {q n:Nat} (h:Zk P i q≠0) (hq:q≤n):Zk P i n=Zk P i q:=by
 induction n with
 |zero=>obtain rfl:q=0:=by omega
        rfl
 |succ n ih=>
  by_cases e:q=n+1
  ·rw[e]
  ·have:=ih (by omega)
   rw[Zk,this,if_neg h]
def itE (P:Pr) (lt:List UInt8→Int) (n:Nat):Int×Int:=
 if Zk P (P.I n) n≠0 then (Zk P (P.I n) n,0)else if heB (P.I n).k=false then (0,0)
 else if (twk lt (P.I n).E (P.I n).nE).1≠0 then ((twk lt (P.I n).E (P.I n).nE).1,0)
 else if Ws (P.I n).k≠0∧(twk lt (P.I n).E (P.I n).nE).2.getD 0 0≠Ws (P.I n).k then (3,0)
 else if (P.I n).k=5 then (if (twk lt (P.I n).F (P.I n).nF).1≠0 then ((twk lt (P.I n).F (P.I n).nF).1,0)else if (twk lt (P.I n).F (P.I n).nF).2.getD 0 0≠2 then (3,0)else (0,(twk lt (P.I n).E (P.I n).nE).2.getD 0 0))
 else (0,(twk lt (P.I n).E (P.I n).nE).2.getD 0 0)
inductive ItemP (w w':World) (x:Int×Int) (r:Ending):Prop
 |mk (p:Int) (he:r=.returned (.tuple #[.int .i64 x.1,.int .i64 p,.int .i64 x.2])) (hb:Below w.heap.size w w'):ItemP w w' x r
theorem ItemP.of {w w':World} {x y:Int×Int} {r:Ending} (h:ItemP w w' x r) (e:y=x):ItemP w w' y r:=by rw[e];exact h
theorem itemS (P:Pr) (a:Option Addr) (c:Nat) (T:Nat→Int) (t:Option Addr) (m d:Nat) (L:Nat→Lo) (w:World) (h:yr w a P L) (hn:P.n≤1048576) (ht:zq w t m 1 (fun i=>[.int .i64 (T i)])) (hm:m≤1048576)
  (n:Nat) (hnn:n<P.n) (hnE:(P.I n).nE≤1000000) (hnF:(P.I n).nF≤1000000) (hE:heB (P.I n).k=true→∃tt,stk (P.I n).E (P.I n).nE=some [tt]) (hF:(P.I n).k=5→∃tt,stk (P.I n).F (P.I n).nF=some [tt]):
  Calls Tryd.prog 55 #[.agg #[.slice a P.n c],.int .i64 (n:Int),.slice t m d] w fun r w'=>ItemP w w' (itE P (yv P T m) n) r:=by
 have WE:Hid (heB (P.I n).k=true→∀(w':World),Below w.heap.size w w'→Calls Tryd.prog 70 #[.agg #[.slice a P.n c],.slice t m d,.slice (L n).aE (P.I n).nE (L n).cE] w' fun r w''=>WalkP w' w'' (twk (yv P T m) (P.I n).E (P.I n).nE) r):=fun he w' hb=>by
  obtain⟨tt,hs⟩:=hE he;exact Tx P a c T t m d L w' (h.below hb) hn (ht.below hb) hm _ _ _ _ ((h.e n hnn).below hb) hnE tt hs
 have WF:Hid ((P.I n).k=5→∀(w':World),Below w.heap.size w w'→Calls Tryd.prog 70 #[.agg #[.slice a P.n c],.slice t m d,.slice (L n).aF (P.I n).nF (L n).cF] w' fun r w''=>WalkP w' w'' (twk (yv P T m) (P.I n).F (P.I n).nF) r):=fun he w' hb=>by
  obtain⟨tt,hs⟩:=hF he;exact Tx P a c T t m d L w' (h.below hb) hn (ht.below hb) hm _ _ _ _ ((h.f n hnn).below hb) hnF tt hs
 obtain⟨b,off,ha,hcells⟩:∃b off,a=some ⟨b,off,none⟩∧∀k,k<P.n→w.rangeAt b (off+k*7) ((P.I k).cells (L k)):=by
  rcases h.s with h0|⟨b,off,h1,h0⟩
  ·omega
  ·exact⟨b,off,h1,h0⟩
 have CELL:Hid (∀k W,k<P.n→Below w.heap.size w W→W.cell? ⟨b,off+k*7,none⟩=some (.int .i64 (P.I k).k)∧W.cell? ⟨b,off+k*7+1,none⟩=some (.string ⟨(P.I k).n.toArray⟩)):=fun k W hk hW=>⟨(It.at (zt (hcells k hk) hW)).1,(It.at (zt (hcells k hk) hW)).2.1⟩
 obtain⟨V,hV⟩:∃V,V=w.alloc (.cells #[.slice (some ⟨b,off,none⟩) P.n c] 54):=⟨_,rfl⟩;have BV:Hid (Below w.heap.size w V):=by rw[hV];exact zf (Below.refl _ _) _
 have ME:=Hm (It.at (zt (hcells n hnn) BV.out));have HD:Hid (∀q,Zk P (P.I n) (q+1)=if Zk P (P.I n) q=0 then dup1 (P.I n) (P.I q)else Zk P (P.I n) q):=fun q=>rfl
 have HI:Hid (itE P (yv P T m) n=if Zk P (P.I n) n≠0 then (Zk P (P.I n) n,0)else if heB (P.I n).k=false then (0,0)
 else if (twk (yv P T m) (P.I n).E (P.I n).nE).1≠0 then ((twk (yv P T m) (P.I n).E (P.I n).nE).1,0)
 else if Ws (P.I n).k≠0∧(twk (yv P T m) (P.I n).E (P.I n).nE).2.getD 0 0≠Ws (P.I n).k then (3,0)
 else if (P.I n).k=5 then (if (twk (yv P T m) (P.I n).F (P.I n).nF).1≠0 then ((twk (yv P T m) (P.I n).F (P.I n).nF).1,0)else if (twk (yv P T m) (P.I n).F (P.I n).nF).2.getD 0 0≠2 then (3,0)else (0,(twk (yv P T m) (P.I n).E (P.I n).nE).2.getD 0 0))
 else (0,(twk (yv P T m) (P.I n).E (P.I n).nE).2.getD 0 0)):=rfl
 obtain⟨I,hI⟩:∃I,I=P.I n:=⟨_,rfl⟩;obtain⟨l,hl⟩:∃l,l=L n:=⟨_,rfl⟩;obtain⟨R,hR⟩:∃R,R=itE P (yv P T m) n:=⟨_,rfl⟩;generalize yv P T m=lt at*;rw[←hI]at WE WF ME HD HI hnE hnF;rw[←hl]at WE WF ME;rw[←hR]at HI ⊢;clear hE hF h ht hcells hm hI hl hR;obtain⟨XE,hXE⟩:∃X,X=twk lt I.E I.nE:=⟨_,rfl⟩;obtain⟨XF,hXF⟩:∃X,X=twk lt I.F I.nF:=⟨_,rfl⟩;rw[←hXE]at WE HI;rw[←hXF]at WF HI;clear hXE hXF;obtain⟨N,hN⟩:∃N,N=P.n:=⟨_,rfl⟩;rw[←hN]at hn hnn WE WF CELL hV ⊢;clear hN;subst ha;obtain⟨k,nm,nE,nF,E,F,K,lo,hi⟩:=I;obtain⟨aE,aF,cE,cF⟩:=l;dsimp only at WE WF ME HI hnE hnF
 obtain⟨W1,hW1⟩:∃W1,W1=V.alloc (.cells #[.int .i64 k,.string ⟨nm.toArray⟩,.slice aE nE cE,.slice aF nF cF,.int .i64 K,.int .i64 lo,.int .i64 hi] 77):=⟨_,rfl⟩;have B1:Hid (Below w.heap.size w W1):=by rw[hW1];exact zf BV.out _
 have P1:Hid (W1.heap[w.heap.size]? =some (.cells #[.slice (some ⟨b,off,none⟩) N c] 54)):=by rw[hW1,hV];exact zh (zi _ _) _
 have I1:Hid (W1.heap[w.heap.size+1]? =some (.cells #[.int .i64 k,.string ⟨nm.toArray⟩,.slice aE nE cE,.slice aF nF cF,.int .i64 K,.int .i64 lo,.int .i64 hi] 77)):=by rw[hW1,hV];exact zx _ _ _
 obtain⟨m0,m1,m2,m3,m4,m5,m6⟩:=ME.out;have n0:(0:Int)≤(n:Int):=by omega
 have n1:(n:Int)<(N:Int):=by omega
 go_enter Tryd.func55,Tryd.ntmps55;go_upto_region 1 with fail;rw[←hV];have hVs:V.heap.size=w.heap.size+1:=by rw[hV];simp
 have v0:V.cell? ⟨w.heap.size,0,none⟩=some (.slice (some ⟨b,off,none⟩) N c):=by rw[hV];exact za (zi _ _) 0
 have HVS:=Hm hVs;clear hV hVs;go_upto_region 2 with fail;rw[HVS.out,←hW1];clear v0;clear hW1 BV HVS m0 m1 m2 m3 m4 m5 m6 ME;go_wp2;go_loopw [10] (fun i wr=>∃q:Nat,q≤n∧i=.int .i64 (q:Int)∧Hid (Zk P ⟨k,nm,nE,nF,E,F,K,lo,hi⟩ q=0)∧Hid (wr.heap[w.heap.size]? =some (.cells #[.slice (some ⟨b,off,none⟩) N c] 54))∧Hid (wr.heap[w.heap.size+1]? =some (.cells #[.int .i64 k,.string ⟨nm.toArray⟩,.slice aE nE cE,.slice aF nF cF,.int .i64 K,.int .i64 lo,.int .i64 hi] 77))∧Hid (Below w.heap.size w wr)) (fun i _=>n- (intOf i).toNat)
 case atStart=>exact⟨0,Nat.zero_le _,rfl,rfl,P1,I1,B1⟩
 case round=>
  clear P1 I1 B1;obtain⟨q,hq,rfl,hd,hP,hI,hb⟩:=hrel;have x0:=za hP.out 0;have y0:=za hI.out 0;have y1:=za hI.out 1;have y2:=za hI.out 2;have y3:=za hI.out 3;simp only[qk,ql,qm]at x0 y0 y1 y2 y3;by_cases hlt:q<n
  ·have hstep:=Hm (HD.out q)
   rw[hd.out,if_pos rfl]at hstep;obtain⟨c0,c1⟩:=CELL.out q wr (by omega) hb.out;obtain⟨⟨k',nm',nE',nF',E',F',K',lo',hi'⟩,hJ⟩:∃J,J=P.I q:=⟨_,rfl⟩;rw[←hJ]at hstep c0 c1;dsimp only[dup1]at hstep c0 c1;clear hJ;have q0:(0:Int)≤(q:Int):=by omega
   have q1:(q:Int)<(n:Int):=by omega
   have q2:(q:Int)<(N:Int):=by omega
   by_cases hk1:k=1
   ·subst hk1
    by_cases hk2:k'=1
    ·subst hk2
     cases he:(nm'==nm)with
     |true=>
      rw[if_pos ⟨rfl,rfl,he⟩]at hstep;have hfin:Hid (Zk P ⟨1,nm,nE,nF,E,F,K,lo,hi⟩ n=4):=by unfold Hid;rw[XS (q:=q+1) (by rw[hstep.out];decide) (by omega)];exact hstep.out
      rw[hfin.out,if_pos (by decide)]at HI;go_wp2_with fail
      go_quiet (fail)
      go_wp2;go_ret3;exact ItemP.of (.mk _ rfl (below_drewN' hb.out _)) HI.out
     |false=>
      rw[if_neg (by rw[he];simp),if_neg (by omega)]at hstep;go_wp2_with fail
      go_quiet (fail)
      go_wp2;exact⟨⟨q+1,by omega,by go_num,hstep,hP,hI,below_drewN' hb.out _⟩,by simp[intOf];omega⟩
    ·have f2:(k'==1)=false:=by simpa using hk2
     rw[if_neg (fun h=>hk2 h.2.1),if_neg (by omega)]at hstep;go_wp2_with fail
     go_quiet (fail)
     go_wp2;exact⟨⟨q+1,by omega,by go_num,hstep,hP,hI,below_drewN' hb.out _⟩,by simp[intOf];omega⟩
   ·have f1:(k==1)=false:=by simpa using hk1
    rw[if_neg (fun h=>hk1 h.1)]at hstep;by_cases hk7:k=7
    ·subst hk7
     by_cases hk2:k'=7
     ·subst hk2
      rw[if_pos ⟨rfl,rfl⟩]at hstep;have hfin:Hid (Zk P ⟨7,nm,nE,nF,E,F,K,lo,hi⟩ n=5):=by unfold Hid;rw[XS (q:=q+1) (by rw[hstep.out];decide) (by omega)];exact hstep.out
      rw[hfin.out,if_pos (by decide)]at HI;go_wp2_with fail
      go_quiet (fail)
      go_wp2;go_ret3;exact ItemP.of (.mk _ rfl (below_drewN' hb.out _)) HI.out
     ·have f2:(k'==7)=false:=by simpa using hk2
      rw[if_neg (fun h=>hk2 h.2)]at hstep;go_wp2_with fail
      go_quiet (fail)
      go_wp2;exact⟨⟨q+1,by omega,by go_num,hstep,hP,hI,below_drewN' hb.out _⟩,by simp[intOf];omega⟩
    ·have f7:(k==7)=false:=by simpa using hk7
     rw[if_neg (fun h=>hk7 h.1)]at hstep;go_wp2_with fail
     go_quiet (fail)
     go_wp2;exact⟨⟨q+1,by omega,by go_num,hstep,hP,hI,below_drewN' hb.out _⟩,by simp[intOf];omega⟩
  ·obtain rfl:q=n:=by omega
   have q1:decide ((q:Int)<(q:Int))=false:=by simp
   rw[hd.out,if_neg (by decide)]at HI;clear CELL HD hd;have HS:Hid (∀w,Calls Tryd.prog 59 #[.int .i64 k] w fun e w'=>e=.returned (.bool (heB k))∧w'=w):=fun w=>zK k w
   cases hhe:heB k with
   |false=>
    rw[if_pos hhe]at HI;rw[hhe]at HS;go_wp2_with (go_at_call 59;refine(HS.out _).mono ?_;rintro e w' ⟨rfl,hw⟩;rw[hw];clear hw);go_ret3;exact ItemP.of (.mk _ rfl hb.out) HI.out
   |true=>
    rw[if_neg (by rw[hhe];decide)]at HI;rw[hhe]at HS;have CE:=Hm (WE.out hhe wr hb.out);clear WE;have HHE:=Hm hhe;clear hhe;obtain⟨e1,st⟩:=XE;obtain⟨f1,sf⟩:=XF;dsimp only at HI;obtain⟨ty,hty⟩:∃ty,ty=st.getD 0 0:=⟨_,rfl⟩;obtain⟨tf,htf⟩:∃tf,tf=sf.getD 0 0:=⟨_,rfl⟩;rw[←hty,←htf]at HI;obtain⟨nd,hnd⟩:∃nd,nd=Ws k:=⟨_,rfl⟩;have NS:Hid (∀w,Calls Tryd.prog 71 #[.int .i64 k] w fun e w'=>e=.returned (.int .i64 nd)∧w'=w):=fun w=>by rw[hnd];exact needS k w
    rw[←hnd]at HI;have HTY:=Hm hty;have HTF:=Hm htf;clear hnd hty htf;go_wp2_with (first|(go_at_call 59;refine(HS.out _).mono ?_;rintro e w' ⟨rfl,hw⟩;rw[hw];clear hw)|(go_at_call 70;refine CE.out.mono ?_));rintro r w2 ⟨pE,rfl,hb2⟩;dsimp only;rw[←HTY.out];have B2:=Hm (zg hb.out hb2);have P2:=Hm (ze hP.out hb2);have I2:=Hm (ze hI.out hb2);clear hb2 hb hP hI x0 y0 y1 y2 y3 CE HS;have x0:=za P2.out 0;have y0:=za I2.out 0;have y2:=za I2.out 2;have y3:=za I2.out 3;simp only[qk,ql,qm]at x0 y0 y2 y3;refine Hid.out ?_;refine Lib.hid ?_;by_cases h1:e1=0
    ·subst h1
     rw[if_neg (by decide)]at HI;rw[if_pos rfl];by_cases hn0:nd=0
     ·subst hn0
      rw[if_neg (fun h=>h.1 rfl)]at HI;by_cases h5:k=5
      ·rw[if_pos h5]at HI
       have CF:=Hm (WF.out h5 w2 B2.out);subst h5;go_wp2_with (first|(go_at_call 71;refine(NS.out _).mono ?_;rintro e w' ⟨rfl,hw⟩;rw[hw];clear hw)|(go_at_call 70;refine CF.out.mono ?_));rintro r w3 ⟨pF,rfl,hb3⟩;dsimp only;rw[←HTF.out];have B3:=Hm (zg B2.out hb3);have I3:=Hm (ze I2.out hb3);clear hb3 CF x0 y0 y2 y3;have y2:=za I3.out 2;have y3:=za I3.out 3;simp only[qk,ql,qm]at y2 y3;refine Hid.out ?_;refine Lib.hid ?_;by_cases hf:f1=0
       ·subst hf
        rw[if_neg (by decide)]at HI;rw[if_pos rfl];by_cases hf2:tf=2
        ·subst hf2
         have g2:((2:Int)!=2)=false:=rfl;rw[if_neg (by decide)]at HI;go_wp2;go_ret3;exact ItemP.of (.mk _ rfl B3.out) HI.out
        ·have g2:(tf !=2)=true:=by simpa using hf2
         rw[if_pos hf2]at HI;go_wp2_with fail;go_region;go_wp2;go_ret3;exact ItemP.of (.mk _ rfl B3.out.drew) HI.out
       ·have g1:(f1 !=0)=true:=by simpa using hf
        rw[if_pos hf]at HI;rw[if_neg hf];go_wp2_with fail;go_region;go_wp2;go_ret3;exact ItemP.of (.mk _ rfl B3.out.drew) HI.out
      ·rw[if_neg h5]at HI
       have f5:(k==5)=false:=by simpa using h5
       go_wp2_with (go_at_call 71;refine(NS.out _).mono ?_;rintro e w' ⟨rfl,hw⟩;rw[hw];clear hw);go_ret3;exact ItemP.of (.mk _ rfl B2.out) HI.out
     ·have hn1:(nd !=0)=true:=by simpa using hn0
      by_cases ht0:ty=nd
      ·subst ht0
       have hn2:(ty !=ty)=false:=by simp
       rw[if_neg (fun h=>h.2 rfl)]at HI;by_cases h5:k=5
       ·rw[if_pos h5]at HI
        have CF:=Hm (WF.out h5 w2 B2.out);subst h5;go_wp2_with (first|(go_at_call 71;refine(NS.out _).mono ?_;rintro e w' ⟨rfl,hw⟩;rw[hw];clear hw)|(go_at_call 70;refine CF.out.mono ?_));rintro r w3 ⟨pF,rfl,hb3⟩;dsimp only;rw[←HTF.out];have B3:=Hm (zg B2.out hb3);have I3:=Hm (ze I2.out hb3);clear hb3 CF x0 y0 y2 y3;have y2:=za I3.out 2;have y3:=za I3.out 3;simp only[qk,ql,qm]at y2 y3;refine Hid.out ?_;refine Lib.hid ?_;by_cases hf:f1=0
        ·subst hf
         rw[if_neg (by decide)]at HI;rw[if_pos rfl];by_cases hf2:tf=2
         ·subst hf2
          have g2:((2:Int)!=2)=false:=rfl;rw[if_neg (by decide)]at HI;go_wp2;go_ret3;exact ItemP.of (.mk _ rfl B3.out) HI.out
         ·have g2:(tf !=2)=true:=by simpa using hf2
          rw[if_pos hf2]at HI;go_wp2_with fail;go_region;go_wp2;go_ret3;exact ItemP.of (.mk _ rfl B3.out.drew) HI.out
        ·have g1:(f1 !=0)=true:=by simpa using hf
         rw[if_pos hf]at HI;rw[if_neg hf];go_wp2_with fail;go_region;go_wp2;go_ret3;exact ItemP.of (.mk _ rfl B3.out.drew) HI.out
       ·rw[if_neg h5]at HI
        have f5:(k==5)=false:=by simpa using h5
        go_wp2_with (go_at_call 71;refine(NS.out _).mono ?_;rintro e w' ⟨rfl,hw⟩;rw[hw];clear hw);go_ret3;exact ItemP.of (.mk _ rfl B2.out) HI.out
      ·have hn2:(ty !=nd)=true:=by simpa using ht0
       rw[if_pos ⟨hn0,ht0⟩]at HI;go_wp2_with (go_at_call 71;refine(NS.out _).mono ?_;rintro e w' ⟨rfl,hw⟩;rw[hw];clear hw);go_region;go_wp2;go_ret3;exact ItemP.of (.mk _ rfl B2.out.drew) HI.out
    ·have f1':(e1 !=0)=true:=by simpa using h1
     rw[if_pos h1]at HI;rw[if_neg h1];go_wp2;go_ret3;exact ItemP.of (.mk _ rfl B2.out) HI.out
end Go.Proofs.YtbdldkpifanaiaaDoor.Cd
