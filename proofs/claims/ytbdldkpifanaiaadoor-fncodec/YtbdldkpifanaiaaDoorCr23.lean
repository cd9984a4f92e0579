import Derived.Test.YtbdldkpifanaiaaDoorCr22
set_option maxHeartbeats 6400000
set_option maxRecDepth 100000
set_option linter.unusedVariables false
set_option linter.unusedSimpArgs false
open List renaming setIfInBounds_toArray → qa, set_cons_zero → qb, set_cons_succ → qc, getElem_cons_succ → qd, getElem_cons_zero → qe, getElem_toArray → qf, length_append → qg, append_assoc → qj, getElem?_toArray → qk, getElem?_cons_zero → ql, getElem?_cons_succ → qm
open Nat renaming le_refl → qn, le_of_lt → qq
namespace Go.Proofs.YtbdldkpifanaiaaDoor.Cd
open Go Go.RowKit Mem Syn
attribute [local go_sem ↓] Go.wp_at_zero Go.wp_at_succ
theorem YN {P:Pr} (h:xR P=0):y8 P=⟨Yq (We P) (reg P P.n) (We P).length,zM P P.n,yy P P.n,plN (zY P (reg P P.n) P.n) (zY P (reg P P.n) P.n).length,plN (yH P (reg P P.n) P.n) (yH P (reg P P.n) P.n).length⟩:=by unfold y8;rw[if_neg (by rw[h];decide)]
theorem compOk (P:Pr) (a:Option Addr) (c:Nat) (L:Nat→Lo) (w:World) (hP:yr w a P L) (hc:YQ P L) (hE:xR P=0)
  (ST:Hid (∀W m (t:Int),Below w.heap.size w W→m<P.n→0≤t→t≤1000→Calls Tryd.prog 44 #[.agg #[.slice a P.n c],.int .i64 (m:Int),.int .i64 t] W fun e w'=>GenP W w' (zU P m t (P.I m) (reg P m) (zM P m)) e)):
  Calls Tryd.prog 26 #[.agg #[.slice a P.n c]] w fun e w'=>CodeP w w' (y8 P) e:=by
 have ok:=Xw hE;have RD:=Hm (road3 (c:=c) hP ok hc);have HK:=Hm (YN hE);have hn:=ok.n;have hfd:∀(x:Int) (p q z:Value) (w:World),(Instr.field 72 (.agg #[.int .i64 x,p,q,z]) 0).run Tryd.prog w=.ok (.int .i64 x) w:=fun _ _ _ _ _=>by kernel_rfl
 obtain⟨i0,hi0,hz0,hz1,hz2⟩:=info_parts yI;obtain⟨W1,hW1⟩:∃W1,W1=(w.alloc (.cells #[.slice a P.n c] 54)).alloc (.cells #[.int .i64 0,.int .i64 0,.slice none 0 0,.slice none 0 0,.slice none 0 0] 25):=⟨_,rfl⟩;have B1:Hid (Below w.heap.size w W1):=by rw[hW1];exact zf (zf (Below.refl _ _) _) _
 have P1:Hid (W1.heap[w.heap.size]? =some (.cells #[.slice a P.n c] 54)):=by rw[hW1];exact zh (zi _ _) _
 have R1:Hid (W1.heap[w.heap.size+1]? =some (.cells #[.int .i64 0,.int .i64 0,.slice none 0 0,.slice none 0 0,.slice none 0 0] 25)):=by rw[hW1];exact zx _ _ _
 have CK:=Hm (UI P a c L W1 (hP.below B1.out) (by omega) (by have:=ok.c;omega));rw[hE]at CK;have hreg:=xw P (qn P.n);have hslot:=yC P P.n;have OK:=Hm ok;clear hP hc hE ok;obtain⟨t,ht⟩:∃t,t=reg P P.n:=⟨_,rfl⟩;obtain⟨S,hS⟩:∃S,S=zM P P.n:=⟨_,rfl⟩;have RG:Hid (∀W,Below w.heap.size w W→Calls Tryd.prog 41 #[.agg #[.slice a P.n c],.int .i64 (P.n:Int)] W fun e w'=>e=.returned (.int .i64 (t:Int))∧Below W.heap.size W w'):=fun W hW=>by rw[ht];exact RD.out.reg W P.n hW (qn _)
 have SG:Hid (∀W,Below w.heap.size w W→Calls Tryd.prog 42 #[.agg #[.slice a P.n c],.int .i64 (P.n:Int)] W fun e w'=>e=.returned (.int .i64 (S:Int))∧Below W.heap.size W w'):=fun W hW=>by rw[hS];exact RD.out.slot W P.n hW (qn _)
 have HAL:Hid (We P=yy P P.n++(plN (zY P (reg P P.n) P.n) (zY P (reg P P.n) P.n).length++plN (yH P (reg P P.n) P.n) (yH P (reg P P.n) P.n).length)):=rfl;rw[←ht]at hreg HK HAL;rw[←hS]at hslot HK;clear ht hS;rw[HK.out];clear HK;obtain⟨N,hN⟩:∃N,N=P.n:=⟨_,rfl⟩;have HN:=Hm hN;rw[←hN]at hn hreg hslot P1 hW1 RG SG CK HAL ⊢;clear hN;have x0:=za P1.out 0;simp only[qk,ql]at x0;go_enter Tryd.func26,Tryd.ntmps26;go_upto_region 1 with fail;rw[←hW1];clear hW1;go_wp2_with (go_at_call 40;refine CK.out.mono ?_);rintro e w2 ⟨p,q,z,rfl,hb⟩;have B2:=Hm (zg B1.out hb);have P2:=Hm (ze P1.out hb);have R2:=Hm (ze R1.out hb);clear hb x0 B1 P1 R1 CK;have x0:=za P2.out 0
 simp only[qk,ql]at x0;refine Hid.out ?_;refine Lib.hid ?_;go_wp2_with (go_at_call 41;refine(RG.out _ B2.out).mono ?_);rintro e w3 ⟨rfl,hb⟩;have B3:=Hm (zg B2.out hb);have P3:=Hm (ze P2.out hb);have R3:=Hm (ze R2.out hb);clear hb x0 B2 P2 R2;have x0:=za P3.out 0;simp only[qk,ql]at x0;refine Hid.out ?_;refine Lib.hid ?_;go_wp2_with (go_at_call 42;refine(SG.out _ B3.out).mono ?_);rintro e w4 ⟨rfl,hb⟩;have B4:=Hm (zg B3.out hb);have P4:=Hm (ze P3.out hb);have R4:=Hm (ze R3.out hb);clear hb x0 B3 P3 R3 RG SG;have hs4:w.heap.size+1<w4.heap.size:=zu R4.out
 have C4:Hid (Cst w (((w4.alloc (.cells #[.int .i64 (t:Int),.int .i64 (S:Int),.slice none 0 0,.slice none 0 0,.slice none 0 0] 25)).alloc (.cells #[] 60)).alloc (.cells #[] 60)) w4.heap.size (.slice a N c) t S (.slice none 0 0) (.slice (some ⟨w4.heap.size+1,0,none⟩) 0 0) (.slice (some ⟨w4.heap.size+2,0,none⟩) 0 0) [] [] []):=by
  have o1:=OI.nil (w4.alloc (.cells #[.int .i64 (t:Int),.int .i64 (S:Int),.slice none 0 0,.slice none 0 0,.slice none 0 0] 25));have o2:=OI.nil ((w4.alloc (.cells #[.int .i64 (t:Int),.int .i64 (S:Int),.slice none 0 0,.slice none 0 0,.slice none 0 0] 25)).alloc (.cells #[] 60));simp only[World.size_alloc]at o1 o2;refine⟨zh (zh (zh P4.out _) _) _,zh (zh (zh R4.out _) _) _,zh (zh (zi _ _) _) _,OI.none _ _,?_,o2.mono (by omega),Apt.none _,Apt.none _,?_,hs4,zf (zf (zf B4.out _) _) _⟩
  ·exact OI.kept o1 (zf (Below.refl _ _) _)
  ·intro g h1 h2
   have e1:w4.heap.size+1=g:=by injection h1
   have e2:w4.heap.size+2=g:=by injection h2
   omega
 clear B4 P4 R4;refine Hid.out ?_;refine Lib.hid ?_;go_wp2;obtain⟨gc,hgc⟩:∃g,g=w4.heap.size:=⟨_,rfl⟩;rw[←hgc]at C4 ⊢;go_loopw [6,7,8] (fun vs vf i wr=>∃(k:Nat) (vi:Value),k≤N∧i=.int .i64 (k:Int)∧Hid (Cst w wr gc (.slice a N c) t S vi vs vf (yy P k) (zY P t k) (yH P t k))) (fun _ _ i _=>N- (intOf i).toNat)
 case atStart=>
  exact⟨0,.slice none 0 0,Nat.zero_le _,rfl,C4⟩
 case round=>
  clear C4 hgc hs4;obtain⟨k,vi,hk,rfl,C⟩:=hrel;obtain⟨a6,c6,hvs⟩:=C.out.os.shape;obtain⟨a7,c7,hvf⟩:=C.out.of.shape;subst hvs hvf;by_cases hlt:k<N
  ·have hkP:k<P.n:=by rw[←HN.out];exact hlt
   obtain⟨b,off,ha,hr⟩:=RD.out.cell wr k C.out.b hkP;have hI1:Hid (yy P (k+1)=yy P k++xT (reg P k) (if (P.I k).k=4 then (P.I k).K else 0) (xS (P.I k).k)):=rfl;have hI2:Hid (zY P t (k+1)=zY P t k++zU P k t (P.I k) (reg P k) (zM P k)):=rfl;have hI3:Hid (yH P t (k+1)=yH P t k++Vn P t k):=rfl;have hl1:=ZE P k;have hl2:=Ze P OK.out t k (by omega);have hl3:=ZH P OK.out t k (by omega);have hl4:=Yl P OK.out k hkP t (reg P k) (zM P k);have hl5:=XR P OK.out k hkP t;have RGk:=Hm (fun W hW=>RD.out.reg W k hW (qq hkP));have STk:=Hm (fun W hW=>ST.out W k (t:Int) hW hkP (by omega) (by omega));have GEk:=Hm (fun W hW h3=>RD.out.gen W k (t:Int) hW hkP h3 (by omega) (by omega));rw[←HN.out]at RGk STk GEk
   have hf1:Hid (Vn P t k=if (P.I k).k=1 then zU P k t (P.I k) (reg P k) (zM P k)else if (P.I k).k=3 then gen (zG P) (trE (P.I k).E (P.I k).nE) t++[⟨18,t,(k:Int)+1,0⟩]else []):=rfl;have hrl:=xV (P.I k).k;have hrg:=xw P (qq hkP);rw[←HN.out]at hrg;clear RD ST;obtain⟨V6,hV6⟩:∃v,v=(.slice a6 (zY P t k).length c6:Value):=⟨_,rfl⟩;obtain⟨V7,hV7⟩:∃v,v=(.slice a7 (yH P t k).length c7:Value):=⟨_,rfl⟩;have HV6:=Hm hV6;have HV7:=Hm hV7;rw[←hV6,←hV7]at C ⊢;clear hV6 hV7;obtain⟨⟨kk,nm,nE,nF,E,F,Kv,lo,hi⟩,hIt⟩:∃i,i=P.I k:=⟨_,rfl⟩;obtain⟨⟨aE,aF,cE,cF⟩,hLo⟩:∃l,l=L k:=⟨_,rfl⟩;rw[←hIt]at hr hI1 hI2 hl4 STk GEk hf1 hrl;rw[←hLo]at hr GEk;dsimp only at hI1 hf1 hrl GEk
   obtain⟨m0,m1,m2,m3,m4,m5,m6⟩:=It.at hr;dsimp only at m0 m1 m2 m3 m4 m5 m6;clear hIt hLo hr;obtain⟨r,hrr⟩:∃r,r=reg P k:=⟨_,rfl⟩;rw[←hrr]at hI1 hI2 hl4 STk RGk hf1 hrg;clear hrr;obtain⟨ML,hML⟩:∃M,M=zU P k t ⟨kk,nm,nE,nF,E,F,Kv,lo,hi⟩ r (zM P k):=⟨_,rfl⟩;rw[←hML]at hI2 hl4 STk hf1;clear hML;subst ha;have hszC:gc<wr.heap.size:=C.out.sz;have y0:=za C.out.pg 0;simp only[qk,ql]at y0;have k0:(0:Int)≤(k:Int):=by omega
   have k1:(k:Int)<(N:Int):=by omega
   obtain⟨W1,hW1⟩:∃W1,W1=wr.alloc (.cells #[.int .i64 kk,.string ⟨nm.toArray⟩,.slice aE nE cE,.slice aF nF cF,.int .i64 Kv,.int .i64 lo,.int .i64 hi] 77):=⟨_,rfl⟩
   have C1:Hid (Cst w W1 gc (.slice (some ⟨b,off,none⟩) N c) t S vi V6 V7 (yy P k++xT r (if kk=4 then Kv else 0) 0) (zY P t k) (yH P t k)):=by
    unfold Hid;rw[hW1,xT,List.append_nil];exact C.out.below (zf (Below.refl _ _) _)
   have J1:Hid (W1.heap[wr.heap.size]? =some (.cells #[.int .i64 kk,.string ⟨nm.toArray⟩,.slice aE nE cE,.slice aF nF cF,.int .i64 Kv,.int .i64 lo,.int .i64 hi] 77)):=by rw[hW1];exact zi _ _
   go_upto_region 12 with fail;rw[←hW1];clear hW1 m0 m1 m2 m3 m4 m5 m6 y0 C;obtain⟨gi,hgi⟩:∃g,g=wr.heap.size:=⟨_,rfl⟩;have hgg:gc<gi:=by rw[hgi];exact hszC
   rw[←hgi]at J1 ⊢;clear hgi;obtain⟨v,hv⟩:∃v,v=if kk=4 then Kv else 0:=⟨_,rfl⟩
   rw[←hv]at C1 hI1;have HVV:=Hm hv;clear hv;obtain⟨mr,hmr⟩:∃m,m=xS kk:=⟨_,rfl⟩;have RR:Hid (∀w,Calls Tryd.prog 43 #[.int .i64 kk] w fun e w'=>e=.returned (.int .i64 (mr:Int))∧w'=w):=fun w=>by rw[hmr];exact ZO kk w
   rw[←hmr]at hI1 hrl;clear hmr;go_wp2;go_loopw [10] (fun j wi=>∃(q:Nat) (vi:Value),q≤mr∧j=.int .i64 (q:Int)∧Hid (Cst w wi gc (.slice (some ⟨b,off,none⟩) N c) t S vi V6 V7 (yy P k++xT r v q) (zY P t k) (yH P t k))∧Hid (wi.heap[gi]? =some (.cells #[.int .i64 kk,.string ⟨nm.toArray⟩,.slice aE nE cE,.slice aF nF cF,.int .i64 Kv,.int .i64 lo,.int .i64 hi] 77))) (fun j _=>mr- (intOf j).toNat)
   case atStart=>exact⟨0,vi,Nat.zero_le _,rfl,C1,J1⟩
   case round=>
    clear C1 J1;obtain⟨q,vi,hq,rfl,C,J⟩:=hrel;have z0:=za J.out 0;simp only[qk,ql]at z0;have q0:(0:Int)≤(q:Int):=by omega
    by_cases hqm:q<mr
    ·have q1:(q:Int)<(mr:Int):=by omega
     have z4:=za J.out 4;simp only[qk,ql,qm]at z4;by_cases hk4:kk=4
     ·obtain rfl:Kv=v:=by rw[HVV.out,if_pos hk4]
      have f4:(kk==4)=true:=by simpa using hk4
      clear hk4;go_wp2_with (go_at_call 43;refine(RR.out _).mono ?_);rintro e w' ⟨rfl,hw⟩;rw[hw];clear hw;go_upto_region 18 with fail;clear z0 z4;obtain⟨ai,ci,hvi⟩:=C.out.oi.shape;subst hvi;obtain⟨LI,hLI⟩:∃l,l=yy P k++xT r Kv q:=⟨_,rfl⟩;have hLn:LI.length≤1000:=by rw[hLI,qg,YE];omega
      have HLI:=Hm hLI;rw[←hLI]at C;clear hLI;obtain⟨ni,hni⟩:∃n,n=LI.length:=⟨_,rfl⟩;rw[←hni]at C hLn;have HNI:=Hm hni;clear hni;have hgcw:=C.out.hg;have C:=Hm (C.out.below (Below.refl _ _).drew);have J:=Hm (ze J.out (Below.refl _ _).drew);have c2:(wr.drew).cell? ⟨gc,2,none⟩=some (.slice ai ni ci):=(za C.out.cc 2).trans rfl;have x0:(wr.drew).cell? ⟨w.heap.size,0,none⟩=some (.slice (some ⟨b,off,none⟩) N c):=(za C.out.pg 0).trans rfl;have u1:IntKind.i64.wrap ((r:Int)+(q:Int))=(r:Int)+(q:Int):=wrap_small _ (by omega) (by omega);refine wp_region_held_drew (S:=(fun w'=>w'.cell? ⟨w.heap.size,0,none⟩=some (.slice (some ⟨b,off,none⟩) N c))) (by kernel_rfl) ?_ (fun hHeld=>?_)
      ·exact x0
      refine tK 0 ?_ rfl (by kernel_rfl) (fun _ _ _ h=>h) (by rfl) ?_ (by assumption) ?_;rotate_left
      ·intro w hSw;(try dsimp only at hSw);go_simp;(try with_reducible rfl)
      rotate_left;simp only[Act.put,qa,qb,qc,qf,qe,qd];refine tK 2 ?_ rfl (by kernel_rfl) (fun _ _ _ h=>h) (by rfl) ?_ (by assumption) ?_;rotate_left
      ·intro w hSw;(try dsimp only at hSw);go_simp;(try with_reducible rfl)
      rotate_left;simp only[Act.put,qa,qb,qc,qf,qe,qd];refine tK 3 ?_ rfl (by kernel_rfl) (fun _ _ _ h=>h) (by rfl) ?_ (by assumption) ?_;rotate_left
      ·intro w hSw;(try dsimp only at hSw);go_simp;(try with_reducible rfl)
      rotate_left;simp only[Act.put,qa,qb,qc,qf,qe,qd];refine tK 5 ?_ rfl (by kernel_rfl) (fun _ _ _ h=>h) (by rfl) ?_ (by assumption) ?_;rotate_left
      ·intro w hSw;(try dsimp only at hSw);go_simp;(try with_reducible rfl)
      rotate_left;simp only[Act.put,qa,qb,qc,qf,qe,qd];refine tK 7 ?_ rfl (by kernel_rfl) (fun _ _ _ h=>h) (by rfl) ?_ (by assumption) ?_;rotate_left
      ·intro w hSw;(try dsimp only at hSw);go_simp;(try with_reducible rfl)
      rotate_left;simp only[Act.put,qa,qb,qc,qf,qe,qd];refine wpAnyH_ready (rs:=[1,4]) (by kernel_rfl) (by simp) ?_;refine AllReadyH.cons rfl (fun K hK=>?_) ?_
      ·go_simp
       refine hK.out _ _ ?_ (fun hHeld=>?_)
       ·exact(za C.out.pg 0).trans rfl
       clear hK K
       (try simp only[Act.put,qa,qb,qc,qf,qe,qd])
       refine wpAnyH_ready (rs:=[4]) (by kernel_rfl) (by simp) ?_;refine AllReadyH.cons rfl (fun K hK=>?_) ?_
       ·go_simp
        refine(RGk.out _ C.out.b).mono ?_;rintro e w' ⟨rfl,hb⟩;have C:=Hm (C.out.below hb);have J:=Hm (ze J.out hb);have c2:w'.cell? ⟨gc,2,none⟩=some (.slice ai ni ci):=(za C.out.cc 2).trans rfl;clear hb;refine hK.out _ _ ?_ (fun hHeld=>?_)
        ·exact(za C.out.pg 0).trans rfl
        clear hK K
        (try simp only[Act.put,qa,qb,qc,qf,qe,qd])
        refine tK 6 ?_ rfl (by kernel_rfl) (fun _ _ _ h=>h) (by rfl) ?_ (by assumption) ?_;rotate_left
        ·intro w hSw;(try dsimp only at hSw);go_simp;(try with_reducible rfl)
        rotate_left;simp only[Act.put,qa,qb,qc,qf,qe,qd];refine wpAnyH_ready (rs:=[8]) (by kernel_rfl) (by simp) ?_;refine AllReadyH.cons rfl (fun K hK=>?_) ?_
        ·go_simp
         refine(Dec.insS _ _ _ _ _).mono ?_;rintro e w' ⟨rfl,hb⟩;have C:=Hm (C.out.below hb);have J:=Hm (ze J.out hb);have c2:w'.cell? ⟨gc,2,none⟩=some (.slice ai ni ci):=(za C.out.cc 2).trans rfl;clear hb;refine hK.out _ _ ?_ (fun hHeld=>?_)
         ·exact(za C.out.pg 0).trans rfl
         clear hK K
         (try simp only[Act.put,qa,qb,qc,qf,qe,qd])
         refine wpAnyH_ready (rs:=[9]) (by kernel_rfl) (by simp) ?_;refine AllReadyH.cons rfl (fun K hK=>?_) ?_
         ·go_simp
          have c2:=zr c2 (.cells #[.int .i64 1,.int .i64 ((r:Int)+(q:Int)),.int .i64 Kv,.int .i64 0] 60);have CA:=Hm (C.out.below (zf (Below.refl _ _) (.cells #[.int .i64 1,.int .i64 ((r:Int)+(q:Int)),.int .i64 Kv,.int .i64 0] 60)));have RW:Hid ((w'.alloc (.cells #[.int .i64 1,.int .i64 ((r:Int)+(q:Int)),.int .i64 Kv,.int .i64 0] 60)).ownsRow (gc+1) 60 4 (.slice ai ni ci) ni (isC LI)):=by have:=CA.out.oi;unfold OI at this;rw[←HNI.out]at this;exact this
          refine hK.out _ _ ?_ (fun hHeld=>?_)
          ·exact(za CA.out.pg 0).trans rfl
          clear hK K
          (try simp only[Act.put,qa,qb,qc,qf,qe,qd])
          refine wpAnyH_ready (rs:=[10]) (by kernel_rfl) (by simp) ?_;refine AllReadyH.cons rfl (fun K hK=>?_) ?_
          ·refine zm rfl (.tmp 55) (.tmp 63) 23 rfl (gc+1) 60 i0 (.agg #[.int .i64 0,.int .i64 0,.int .i64 0,.int .i64 0]) 4 32 Tryd.underlying23 hi0 hz0 hz1 hz2 rfl (by decide) (.slice ai ni ci) ni (isC LI) (by simp[Act.eval,Act.put]) RW.out ⟨w'.heap.size,0,none⟩ 1 1 (isC [⟨1,(r:Int)+(q:Int),Kv,0⟩]) (by simp[Act.eval,Act.put]) rfl (xk w' ⟨1,(r:Int)+(q:Int),Kv,0⟩ 60) (ym _) (by unfold maxLen;omega) (by omega) CA.out.sz ?_
           intro vn w7 hown hgrow hblk;have ON:=Hm (OI.snocs (M:=[⟨1,(r:Int)+(q:Int),Kv,0⟩]) HNI.out rfl hown);obtain⟨an,cn,hvn⟩:=ON.out.shape;obtain⟨nn,hnn⟩:∃n,n=(LI++[(⟨1,(r:Int)+(q:Int),Kv,0⟩:Is)]).length:=⟨_,rfl⟩;rw[←hnn]at hvn;clear hnn;subst hvn;have CI:=Hm (CA.out.appI ON.out hgrow hblk);have PG7:=Hm (zl hgrow CA.out.oi CA.out.pg (by decide));have CC7:=Hm (zl hgrow CA.out.oi CA.out.cc (by decide));have JI:=Hm (zd (p:=⟨gc,2,none⟩) (zl hgrow CA.out.oi (zh J.out (.cells #[.int .i64 1,.int .i64 ((r:Int)+(q:Int)),.int .i64 Kv,.int .i64 0] 60)) (by decide)) (show gi≠gc by omega) (.slice an nn cn));have d2:w7.cell? ⟨gc,2,none⟩=some (.slice ai ni ci):=(za CC7.out 2).trans rfl;have d3:=zb CC7.out 2
           clear hown hgrow hblk;refine hK.out _ _ ?_ (fun hHeld=>?_)
           ·exact(za PG7.out 0).trans rfl
           clear hK K
           (try simp only[Act.put,qa,qb,qc,qf,qe,qd])
           refine tK 11 ?_ rfl (by kernel_rfl) (fun _ _ _ h=>h) (by rfl) ?_ (by assumption) ?_;rotate_left
           ·intro w hSw;(try dsimp only at hSw);go_simp;(try with_reducible rfl)
           rotate_left;simp only[Act.put,qa,qb,qc,qf,qe,qd];refine wpAnyH_ready (rs:=[12]) (by kernel_rfl) (by simp) ?_;refine AllReadyH.cons rfl (fun K hK=>?_) ?_
           ·go_simp
            refine hK.out _ _ ?_ (fun hHeld=>?_)
            ·exact(za CI.out.pg 0).trans rfl
            clear hK K
            (try simp only[Act.put,qa,qb,qc,qf,qe,qd])
            refine wpAnyH_done (by kernel_rfl) ?_ _
            have HQ:Hid (Cst w (w7.setCell ⟨gc,2,none⟩ (.slice an nn cn)) gc (.slice (some ⟨b,off,none⟩) N c) t S (.slice an nn cn) V6 V7 (yy P k++xT r Kv (q+1)) (zY P t k) (yH P t k)):=by
             have:=CI.out;rw[HLI.out,qj]at this;exact this
            go_wp2;exact⟨⟨q+1,_,by omega,by go_num,HQ,JI⟩,by simp[intOf];omega⟩
           exact AllReadyH.nil
          exact AllReadyH.nil
         exact AllReadyH.nil
        exact AllReadyH.nil
       exact AllReadyH.nil
      refine AllReadyH.cons rfl (fun K hK=>?_) ?_
      ·go_simp
       refine(RGk.out _ C.out.b).mono ?_;rintro e w' ⟨rfl,hb⟩;have C:=Hm (C.out.below hb);have J:=Hm (ze J.out hb);have c2:w'.cell? ⟨gc,2,none⟩=some (.slice ai ni ci):=(za C.out.cc 2).trans rfl;clear hb;refine hK.out _ _ ?_ (fun hHeld=>?_)
       ·exact(za C.out.pg 0).trans rfl
       clear hK K
       (try simp only[Act.put,qa,qb,qc,qf,qe,qd])
       refine tK 6 ?_ rfl (by kernel_rfl) (fun _ _ _ h=>h) (by rfl) ?_ (by assumption) ?_;rotate_left
       ·intro w hSw;(try dsimp only at hSw);go_simp;(try with_reducible rfl)
       rotate_left;simp only[Act.put,qa,qb,qc,qf,qe,qd];refine wpAnyH_ready (rs:=[1,8]) (by kernel_rfl) (by simp) ?_;refine AllReadyH.cons rfl (fun K hK=>?_) ?_
       ·go_simp
        refine hK.out _ _ ?_ (fun hHeld=>?_)
        ·exact(za C.out.pg 0).trans rfl
        clear hK K
        (try simp only[Act.put,qa,qb,qc,qf,qe,qd])
        refine wpAnyH_ready (rs:=[8]) (by kernel_rfl) (by simp) ?_;refine AllReadyH.cons rfl (fun K hK=>?_) ?_
        ·go_simp
         refine(Dec.insS _ _ _ _ _).mono ?_;rintro e w' ⟨rfl,hb⟩;have C:=Hm (C.out.below hb);have J:=Hm (ze J.out hb);have c2:w'.cell? ⟨gc,2,none⟩=some (.slice ai ni ci):=(za C.out.cc 2).trans rfl;clear hb;refine hK.out _ _ ?_ (fun hHeld=>?_)
         ·exact(za C.out.pg 0).trans rfl
         clear hK K
         (try simp only[Act.put,qa,qb,qc,qf,qe,qd])
         refine wpAnyH_ready (rs:=[9]) (by kernel_rfl) (by simp) ?_;refine AllReadyH.cons rfl (fun K hK=>?_) ?_
         ·go_simp
          have c2:=zr c2 (.cells #[.int .i64 1,.int .i64 ((r:Int)+(q:Int)),.int .i64 Kv,.int .i64 0] 60);have CA:=Hm (C.out.below (zf (Below.refl _ _) (.cells #[.int .i64 1,.int .i64 ((r:Int)+(q:Int)),.int .i64 Kv,.int .i64 0] 60)));have RW:Hid ((w'.alloc (.cells #[.int .i64 1,.int .i64 ((r:Int)+(q:Int)),.int .i64 Kv,.int .i64 0] 60)).ownsRow (gc+1) 60 4 (.slice ai ni ci) ni (isC LI)):=by have:=CA.out.oi;unfold OI at this;rw[←HNI.out]at this;exact this
          refine hK.out _ _ ?_ (fun hHeld=>?_)
          ·exact(za CA.out.pg 0).trans rfl
          clear hK K
          (try simp only[Act.put,qa,qb,qc,qf,qe,qd])
          refine wpAnyH_ready (rs:=[10]) (by kernel_rfl) (by simp) ?_;refine AllReadyH.cons rfl (fun K hK=>?_) ?_
          ·refine zm rfl (.tmp 55) (.tmp 63) 23 rfl (gc+1) 60 i0 (.agg #[.int .i64 0,.int .i64 0,.int .i64 0,.int .i64 0]) 4 32 Tryd.underlying23 hi0 hz0 hz1 hz2 rfl (by decide) (.slice ai ni ci) ni (isC LI) (by simp[Act.eval,Act.put]) RW.out ⟨w'.heap.size,0,none⟩ 1 1 (isC [⟨1,(r:Int)+(q:Int),Kv,0⟩]) (by simp[Act.eval,Act.put]) rfl (xk w' ⟨1,(r:Int)+(q:Int),Kv,0⟩ 60) (ym _) (by unfold maxLen;omega) (by omega) CA.out.sz ?_
           intro vn w7 hown hgrow hblk;have ON:=Hm (OI.snocs (M:=[⟨1,(r:Int)+(q:Int),Kv,0⟩]) HNI.out rfl hown);obtain⟨an,cn,hvn⟩:=ON.out.shape;obtain⟨nn,hnn⟩:∃n,n=(LI++[(⟨1,(r:Int)+(q:Int),Kv,0⟩:Is)]).length:=⟨_,rfl⟩;rw[←hnn]at hvn;clear hnn;subst hvn;have CI:=Hm (CA.out.appI ON.out hgrow hblk);have PG7:=Hm (zl hgrow CA.out.oi CA.out.pg (by decide));have CC7:=Hm (zl hgrow CA.out.oi CA.out.cc (by decide));have JI:=Hm (zd (p:=⟨gc,2,none⟩) (zl hgrow CA.out.oi (zh J.out (.cells #[.int .i64 1,.int .i64 ((r:Int)+(q:Int)),.int .i64 Kv,.int .i64 0] 60)) (by decide)) (show gi≠gc by omega) (.slice an nn cn));have d2:w7.cell? ⟨gc,2,none⟩=some (.slice ai ni ci):=(za CC7.out 2).trans rfl;have d3:=zb CC7.out 2
           clear hown hgrow hblk;refine hK.out _ _ ?_ (fun hHeld=>?_)
           ·exact(za PG7.out 0).trans rfl
           clear hK K
           (try simp only[Act.put,qa,qb,qc,qf,qe,qd])
           refine tK 11 ?_ rfl (by kernel_rfl) (fun _ _ _ h=>h) (by rfl) ?_ (by assumption) ?_;rotate_left
           ·intro w hSw;(try dsimp only at hSw);go_simp;(try with_reducible rfl)
           rotate_left;simp only[Act.put,qa,qb,qc,qf,qe,qd];refine wpAnyH_ready (rs:=[12]) (by kernel_rfl) (by simp) ?_;refine AllReadyH.cons rfl (fun K hK=>?_) ?_
           ·go_simp
            refine hK.out _ _ ?_ (fun hHeld=>?_)
            ·exact(za CI.out.pg 0).trans rfl
            clear hK K
            (try simp only[Act.put,qa,qb,qc,qf,qe,qd])
            refine wpAnyH_done (by kernel_rfl) ?_ _
            have HQ:Hid (Cst w (w7.setCell ⟨gc,2,none⟩ (.slice an nn cn)) gc (.slice (some ⟨b,off,none⟩) N c) t S (.slice an nn cn) V6 V7 (yy P k++xT r Kv (q+1)) (zY P t k) (yH P t k)):=by
             have:=CI.out;rw[HLI.out,qj]at this;exact this
            go_wp2;exact⟨⟨q+1,_,by omega,by go_num,HQ,JI⟩,by simp[intOf];omega⟩
           exact AllReadyH.nil
          exact AllReadyH.nil
         exact AllReadyH.nil
        exact AllReadyH.nil
       refine AllReadyH.cons rfl (fun K hK=>?_) ?_
       ·go_simp
        refine(Dec.insS _ _ _ _ _).mono ?_;rintro e w' ⟨rfl,hb⟩;have C:=Hm (C.out.below hb);have J:=Hm (ze J.out hb);have c2:w'.cell? ⟨gc,2,none⟩=some (.slice ai ni ci):=(za C.out.cc 2).trans rfl;clear hb;refine hK.out _ _ ?_ (fun hHeld=>?_)
        ·exact(za C.out.pg 0).trans rfl
        clear hK K
        (try simp only[Act.put,qa,qb,qc,qf,qe,qd])
        refine wpAnyH_ready (rs:=[1,9]) (by kernel_rfl) (by simp) ?_;refine AllReadyH.cons rfl (fun K hK=>?_) ?_
        ·go_simp
         refine hK.out _ _ ?_ (fun hHeld=>?_)
         ·exact(za C.out.pg 0).trans rfl
         clear hK K
         (try simp only[Act.put,qa,qb,qc,qf,qe,qd])
         refine wpAnyH_ready (rs:=[9]) (by kernel_rfl) (by simp) ?_;refine AllReadyH.cons rfl (fun K hK=>?_) ?_
         ·go_simp
          have c2:=zr c2 (.cells #[.int .i64 1,.int .i64 ((r:Int)+(q:Int)),.int .i64 Kv,.int .i64 0] 60);have CA:=Hm (C.out.below (zf (Below.refl _ _) (.cells #[.int .i64 1,.int .i64 ((r:Int)+(q:Int)),.int .i64 Kv,.int .i64 0] 60)));have RW:Hid ((w'.alloc (.cells #[.int .i64 1,.int .i64 ((r:Int)+(q:Int)),.int .i64 Kv,.int .i64 0] 60)).ownsRow (gc+1) 60 4 (.slice ai ni ci) ni (isC LI)):=by have:=CA.out.oi;unfold OI at this;rw[←HNI.out]at this;exact this
          refine hK.out _ _ ?_ (fun hHeld=>?_)
          ·exact(za CA.out.pg 0).trans rfl
          clear hK K
          (try simp only[Act.put,qa,qb,qc,qf,qe,qd])
          refine wpAnyH_ready (rs:=[10]) (by kernel_rfl) (by simp) ?_;refine AllReadyH.cons rfl (fun K hK=>?_) ?_
          ·refine zm rfl (.tmp 55) (.tmp 63) 23 rfl (gc+1) 60 i0 (.agg #[.int .i64 0,.int .i64 0,.int .i64 0,.int .i64 0]) 4 32 Tryd.underlying23 hi0 hz0 hz1 hz2 rfl (by decide) (.slice ai ni ci) ni (isC LI) (by simp[Act.eval,Act.put]) RW.out ⟨w'.heap.size,0,none⟩ 1 1 (isC [⟨1,(r:Int)+(q:Int),Kv,0⟩]) (by simp[Act.eval,Act.put]) rfl (xk w' ⟨1,(r:Int)+(q:Int),Kv,0⟩ 60) (ym _) (by unfold maxLen;omega) (by omega) CA.out.sz ?_
           intro vn w7 hown hgrow hblk;have ON:=Hm (OI.snocs (M:=[⟨1,(r:Int)+(q:Int),Kv,0⟩]) HNI.out rfl hown);obtain⟨an,cn,hvn⟩:=ON.out.shape;obtain⟨nn,hnn⟩:∃n,n=(LI++[(⟨1,(r:Int)+(q:Int),Kv,0⟩:Is)]).length:=⟨_,rfl⟩;rw[←hnn]at hvn;clear hnn;subst hvn;have CI:=Hm (CA.out.appI ON.out hgrow hblk);have PG7:=Hm (zl hgrow CA.out.oi CA.out.pg (by decide));have CC7:=Hm (zl hgrow CA.out.oi CA.out.cc (by decide));have JI:=Hm (zd (p:=⟨gc,2,none⟩) (zl hgrow CA.out.oi (zh J.out (.cells #[.int .i64 1,.int .i64 ((r:Int)+(q:Int)),.int .i64 Kv,.int .i64 0] 60)) (by decide)) (show gi≠gc by omega) (.slice an nn cn));have d2:w7.cell? ⟨gc,2,none⟩=some (.slice ai ni ci):=(za CC7.out 2).trans rfl;have d3:=zb CC7.out 2
           clear hown hgrow hblk;refine hK.out _ _ ?_ (fun hHeld=>?_)
           ·exact(za PG7.out 0).trans rfl
           clear hK K
           (try simp only[Act.put,qa,qb,qc,qf,qe,qd])
           refine tK 11 ?_ rfl (by kernel_rfl) (fun _ _ _ h=>h) (by rfl) ?_ (by assumption) ?_;rotate_left
           ·intro w hSw;(try dsimp only at hSw);go_simp;(try with_reducible rfl)
           rotate_left;simp only[Act.put,qa,qb,qc,qf,qe,qd];refine wpAnyH_ready (rs:=[12]) (by kernel_rfl) (by simp) ?_;refine AllReadyH.cons rfl (fun K hK=>?_) ?_
           ·go_simp
            refine hK.out _ _ ?_ (fun hHeld=>?_)
            ·exact(za CI.out.pg 0).trans rfl
            clear hK K
            (try simp only[Act.put,qa,qb,qc,qf,qe,qd])
            refine wpAnyH_done (by kernel_rfl) ?_ _
            have HQ:Hid (Cst w (w7.setCell ⟨gc,2,none⟩ (.slice an nn cn)) gc (.slice (some ⟨b,off,none⟩) N c) t S (.slice an nn cn) V6 V7 (yy P k++xT r Kv (q+1)) (zY P t k) (yH P t k)):=by
             have:=CI.out;rw[HLI.out,qj]at this;exact this
            go_wp2;exact⟨⟨q+1,_,by omega,by go_num,HQ,JI⟩,by simp[intOf];omega⟩
           exact AllReadyH.nil
          exact AllReadyH.nil
         exact AllReadyH.nil
        refine AllReadyH.cons rfl (fun K hK=>?_) ?_
        ·go_simp
         have c2:=zr c2 (.cells #[.int .i64 1,.int .i64 ((r:Int)+(q:Int)),.int .i64 Kv,.int .i64 0] 60);have CA:=Hm (C.out.below (zf (Below.refl _ _) (.cells #[.int .i64 1,.int .i64 ((r:Int)+(q:Int)),.int .i64 Kv,.int .i64 0] 60)));have RW:Hid ((w'.alloc (.cells #[.int .i64 1,.int .i64 ((r:Int)+(q:Int)),.int .i64 Kv,.int .i64 0] 60)).ownsRow (gc+1) 60 4 (.slice ai ni ci) ni (isC LI)):=by have:=CA.out.oi;unfold OI at this;rw[←HNI.out]at this;exact this
         refine hK.out _ _ ?_ (fun hHeld=>?_)
         ·exact(za CA.out.pg 0).trans rfl
         clear hK K
         (try simp only[Act.put,qa,qb,qc,qf,qe,qd])
         refine wpAnyH_ready (rs:=[1]) (by kernel_rfl) (by simp) ?_;refine AllReadyH.cons rfl (fun K hK=>?_) ?_
         ·go_simp
          refine hK.out _ _ ?_ (fun hHeld=>?_)
          ·exact(za CA.out.pg 0).trans rfl
          clear hK K
          (try simp only[Act.put,qa,qb,qc,qf,qe,qd])
          refine wpAnyH_ready (rs:=[10]) (by kernel_rfl) (by simp) ?_;refine AllReadyH.cons rfl (fun K hK=>?_) ?_
          ·refine zm rfl (.tmp 55) (.tmp 63) 23 rfl (gc+1) 60 i0 (.agg #[.int .i64 0,.int .i64 0,.int .i64 0,.int .i64 0]) 4 32 Tryd.underlying23 hi0 hz0 hz1 hz2 rfl (by decide) (.slice ai ni ci) ni (isC LI) (by simp[Act.eval,Act.put]) RW.out ⟨w'.heap.size,0,none⟩ 1 1 (isC [⟨1,(r:Int)+(q:Int),Kv,0⟩]) (by simp[Act.eval,Act.put]) rfl (xk w' ⟨1,(r:Int)+(q:Int),Kv,0⟩ 60) (ym _) (by unfold maxLen;omega) (by omega) CA.out.sz ?_
           intro vn w7 hown hgrow hblk;have ON:=Hm (OI.snocs (M:=[⟨1,(r:Int)+(q:Int),Kv,0⟩]) HNI.out rfl hown);obtain⟨an,cn,hvn⟩:=ON.out.shape;obtain⟨nn,hnn⟩:∃n,n=(LI++[(⟨1,(r:Int)+(q:Int),Kv,0⟩:Is)]).length:=⟨_,rfl⟩;rw[←hnn]at hvn;clear hnn;subst hvn;have CI:=Hm (CA.out.appI ON.out hgrow hblk);have PG7:=Hm (zl hgrow CA.out.oi CA.out.pg (by decide));have CC7:=Hm (zl hgrow CA.out.oi CA.out.cc (by decide));have JI:=Hm (zd (p:=⟨gc,2,none⟩) (zl hgrow CA.out.oi (zh J.out (.cells #[.int .i64 1,.int .i64 ((r:Int)+(q:Int)),.int .i64 Kv,.int .i64 0] 60)) (by decide)) (show gi≠gc by omega) (.slice an nn cn));have d2:w7.cell? ⟨gc,2,none⟩=some (.slice ai ni ci):=(za CC7.out 2).trans rfl;have d3:=zb CC7.out 2
           clear hown hgrow hblk;refine hK.out _ _ ?_ (fun hHeld=>?_)
           ·exact(za PG7.out 0).trans rfl
           clear hK K
           (try simp only[Act.put,qa,qb,qc,qf,qe,qd])
           refine tK 11 ?_ rfl (by kernel_rfl) (fun _ _ _ h=>h) (by rfl) ?_ (by assumption) ?_;rotate_left
           ·intro w hSw;(try dsimp only at hSw);go_simp;(try with_reducible rfl)
           rotate_left;simp only[Act.put,qa,qb,qc,qf,qe,qd];refine wpAnyH_ready (rs:=[12]) (by kernel_rfl) (by simp) ?_;refine AllReadyH.cons rfl (fun K hK=>?_) ?_
           ·go_simp
            refine hK.out _ _ ?_ (fun hHeld=>?_)
            ·exact(za CI.out.pg 0).trans rfl
            clear hK K
            (try simp only[Act.put,qa,qb,qc,qf,qe,qd])
            refine wpAnyH_done (by kernel_rfl) ?_ _
            have HQ:Hid (Cst w (w7.setCell ⟨gc,2,none⟩ (.slice an nn cn)) gc (.slice (some ⟨b,off,none⟩) N c) t S (.slice an nn cn) V6 V7 (yy P k++xT r Kv (q+1)) (zY P t k) (yH P t k)):=by
             have:=CI.out;rw[HLI.out,qj]at this;exact this
            go_wp2;exact⟨⟨q+1,_,by omega,by go_num,HQ,JI⟩,by simp[intOf];omega⟩
           exact AllReadyH.nil
          exact AllReadyH.nil
         exact AllReadyH.nil
        exact AllReadyH.nil
       exact AllReadyH.nil
      exact AllReadyH.nil
     ·have f4:(kk==4)=false:=by simpa using hk4
      obtain rfl:v=0:=by rw[HVV.out,if_neg hk4]
      go_wp2_with (go_at_call 43;refine(RR.out _).mono ?_);rintro e w' ⟨rfl,hw⟩;rw[hw];clear hw;go_upto_region 18 with fail;clear z0 z4;obtain⟨ai,ci,hvi⟩:=C.out.oi.shape;subst hvi;obtain⟨LI,hLI⟩:∃l,l=yy P k++xT r 0 q:=⟨_,rfl⟩;have hLn:LI.length≤1000:=by rw[hLI,qg,YE];omega
      have HLI:=Hm hLI;rw[←hLI]at C;clear hLI;obtain⟨ni,hni⟩:∃n,n=LI.length:=⟨_,rfl⟩;rw[←hni]at C hLn;have HNI:=Hm hni;clear hni;have hgcw:=C.out.hg;have C:=Hm (C.out.below (Below.refl _ _).drew);have J:=Hm (ze J.out (Below.refl _ _).drew);have c2:(wr.drew).cell? ⟨gc,2,none⟩=some (.slice ai ni ci):=(za C.out.cc 2).trans rfl;have x0:(wr.drew).cell? ⟨w.heap.size,0,none⟩=some (.slice (some ⟨b,off,none⟩) N c):=(za C.out.pg 0).trans rfl;have u1:IntKind.i64.wrap ((r:Int)+(q:Int))=(r:Int)+(q:Int):=wrap_small _ (by omega) (by omega);refine wp_region_held_drew (S:=(fun w'=>w'.cell? ⟨w.heap.size,0,none⟩=some (.slice (some ⟨b,off,none⟩) N c))) (by kernel_rfl) ?_ (fun hHeld=>?_)
      ·exact x0
      refine tK 0 ?_ rfl (by kernel_rfl) (fun _ _ _ h=>h) (by rfl) ?_ (by assumption) ?_;rotate_left
      ·intro w hSw;(try dsimp only at hSw);go_simp;(try with_reducible rfl)
      rotate_left;simp only[Act.put,qa,qb,qc,qf,qe,qd];refine tK 2 ?_ rfl (by kernel_rfl) (fun _ _ _ h=>h) (by rfl) ?_ (by assumption) ?_;rotate_left
      ·intro w hSw;(try dsimp only at hSw);go_simp;(try with_reducible rfl)
      rotate_left;simp only[Act.put,qa,qb,qc,qf,qe,qd];refine tK 3 ?_ rfl (by kernel_rfl) (fun _ _ _ h=>h) (by rfl) ?_ (by assumption) ?_;rotate_left
      ·intro w hSw;(try dsimp only at hSw);go_simp;(try with_reducible rfl)
      rotate_left;simp only[Act.put,qa,qb,qc,qf,qe,qd];refine tK 5 ?_ rfl (by kernel_rfl) (fun _ _ _ h=>h) (by rfl) ?_ (by assumption) ?_;rotate_left
      ·intro w hSw;(try dsimp only at hSw);go_simp;(try with_reducible rfl)
      rotate_left;simp only[Act.put,qa,qb,qc,qf,qe,qd];refine tK 7 ?_ rfl (by kernel_rfl) (fun _ _ _ h=>h) (by rfl) ?_ (by assumption) ?_;rotate_left
      ·intro w hSw;(try dsimp only at hSw);go_simp;(try with_reducible rfl)
      rotate_left;simp only[Act.put,qa,qb,qc,qf,qe,qd];refine wpAnyH_ready (rs:=[1,4]) (by kernel_rfl) (by simp) ?_;refine AllReadyH.cons rfl (fun K hK=>?_) ?_
      ·go_simp
       refine hK.out _ _ ?_ (fun hHeld=>?_)
       ·exact(za C.out.pg 0).trans rfl
       clear hK K
       (try simp only[Act.put,qa,qb,qc,qf,qe,qd])
       refine wpAnyH_ready (rs:=[4]) (by kernel_rfl) (by simp) ?_;refine AllReadyH.cons rfl (fun K hK=>?_) ?_
       ·go_simp
        refine(RGk.out _ C.out.b).mono ?_;rintro e w' ⟨rfl,hb⟩;have C:=Hm (C.out.below hb);have J:=Hm (ze J.out hb);have c2:w'.cell? ⟨gc,2,none⟩=some (.slice ai ni ci):=(za C.out.cc 2).trans rfl;clear hb;refine hK.out _ _ ?_ (fun hHeld=>?_)
        ·exact(za C.out.pg 0).trans rfl
        clear hK K
        (try simp only[Act.put,qa,qb,qc,qf,qe,qd])
        refine tK 6 ?_ rfl (by kernel_rfl) (fun _ _ _ h=>h) (by rfl) ?_ (by assumption) ?_;rotate_left
        ·intro w hSw;(try dsimp only at hSw);go_simp;(try with_reducible rfl)
        rotate_left;simp only[Act.put,qa,qb,qc,qf,qe,qd];refine wpAnyH_ready (rs:=[8]) (by kernel_rfl) (by simp) ?_;refine AllReadyH.cons rfl (fun K hK=>?_) ?_
        ·go_simp
         refine(Dec.insS _ _ _ _ _).mono ?_;rintro e w' ⟨rfl,hb⟩;have C:=Hm (C.out.below hb);have J:=Hm (ze J.out hb);have c2:w'.cell? ⟨gc,2,none⟩=some (.slice ai ni ci):=(za C.out.cc 2).trans rfl;clear hb;refine hK.out _ _ ?_ (fun hHeld=>?_)
         ·exact(za C.out.pg 0).trans rfl
         clear hK K
         (try simp only[Act.put,qa,qb,qc,qf,qe,qd])
         refine wpAnyH_ready (rs:=[9]) (by kernel_rfl) (by simp) ?_;refine AllReadyH.cons rfl (fun K hK=>?_) ?_
         ·go_simp
          have c2:=zr c2 (.cells #[.int .i64 1,.int .i64 ((r:Int)+(q:Int)),.int .i64 0,.int .i64 0] 60);have CA:=Hm (C.out.below (zf (Below.refl _ _) (.cells #[.int .i64 1,.int .i64 ((r:Int)+(q:Int)),.int .i64 0,.int .i64 0] 60)));have RW:Hid ((w'.alloc (.cells #[.int .i64 1,.int .i64 ((r:Int)+(q:Int)),.int .i64 0,.int .i64 0] 60)).ownsRow (gc+1) 60 4 (.slice ai ni ci) ni (isC LI)):=by have:=CA.out.oi;unfold OI at this;rw[←HNI.out]at this;exact this
          refine hK.out _ _ ?_ (fun hHeld=>?_)
          ·exact(za CA.out.pg 0).trans rfl
          clear hK K
          (try simp only[Act.put,qa,qb,qc,qf,qe,qd])
          refine wpAnyH_ready (rs:=[10]) (by kernel_rfl) (by simp) ?_;refine AllReadyH.cons rfl (fun K hK=>?_) ?_
          ·refine zm rfl (.tmp 55) (.tmp 63) 23 rfl (gc+1) 60 i0 (.agg #[.int .i64 0,.int .i64 0,.int .i64 0,.int .i64 0]) 4 32 Tryd.underlying23 hi0 hz0 hz1 hz2 rfl (by decide) (.slice ai ni ci) ni (isC LI) (by simp[Act.eval,Act.put]) RW.out ⟨w'.heap.size,0,none⟩ 1 1 (isC [⟨1,(r:Int)+(q:Int),0,0⟩]) (by simp[Act.eval,Act.put]) rfl (xk w' ⟨1,(r:Int)+(q:Int),0,0⟩ 60) (ym _) (by unfold maxLen;omega) (by omega) CA.out.sz ?_
           intro vn w7 hown hgrow hblk;have ON:=Hm (OI.snocs (M:=[⟨1,(r:Int)+(q:Int),0,0⟩]) HNI.out rfl hown);obtain⟨an,cn,hvn⟩:=ON.out.shape;obtain⟨nn,hnn⟩:∃n,n=(LI++[(⟨1,(r:Int)+(q:Int),0,0⟩:Is)]).length:=⟨_,rfl⟩;rw[←hnn]at hvn;clear hnn;subst hvn;have CI:=Hm (CA.out.appI ON.out hgrow hblk);have PG7:=Hm (zl hgrow CA.out.oi CA.out.pg (by decide));have CC7:=Hm (zl hgrow CA.out.oi CA.out.cc (by decide));have JI:=Hm (zd (p:=⟨gc,2,none⟩) (zl hgrow CA.out.oi (zh J.out (.cells #[.int .i64 1,.int .i64 ((r:Int)+(q:Int)),.int .i64 0,.int .i64 0] 60)) (by decide)) (show gi≠gc by omega) (.slice an nn cn));have d2:w7.cell? ⟨gc,2,none⟩=some (.slice ai ni ci):=(za CC7.out 2).trans rfl;have d3:=zb CC7.out 2
           clear hown hgrow hblk;refine hK.out _ _ ?_ (fun hHeld=>?_)
           ·exact(za PG7.out 0).trans rfl
           clear hK K
           (try simp only[Act.put,qa,qb,qc,qf,qe,qd])
           refine tK 11 ?_ rfl (by kernel_rfl) (fun _ _ _ h=>h) (by rfl) ?_ (by assumption) ?_;rotate_left
           ·intro w hSw;(try dsimp only at hSw);go_simp;(try with_reducible rfl)
           rotate_left;simp only[Act.put,qa,qb,qc,qf,qe,qd];refine wpAnyH_ready (rs:=[12]) (by kernel_rfl) (by simp) ?_;refine AllReadyH.cons rfl (fun K hK=>?_) ?_
           ·go_simp
            refine hK.out _ _ ?_ (fun hHeld=>?_)
            ·exact(za CI.out.pg 0).trans rfl
            clear hK K
            (try simp only[Act.put,qa,qb,qc,qf,qe,qd])
            refine wpAnyH_done (by kernel_rfl) ?_ _
            have HQ:Hid (Cst w (w7.setCell ⟨gc,2,none⟩ (.slice an nn cn)) gc (.slice (some ⟨b,off,none⟩) N c) t S (.slice an nn cn) V6 V7 (yy P k++xT r 0 (q+1)) (zY P t k) (yH P t k)):=by
             have:=CI.out;rw[HLI.out,qj]at this;exact this
            go_wp2;exact⟨⟨q+1,_,by omega,by go_num,HQ,JI⟩,by simp[intOf];omega⟩
           exact AllReadyH.nil
          exact AllReadyH.nil
         exact AllReadyH.nil
        exact AllReadyH.nil
       exact AllReadyH.nil
      refine AllReadyH.cons rfl (fun K hK=>?_) ?_
      ·go_simp
       refine(RGk.out _ C.out.b).mono ?_;rintro e w' ⟨rfl,hb⟩;have C:=Hm (C.out.below hb);have J:=Hm (ze J.out hb);have c2:w'.cell? ⟨gc,2,none⟩=some (.slice ai ni ci):=(za C.out.cc 2).trans rfl;clear hb;refine hK.out _ _ ?_ (fun hHeld=>?_)
       ·exact(za C.out.pg 0).trans rfl
       clear hK K
       (try simp only[Act.put,qa,qb,qc,qf,qe,qd])
       refine tK 6 ?_ rfl (by kernel_rfl) (fun _ _ _ h=>h) (by rfl) ?_ (by assumption) ?_;rotate_left
       ·intro w hSw;(try dsimp only at hSw);go_simp;(try with_reducible rfl)
       rotate_left;simp only[Act.put,qa,qb,qc,qf,qe,qd];refine wpAnyH_ready (rs:=[1,8]) (by kernel_rfl) (by simp) ?_;refine AllReadyH.cons rfl (fun K hK=>?_) ?_
       ·go_simp
        refine hK.out _ _ ?_ (fun hHeld=>?_)
        ·exact(za C.out.pg 0).trans rfl
        clear hK K
        (try simp only[Act.put,qa,qb,qc,qf,qe,qd])
        refine wpAnyH_ready (rs:=[8]) (by kernel_rfl) (by simp) ?_;refine AllReadyH.cons rfl (fun K hK=>?_) ?_
        ·go_simp
         refine(Dec.insS _ _ _ _ _).mono ?_;rintro e w' ⟨rfl,hb⟩;have C:=Hm (C.out.below hb);have J:=Hm (ze J.out hb);have c2:w'.cell? ⟨gc,2,none⟩=some (.slice ai ni ci):=(za C.out.cc 2).trans rfl;clear hb;refine hK.out _ _ ?_ (fun hHeld=>?_)
         ·exact(za C.out.pg 0).trans rfl
         clear hK K
         (try simp only[Act.put,qa,qb,qc,qf,qe,qd])
         refine wpAnyH_ready (rs:=[9]) (by kernel_rfl) (by simp) ?_;refine AllReadyH.cons rfl (fun K hK=>?_) ?_
         ·go_simp
          have c2:=zr c2 (.cells #[.int .i64 1,.int .i64 ((r:Int)+(q:Int)),.int .i64 0,.int .i64 0] 60);have CA:=Hm (C.out.below (zf (Below.refl _ _) (.cells #[.int .i64 1,.int .i64 ((r:Int)+(q:Int)),.int .i64 0,.int .i64 0] 60)));have RW:Hid ((w'.alloc (.cells #[.int .i64 1,.int .i64 ((r:Int)+(q:Int)),.int .i64 0,.int .i64 0] 60)).ownsRow (gc+1) 60 4 (.slice ai ni ci) ni (isC LI)):=by have:=CA.out.oi;unfold OI at this;rw[←HNI.out]at this;exact this
          refine hK.out _ _ ?_ (fun hHeld=>?_)
          ·exact(za CA.out.pg 0).trans rfl
          clear hK K
          (try simp only[Act.put,qa,qb,qc,qf,qe,qd])
          refine wpAnyH_ready (rs:=[10]) (by kernel_rfl) (by simp) ?_;refine AllReadyH.cons rfl (fun K hK=>?_) ?_
          ·refine zm rfl (.tmp 55) (.tmp 63) 23 rfl (gc+1) 60 i0 (.agg #[.int .i64 0,.int .i64 0,.int .i64 0,.int .i64 0]) 4 32 Tryd.underlying23 hi0 hz0 hz1 hz2 rfl (by decide) (.slice ai ni ci) ni (isC LI) (by simp[Act.eval,Act.put]) RW.out ⟨w'.heap.size,0,none⟩ 1 1 (isC [⟨1,(r:Int)+(q:Int),0,0⟩]) (by simp[Act.eval,Act.put]) rfl (xk w' ⟨1,(r:Int)+(q:Int),0,0⟩ 60) (ym _) (by unfold maxLen;omega) (by omega) CA.out.sz ?_
           intro vn w7 hown hgrow hblk;have ON:=Hm (OI.snocs (M:=[⟨1,(r:Int)+(q:Int),0,0⟩]) HNI.out rfl hown);obtain⟨an,cn,hvn⟩:=ON.out.shape;obtain⟨nn,hnn⟩:∃n,n=(LI++[(⟨1,(r:Int)+(q:Int),0,0⟩:Is)]).length:=⟨_,rfl⟩;rw[←hnn]at hvn;clear hnn;subst hvn;have CI:=Hm (CA.out.appI ON.out hgrow hblk);have PG7:=Hm (zl hgrow CA.out.oi CA.out.pg (by decide));have CC7:=Hm (zl hgrow CA.out.oi CA.out.cc (by decide));have JI:=Hm (zd (p:=⟨gc,2,none⟩) (zl hgrow CA.out.oi (zh J.out (.cells #[.int .i64 1,.int .i64 ((r:Int)+(q:Int)),.int .i64 0,.int .i64 0] 60)) (by decide)) (show gi≠gc by omega) (.slice an nn cn));have d2:w7.cell? ⟨gc,2,none⟩=some (.slice ai ni ci):=(za CC7.out 2).trans rfl;have d3:=zb CC7.out 2
           clear hown hgrow hblk;refine hK.out _ _ ?_ (fun hHeld=>?_)
           ·exact(za PG7.out 0).trans rfl
           clear hK K
           (try simp only[Act.put,qa,qb,qc,qf,qe,qd])
           refine tK 11 ?_ rfl (by kernel_rfl) (fun _ _ _ h=>h) (by rfl) ?_ (by assumption) ?_;rotate_left
           ·intro w hSw;(try dsimp only at hSw);go_simp;(try with_reducible rfl)
           rotate_left;simp only[Act.put,qa,qb,qc,qf,qe,qd];refine wpAnyH_ready (rs:=[12]) (by kernel_rfl) (by simp) ?_;refine AllReadyH.cons rfl (fun K hK=>?_) ?_
           ·go_simp
            refine hK.out _ _ ?_ (fun hHeld=>?_)
            ·exact(za CI.out.pg 0).trans rfl
            clear hK K
            (try simp only[Act.put,qa,qb,qc,qf,qe,qd])
            refine wpAnyH_done (by kernel_rfl) ?_ _
            have HQ:Hid (Cst w (w7.setCell ⟨gc,2,none⟩ (.slice an nn cn)) gc (.slice (some ⟨b,off,none⟩) N c) t S (.slice an nn cn) V6 V7 (yy P k++xT r 0 (q+1)) (zY P t k) (yH P t k)):=by
             have:=CI.out;rw[HLI.out,qj]at this;exact this
            go_wp2;exact⟨⟨q+1,_,by omega,by go_num,HQ,JI⟩,by simp[intOf];omega⟩
           exact AllReadyH.nil
          exact AllReadyH.nil
         exact AllReadyH.nil
        exact AllReadyH.nil
       refine AllReadyH.cons rfl (fun K hK=>?_) ?_
       ·go_simp
        refine(Dec.insS _ _ _ _ _).mono ?_;rintro e w' ⟨rfl,hb⟩;have C:=Hm (C.out.below hb);have J:=Hm (ze J.out hb);have c2:w'.cell? ⟨gc,2,none⟩=some (.slice ai ni ci):=(za C.out.cc 2).trans rfl;clear hb;refine hK.out _ _ ?_ (fun hHeld=>?_)
        ·exact(za C.out.pg 0).trans rfl
        clear hK K
        (try simp only[Act.put,qa,qb,qc,qf,qe,qd])
        refine wpAnyH_ready (rs:=[1,9]) (by kernel_rfl) (by simp) ?_;refine AllReadyH.cons rfl (fun K hK=>?_) ?_
        ·go_simp
         refine hK.out _ _ ?_ (fun hHeld=>?_)
         ·exact(za C.out.pg 0).trans rfl
         clear hK K
         (try simp only[Act.put,qa,qb,qc,qf,qe,qd])
         refine wpAnyH_ready (rs:=[9]) (by kernel_rfl) (by simp) ?_;refine AllReadyH.cons rfl (fun K hK=>?_) ?_
         ·go_simp
          have c2:=zr c2 (.cells #[.int .i64 1,.int .i64 ((r:Int)+(q:Int)),.int .i64 0,.int .i64 0] 60);have CA:=Hm (C.out.below (zf (Below.refl _ _) (.cells #[.int .i64 1,.int .i64 ((r:Int)+(q:Int)),.int .i64 0,.int .i64 0] 60)));have RW:Hid ((w'.alloc (.cells #[.int .i64 1,.int .i64 ((r:Int)+(q:Int)),.int .i64 0,.int .i64 0] 60)).ownsRow (gc+1) 60 4 (.slice ai ni ci) ni (isC LI)):=by have:=CA.out.oi;unfold OI at this;rw[←HNI.out]at this;exact this
          refine hK.out _ _ ?_ (fun hHeld=>?_)
          ·exact(za CA.out.pg 0).trans rfl
          clear hK K
          (try simp only[Act.put,qa,qb,qc,qf,qe,qd])
          refine wpAnyH_ready (rs:=[10]) (by kernel_rfl) (by simp) ?_;refine AllReadyH.cons rfl (fun K hK=>?_) ?_
          ·refine zm rfl (.tmp 55) (.tmp 63) 23 rfl (gc+1) 60 i0 (.agg #[.int .i64 0,.int .i64 0,.int .i64 0,.int .i64 0]) 4 32 Tryd.underlying23 hi0 hz0 hz1 hz2 rfl (by decide) (.slice ai ni ci) ni (isC LI) (by simp[Act.eval,Act.put]) RW.out ⟨w'.heap.size,0,none⟩ 1 1 (isC [⟨1,(r:Int)+(q:Int),0,0⟩]) (by simp[Act.eval,Act.put]) rfl (xk w' ⟨1,(r:Int)+(q:Int),0,0⟩ 60) (ym _) (by unfold maxLen;omega) (by omega) CA.out.sz ?_
           intro vn w7 hown hgrow hblk;have ON:=Hm (OI.snocs (M:=[⟨1,(r:Int)+(q:Int),0,0⟩]) HNI.out rfl hown);obtain⟨an,cn,hvn⟩:=ON.out.shape;obtain⟨nn,hnn⟩:∃n,n=(LI++[(⟨1,(r:Int)+(q:Int),0,0⟩:Is)]).length:=⟨_,rfl⟩;rw[←hnn]at hvn;clear hnn;subst hvn;have CI:=Hm (CA.out.appI ON.out hgrow hblk);have PG7:=Hm (zl hgrow CA.out.oi CA.out.pg (by decide));have CC7:=Hm (zl hgrow CA.out.oi CA.out.cc (by decide));have JI:=Hm (zd (p:=⟨gc,2,none⟩) (zl hgrow CA.out.oi (zh J.out (.cells #[.int .i64 1,.int .i64 ((r:Int)+(q:Int)),.int .i64 0,.int .i64 0] 60)) (by decide)) (show gi≠gc by omega) (.slice an nn cn));have d2:w7.cell? ⟨gc,2,none⟩=some (.slice ai ni ci):=(za CC7.out 2).trans rfl;have d3:=zb CC7.out 2
           clear hown hgrow hblk;refine hK.out _ _ ?_ (fun hHeld=>?_)
           ·exact(za PG7.out 0).trans rfl
           clear hK K
           (try simp only[Act.put,qa,qb,qc,qf,qe,qd])
           refine tK 11 ?_ rfl (by kernel_rfl) (fun _ _ _ h=>h) (by rfl) ?_ (by assumption) ?_;rotate_left
           ·intro w hSw;(try dsimp only at hSw);go_simp;(try with_reducible rfl)
           rotate_left;simp only[Act.put,qa,qb,qc,qf,qe,qd];refine wpAnyH_ready (rs:=[12]) (by kernel_rfl) (by simp) ?_;refine AllReadyH.cons rfl (fun K hK=>?_) ?_
           ·go_simp
            refine hK.out _ _ ?_ (fun hHeld=>?_)
            ·exact(za CI.out.pg 0).trans rfl
            clear hK K
            (try simp only[Act.put,qa,qb,qc,qf,qe,qd])
            refine wpAnyH_done (by kernel_rfl) ?_ _
            have HQ:Hid (Cst w (w7.setCell ⟨gc,2,none⟩ (.slice an nn cn)) gc (.slice (some ⟨b,off,none⟩) N c) t S (.slice an nn cn) V6 V7 (yy P k++xT r 0 (q+1)) (zY P t k) (yH P t k)):=by
             have:=CI.out;rw[HLI.out,qj]at this;exact this
            go_wp2;exact⟨⟨q+1,_,by omega,by go_num,HQ,JI⟩,by simp[intOf];omega⟩
           exact AllReadyH.nil
          exact AllReadyH.nil
         exact AllReadyH.nil
        refine AllReadyH.cons rfl (fun K hK=>?_) ?_
        ·go_simp
         have c2:=zr c2 (.cells #[.int .i64 1,.int .i64 ((r:Int)+(q:Int)),.int .i64 0,.int .i64 0] 60);have CA:=Hm (C.out.below (zf (Below.refl _ _) (.cells #[.int .i64 1,.int .i64 ((r:Int)+(q:Int)),.int .i64 0,.int .i64 0] 60)));have RW:Hid ((w'.alloc (.cells #[.int .i64 1,.int .i64 ((r:Int)+(q:Int)),.int .i64 0,.int .i64 0] 60)).ownsRow (gc+1) 60 4 (.slice ai ni ci) ni (isC LI)):=by have:=CA.out.oi;unfold OI at this;rw[←HNI.out]at this;exact this
         refine hK.out _ _ ?_ (fun hHeld=>?_)
         ·exact(za CA.out.pg 0).trans rfl
         clear hK K
         (try simp only[Act.put,qa,qb,qc,qf,qe,qd])
         refine wpAnyH_ready (rs:=[1]) (by kernel_rfl) (by simp) ?_;refine AllReadyH.cons rfl (fun K hK=>?_) ?_
         ·go_simp
          refine hK.out _ _ ?_ (fun hHeld=>?_)
          ·exact(za CA.out.pg 0).trans rfl
          clear hK K
          (try simp only[Act.put,qa,qb,qc,qf,qe,qd])
          refine wpAnyH_ready (rs:=[10]) (by kernel_rfl) (by simp) ?_;refine AllReadyH.cons rfl (fun K hK=>?_) ?_
          ·refine zm rfl (.tmp 55) (.tmp 63) 23 rfl (gc+1) 60 i0 (.agg #[.int .i64 0,.int .i64 0,.int .i64 0,.int .i64 0]) 4 32 Tryd.underlying23 hi0 hz0 hz1 hz2 rfl (by decide) (.slice ai ni ci) ni (isC LI) (by simp[Act.eval,Act.put]) RW.out ⟨w'.heap.size,0,none⟩ 1 1 (isC [⟨1,(r:Int)+(q:Int),0,0⟩]) (by simp[Act.eval,Act.put]) rfl (xk w' ⟨1,(r:Int)+(q:Int),0,0⟩ 60) (ym _) (by unfold maxLen;omega) (by omega) CA.out.sz ?_
           intro vn w7 hown hgrow hblk;have ON:=Hm (OI.snocs (M:=[⟨1,(r:Int)+(q:Int),0,0⟩]) HNI.out rfl hown);obtain⟨an,cn,hvn⟩:=ON.out.shape;obtain⟨nn,hnn⟩:∃n,n=(LI++[(⟨1,(r:Int)+(q:Int),0,0⟩:Is)]).length:=⟨_,rfl⟩;rw[←hnn]at hvn;clear hnn;subst hvn;have CI:=Hm (CA.out.appI ON.out hgrow hblk);have PG7:=Hm (zl hgrow CA.out.oi CA.out.pg (by decide));have CC7:=Hm (zl hgrow CA.out.oi CA.out.cc (by decide));have JI:=Hm (zd (p:=⟨gc,2,none⟩) (zl hgrow CA.out.oi (zh J.out (.cells #[.int .i64 1,.int .i64 ((r:Int)+(q:Int)),.int .i64 0,.int .i64 0] 60)) (by decide)) (show gi≠gc by omega) (.slice an nn cn));have d2:w7.cell? ⟨gc,2,none⟩=some (.slice ai ni ci):=(za CC7.out 2).trans rfl;have d3:=zb CC7.out 2
           clear hown hgrow hblk;refine hK.out _ _ ?_ (fun hHeld=>?_)
           ·exact(za PG7.out 0).trans rfl
           clear hK K
           (try simp only[Act.put,qa,qb,qc,qf,qe,qd])
           refine tK 11 ?_ rfl (by kernel_rfl) (fun _ _ _ h=>h) (by rfl) ?_ (by assumption) ?_;rotate_left
           ·intro w hSw;(try dsimp only at hSw);go_simp;(try with_reducible rfl)
           rotate_left;simp only[Act.put,qa,qb,qc,qf,qe,qd];refine wpAnyH_ready (rs:=[12]) (by kernel_rfl) (by simp) ?_;refine AllReadyH.cons rfl (fun K hK=>?_) ?_
           ·go_simp
            refine hK.out _ _ ?_ (fun hHeld=>?_)
            ·exact(za CI.out.pg 0).trans rfl
            clear hK K
            (try simp only[Act.put,qa,qb,qc,qf,qe,qd])
            refine wpAnyH_done (by kernel_rfl) ?_ _
            have HQ:Hid (Cst w (w7.setCell ⟨gc,2,none⟩ (.slice an nn cn)) gc (.slice (some ⟨b,off,none⟩) N c) t S (.slice an nn cn) V6 V7 (yy P k++xT r 0 (q+1)) (zY P t k) (yH P t k)):=by
             have:=CI.out;rw[HLI.out,qj]at this;exact this
            go_wp2;exact⟨⟨q+1,_,by omega,by go_num,HQ,JI⟩,by simp[intOf];omega⟩
           exact AllReadyH.nil
          exact AllReadyH.nil
         exact AllReadyH.nil
        exact AllReadyH.nil
       exact AllReadyH.nil
      exact AllReadyH.nil
    ·obtain rfl:q=mr:=by omega
     have q1:decide ((q:Int)<(q:Int))=false:=by simp
     have CE:Hid (Cst w wr gc (.slice (some ⟨b,off,none⟩) N c) t S vi V6 V7 (yy P (k+1)) (zY P t k) (yH P t k)):=by unfold Hid;rw[hI1.out];exact C.out
     clear C;have x0:=za CE.out.pg 0;simp only[qk,ql]at x0;go_wp2_with (first|(go_at_call 43;refine(RR.out _).mono ?_;rintro e w' ⟨rfl,hw⟩;rw[hw];clear hw)|(go_at_call 44;refine(STk.out _ CE.out.b).mono ?_));rintro e w5 ⟨vm,rfl,ho,hb⟩;have C5:=Hm (CE.out.below hb);have J5:=Hm (ze J.out hb);obtain⟨am,cm,rfl⟩:=ho.shape;have RM:=Hm ho.rd;clear ho hb x0 z0 CE J;have n4:=hl4;refine Hid.out ?_;refine Lib.hid ?_;go_wp2_with (at_builtin;refine z7 rfl _ _ rfl (gc+1) _ _ _ _ rfl C5.out.os rfl RM.out (by omega) C5.out.sz ?_);intro v6 w6 ho6 hg6 hb6;have C6:=Hm (C5.out.appS ho6 hg6 hb6);have J6:=Hm (zl hg6 C5.out.os J5.out (by decide));rw[←hI2.out]at C6;clear ho6 hg6 hb6 C5 J5 RM;have z0:=za J6.out 0;have z2:=za J6.out 2
     have x0:=za C6.out.pg 0;simp only[qk,ql,qm]at z0 x0 z2;refine Hid.out ?_;refine Lib.hid ?_;by_cases hk1:kk=1
     ·have f1:(kk==1)=true:=by simpa using hk1
      have f3:(kk==3)=false:=by simp[hk1]
      rw[if_pos hk1]at hf1;rw[hf1.out]at hI3;clear hk1;go_wp2_with (go_at_call 44;refine(STk.out _ C6.out.b).mono ?_);rintro e w7 ⟨vm,rfl,ho,hb⟩;have C7:=Hm (C6.out.below hb);have J7:=Hm (ze J6.out hb);obtain⟨am,cm,rfl⟩:=ho.shape;have RM:=Hm ho.rd;clear ho hb x0 z0 z2 C6 J6;refine Hid.out ?_;refine Lib.hid ?_;go_wp2_with (at_builtin;refine z7 rfl _ _ rfl (gc+1) _ _ _ _ rfl C7.out.of rfl RM.out (by omega) C7.out.sz ?_);intro v8 w8 ho8 hg8 hb8;have C8:=Hm (C7.out.appF ho8 hg8 hb8);have J8:=Hm (zl hg8 C7.out.of J7.out (by decide));rw[←hI3.out]at C8;clear ho8 hg8 hb8 C7 J7 RM;have z0:=za J8.out 0;simp only[qk,ql]at z0;refine Hid.out ?_;refine Lib.hid ?_;go_wp2;exact⟨⟨k+1,_,by omega,by go_num,C8⟩,by simp[intOf];omega⟩
     ·have f1:(kk==1)=false:=by simpa using hk1
      rw[if_neg hk1]at hf1;by_cases hk3:kk=3
      ·have f3:(kk==3)=true:=by simpa using hk3
       rw[if_pos hk3]at hf1;have G3:=Hm (fun W hW=>GEk.out W hW hk3);clear hk3 hk1;obtain⟨GL,hGL⟩:∃G,G=gen (zG P) (trE E nE) t:=⟨_,rfl⟩;have hfl:Hid (Vn P t k=GL++[⟨18,(t:Int),(k:Int)+1,0⟩]):=by unfold Hid;rw[hf1.out,hGL]
       rw[←hGL]at G3;have hgl:GL.length≤4050:=by have:=hl5;rw[hfl.out,qg]at this;omega
       rw[hfl.out]at hI3;clear hGL hf1;have u1:IntKind.i64.wrap ((k:Int)+1)=(k:Int)+1:=wrap_small _ (by omega) (by omega);go_wp2_with (go_at_call 45;refine(G3.out _ C6.out.b).mono ?_);rintro e w7 ⟨vm,rfl,ho,hb⟩;have C7:=Hm (C6.out.below hb);obtain⟨am,cm,rfl⟩:=ho.shape;have RM:=Hm ho.rd;clear ho hb x0 z0 z2 C6 J6;refine Hid.out ?_;refine Lib.hid ?_;go_wp2_with (at_builtin;refine z7 rfl _ _ rfl (gc+1) _ _ _ _ rfl C7.out.of rfl RM.out (by omega) C7.out.sz ?_);intro v8 w8 ho8 hg8 hb8;have C8:=Hm (C7.out.appF ho8 hg8 hb8);clear ho8 hg8 hb8 C7 RM;refine Hid.out ?_;refine Lib.hid ?_;go_wp2_with (go_at_call 39;refine(Dec.insS 18 (t:Int) ((k:Int)+1) 0 _).mono ?_);rintro e w9 ⟨rfl,hb9⟩;have C9:=Hm (C8.out.below hb9);clear hb9 C8
       have b9:Below w9.heap.size w9 (w9.alloc (.cells #[.int .i64 18,.int .i64 (t:Int),.int .i64 ((k:Int)+1),.int .i64 0] 60)):=zf (Below.refl _ _) _;have C9':=Hm (C9.out.below b9);have R9:=Hm (OI.one w9 ⟨18,(t:Int),(k:Int)+1,0⟩).rd;clear b9;refine Hid.out ?_;refine Lib.hid ?_;go_wp2_with (at_builtin;refine z7 rfl _ _ rfl (gc+1) _ _ _ _ rfl C9'.out.of rfl R9.out (by simp only[qg,List.length_singleton];omega) C9'.out.sz ?_);intro v10 w10 ho10 hg10 hb10;have C10:=Hm (C9'.out.appF (M:=[⟨18,(t:Int),(k:Int)+1,0⟩]) (by rw[qj];exact ho10) hg10 (by rw[World.size_alloc];exact hb10));rw[qj,←hI3.out]at C10;clear ho10 hg10 hb10 C9 C9' R9;refine Hid.out ?_;refine Lib.hid ?_;go_wp2;exact⟨⟨k+1,_,by omega,by go_num,C10⟩,by simp[intOf];omega⟩
      ·have f3:(kk==3)=false:=by simpa using hk3
       rw[if_neg hk3]at hf1;rw[hf1.out,List.append_nil]at hI3;rw[←hI3.out]at C6;go_wp2;exact⟨⟨k+1,_,by omega,by go_num,C6⟩,by simp[intOf];omega⟩
  ·obtain rfl:k=N:=by omega
   have k1:decide ((k:Int)<(k:Int))=false:=by simp
   have hl1:=ZE P k;have hl2:=Ze P OK.out t k (by rw[←HN.out];omega);have hl3:=ZH P OK.out t k (by rw[←HN.out];omega);have PL1:=Hm (VV (zY P t k) a6 _ c6 wr C.out.os.rd (by omega));have PL2:Hid (∀W,RdL W (.slice a7 (yH P t k).length c7) (yH P t k)→Calls Tryd.prog 46 #[.slice a7 (yH P t k).length c7] W fun e w'=>GenP W w' (plN (yH P t k) (yH P t k).length) e):=fun W hW=>VV (yH P t k) a7 _ c7 W hW (by omega)
   clear RD ST;obtain⟨LI,hLI⟩:∃l,l=yy P k:=⟨_,rfl⟩;obtain⟨PS,hPS⟩:∃l,l=plN (zY P t k) (zY P t k).length:=⟨_,rfl⟩;obtain⟨PF,hPF⟩:∃l,l=plN (yH P t k) (yH P t k).length:=⟨_,rfl⟩;have hp1:PS.length≤405000:=by rw[hPS,xr];omega
   have hp2:PF.length≤405000:=by rw[hPF,xr];omega
   have hp0:LI.length≤300:=by rw[hLI];omega
   have HPS:=Hm hPS;have HPF:=Hm hPF;have HLI:=Hm hLI;clear hPS hPF hLI;have CC0:=Hm C.out.cc;go_wp2_with (go_at_call 46;refine PL1.out.mono ?_);rintro e w5 ⟨v2,rfl,ho2,hb⟩;rw[←HPS.out]at ho2;obtain⟨a2,c2,hv2⟩:=ho2.shape;obtain⟨n2,hn2⟩:∃n,n=PS.length:=⟨_,rfl⟩;rw[←hn2]at hv2;have HN2:=Hm hn2;clear hn2;subst hv2;obtain⟨cc1,rs1,o1,o2,of,ap,b1⟩:=C.out.place1 hb ho2;have hgc:=C.out.hg;have cc5:=ze CC0.out hb;have g3:=za cc5 3;have h3:=zb cc5 3;simp only[qk,ql,qm]at g3;obtain⟨Z1,hZ1⟩:∃Z,Z=w5.setCell ⟨gc,3,none⟩ (.slice a2 n2 c2):=⟨_,rfl⟩;rw[←hZ1]at cc1 rs1 o1 o2 of b1;have CC1:=Hm cc1;have RS1:=Hm rs1;have O1:=Hm o1;have O2:=Hm o2;have OF:=Hm of
   have AP:=Hm ap;have B1:=Hm b1;clear cc1 rs1 o1 o2 of b1 ap hb ho2 cc5 C CC0 PL1;refine Hid.out ?_;refine Lib.hid ?_;go_upto_region 25 with fail;rw[←hZ1];clear hZ1 g3 h3;go_wp2_with (go_at_call 46;refine(PL2.out Z1 OF.out.rd).mono ?_);rintro e w6 ⟨v3,rfl,ho3,hb3⟩;rw[←HPF.out]at ho3;obtain⟨a3,c3,hv3⟩:=ho3.shape;obtain⟨n3,hn3⟩:∃n,n=PF.length:=⟨_,rfl⟩;rw[←hn3]at hv3;have HN3:=Hm hn3;clear hn3;subst hv3;obtain⟨a1,c1,hv1⟩:=O1.out.shape;rw[←HLI.out]at hv1 O1;obtain⟨n1,hn1⟩:∃n,n=LI.length:=⟨_,rfl⟩;rw[←hn1]at hv1;have HN1:=Hm hn1;clear hn1;subst hv1;have D:=Hm (place2 CC1.out RS1.out O1.out O2.out AP.out hgc B1.out hb3 ho3);have cc6:=ze CC1.out hb3;have g4:=za cc6 4;have h4:=zb cc6 4
   simp only[qk,ql,qm]at g4;obtain⟨Z2,hZ2⟩:∃Z,Z=w6.setCell ⟨gc,4,none⟩ (.slice a3 n3 c3):=⟨_,rfl⟩;rw[←hZ2]at D;clear cc6 hb3 ho3 CC1 RS1 O1 O2 OF AP B1 PL2;refine Hid.out ?_;refine Lib.hid ?_;go_upto_region 26 with fail;rw[←hZ2];clear hZ2 g4 h4;have e2:=za D.out.cc 2;have e3:=za D.out.cc 3;have e4:=za D.out.cc 4;simp only[qk,ql,qm]at e2 e3 e4;obtain⟨W9,hW9⟩:∃W,W=Z2.alloc (.cells #[.slice a1 n1 c1,.slice a2 n2 c2,.slice a3 n3 c3] 23):=⟨_,rfl⟩;have B9:Hid (Below Z2.heap.size Z2 W9):=by rw[hW9];exact zf (Below.refl _ _) _
   have K9:Hid (W9.heap[Z2.heap.size]? =some (.cells #[.slice a1 n1 c1,.slice a2 n2 c2,.slice a3 n3 c3] 23)):=by rw[hW9];exact zi _ _
   have SQ:Hid (Calls Tryd.prog 37 #[.slice (some ⟨Z2.heap.size,0,none⟩) 3 3] W9 fun e w'=>GenP W9 w' (List.flatMap Prod.snd ([(.slice a1 n1 c1,LI),(.slice a2 n2 c2,PS),(.slice a3 n3 c3,PF)]:List (Value×List Is))) e):=XK Z2.heap.size [(.slice a1 n1 c1,LI),(.slice a2 n2 c2,PS),(.slice a3 n3 c3,PF)] W9 _ (by simp) K9.out ⟨⟨D.out.o1.rd.below B9.out,(show LI.length≤1000000 by omega)⟩,⟨⟨D.out.o2.rd.below B9.out,(show PS.length≤1000000 by omega)⟩,⟨⟨D.out.o3.rd.below B9.out,(show PF.length≤1000000 by omega)⟩,trivial⟩⟩⟩;have D:=Hm (D.out.below B9.out);have HW9:=Hm hW9;clear hW9 K9 B9;go_wp2_with (go_at_call 37;rw[←HW9.out];refine SQ.out.mono ?_);rintro e w10 ⟨va,rfl,ho,hb⟩
   have hAL:List.flatMap Prod.snd ([(.slice a1 n1 c1,LI),(.slice a2 n2 c2,PS),(.slice a3 n3 c3,PF)]:List (Value×List Is))=We P:=by rw[HAL.out,←HLI.out,←HPS.out,←HPF.out];simp
   rw[hAL]at ho;have hszD:=D.out.sz;have OA:=Hm (ho.mono hszD);have D:=Hm (D.out.below hb);have hal:(We P).length≤1000000:=by rw[←hAL];simp;omega
   clear ho hb hAL HAL SQ HW9 e2 e3 e4;obtain⟨AL,hALe⟩:∃l,l=We P:=⟨_,rfl⟩;rw[←hALe]at OA hal;have HALE:=Hm hALe;clear hALe;obtain⟨aa,ca,hva⟩:=OA.out.shape;obtain⟨na,hna⟩:∃n,n=AL.length:=⟨_,rfl⟩;rw[←hna]at hva hal;subst hva;have HNA:=Hm hna;clear hna;refine Hid.out ?_;refine Lib.hid ?_;go_wp2;go_loopw [13] (fun i wl=>∃j:Nat,j≤na∧i=.int .i64 (j:Int)∧Hid (Cs2 w wl gc (Yq AL t j) S (.slice a1 n1 c1) (.slice a2 n2 c2) (.slice a3 n3 c3) LI PS PF)∧Hid (OI (gc+1) wl (.slice aa na ca) AL)) (fun i _=>na- (intOf i).toNat)
   case atStart=>exact⟨0,Nat.zero_le _,rfl,D,OA⟩
   case round=>
    clear D OA;obtain⟨j,hj,rfl,D,OA⟩:=hrel;by_cases hjn:j<na
    ·have j0:(0:Int)≤(j:Int):=by omega
     have j1:(j:Int)<(na:Int):=by omega
     obtain⟨g,ha⟩:∃g,aa=some ⟨g,0,none⟩:=by
      rcases OA.out.2 with⟨-,h2⟩|⟨g,cc,cur,h1,-⟩
      ·rw[←HNA.out]at h2;omega
      ·injection h1 with h1;exact⟨g,h1⟩
     subst ha;have hjl:Hid (j<AL.length):=by unfold Hid;rw[←HNA.out];exact hjn
     have hst:Hid (Yq AL t (j+1)=Zs (Yq AL t j) (top (AL.getD j ⟨0,0,0,0⟩))):=rfl;have AT:Hid (∀W,OI (gc+1) W (.slice (some ⟨g,0,none⟩) na ca) AL→W.cell? ⟨g,j*4,none⟩=some (.int .i64 (AL.getD j ⟨0,0,0,0⟩).p)∧W.cell? ⟨g,j*4+1,none⟩=some (.int .i64 (AL.getD j ⟨0,0,0,0⟩).a)∧W.cell? ⟨g,j*4+2,none⟩=some (.int .i64 (AL.getD j ⟨0,0,0,0⟩).b)∧W.cell? ⟨g,j*4+3,none⟩=some (.int .i64 (AL.getD j ⟨0,0,0,0⟩).c)):=fun W hW=>oi_at4 hW hjl.out
     obtain⟨⟨p,ia,ib,ic⟩,hx⟩:∃x,x=AL.getD j ⟨0,0,0,0⟩:=⟨_,rfl⟩;rw[←hx]at hst AT;dsimp only at AT;clear hx;obtain⟨RG,hRG⟩:∃x,x=Yq AL t j:=⟨_,rfl⟩;rw[←hRG]at D hst;clear hRG;have D:=Hm (D.out.below (Below.refl _ _).drew);have OA:=Hm (OA.out.kept (Below.refl _ _).drew);have e0:(wr.drew).cell? ⟨gc,0,none⟩=some (.int .i64 RG):=(za D.out.cc 0).trans rfl;go_wp2_with fail;refine wp_region_held_drew (S:=(fun w'=>w'.cell? ⟨g,j*4,none⟩=some (.int .i64 p)∧w'.cell? ⟨g,j*4+1,none⟩=some (.int .i64 ia)∧w'.cell? ⟨g,j*4+2,none⟩=some (.int .i64 ib)∧w'.cell? ⟨g,j*4+3,none⟩=some (.int .i64 ic))) (by kernel_rfl) ?_ (fun hHeld=>?_)
     ·exact AT.out _ OA.out
     refine tK 0 ?_ rfl (by kernel_rfl) (fun _ _ _ h=>h) (by rfl) ?_ (by assumption) ?_;rotate_left
     ·intro w hSw;(try dsimp only at hSw);go_simp;(try with_reducible rfl)
     rotate_left;simp only[Act.put,qa,qb,qc,qf,qe,qd];refine tK 2 ?_ rfl (by kernel_rfl) (fun _ _ _ h=>h) (by rfl) ?_ (by assumption) ?_;rotate_left
     ·intro w hSw;(try dsimp only at hSw);go_simp;(try with_reducible rfl)
     rotate_left;simp only[Act.put,qa,qb,qc,qf,qe,qd];refine tK 3 ?_ rfl (by kernel_rfl) (fun _ _ _ h=>h) (by rfl) ?_ (by assumption) ?_;rotate_left
     ·intro w hSw;(try dsimp only at hSw);go_simp;(try with_reducible rfl)
     rotate_left;simp only[Act.put,qa,qb,qc,qf,qe,qd];refine tK 4 ?_ rfl (by kernel_rfl) (fun _ _ _ h=>h) (by rfl) ?_ (by assumption) ?_;rotate_left
     ·intro w hSw;(try dsimp only at hSw);go_simp;(try with_reducible rfl)
     rotate_left;simp only[Act.put,qa,qb,qc,qf,qe,qd];refine tK 5 ?_ rfl (by kernel_rfl) (fun _ _ _ h=>h) (by rfl) ?_ (by assumption) ?_;rotate_left
     ·intro w hSw;(try dsimp only at hSw);go_simp;(try with_reducible rfl)
     rotate_left;simp only[Act.put,qa,qb,qc,qf,qe,qd];refine wpAnyH_ready (rs:=[1,6]) (by kernel_rfl) (by simp) ?_;refine AllReadyH.cons rfl (fun K hK=>?_) ?_
     ·go_simp
      refine hK.out _ _ ?_ (fun hHeld=>?_)
      ·exact AT.out _ OA.out
      clear hK K
      (try simp only[Act.put,qa,qb,qc,qf,qe,qd])
      refine wpAnyH_ready (rs:=[6]) (by kernel_rfl) (by simp) ?_;refine AllReadyH.cons rfl (fun K hK=>?_) ?_
      ·go_simp
       refine(topS ⟨p,ia,ib,ic⟩ _).mono ?_;rintro e w' ⟨rfl,hb⟩;have D:=Hm (D.out.below hb);have OA:=Hm (OA.out.kept hb);have e0:w'.cell? ⟨gc,0,none⟩=some (.int .i64 RG):=(za D.out.cc 0).trans rfl;have d0:=zb D.out.cc 0;clear hb;refine hK.out _ _ ?_ (fun hHeld=>?_)
       ·exact AT.out _ OA.out
       clear hK K
       (try simp only[Act.put,qa,qb,qc,qf,qe,qd])
       refine wpAnyH_ready (rs:=[7]) (by kernel_rfl) (by simp) ?_;refine AllReadyH.cons rfl (fun K hK=>?_) ?_
       ·go_simp
        refine(maxS _ _ _).mono ?_;rintro e wm ⟨rfl,hw⟩;rw[hw];clear hw;refine hK.out _ _ ?_ (fun hHeld=>?_)
        ·exact AT.out _ OA.out
        clear hK K
        (try simp only[Act.put,qa,qb,qc,qf,qe,qd])
        refine tK 8 ?_ rfl (by kernel_rfl) (fun _ _ _ h=>h) (by rfl) ?_ (by assumption) ?_;rotate_left
        ·intro w hSw;(try dsimp only at hSw);go_simp;(try with_reducible rfl)
        rotate_left;simp only[Act.put,qa,qb,qc,qf,qe,qd];refine wpAnyH_ready (rs:=[9]) (by kernel_rfl) (by simp) ?_;refine AllReadyH.cons rfl (fun K hK=>?_) ?_
        ·go_simp
         have D9:=Hm (D.out.setR (Zs RG (top ⟨p,ia,ib,ic⟩)));have OA9:=Hm (OA.out.set (show gc<gc+1 by omega) 0 (.int .i64 (Zs RG (top ⟨p,ia,ib,ic⟩))));refine hK.out _ _ ?_ (fun hHeld=>?_)
         ·exact AT.out _ OA9.out
         clear hK K
         (try simp only[Act.put,qa,qb,qc,qf,qe,qd])
         refine wpAnyH_done (by kernel_rfl) ?_ _;have HQ:Hid (Cs2 w (w'.setCell ⟨gc,0,none⟩ (.int .i64 (Zs RG (top ⟨p,ia,ib,ic⟩)))) gc (Yq AL t (j+1)) S (.slice a1 n1 c1) (.slice a2 n2 c2) (.slice a3 n3 c3) LI PS PF):=by unfold Hid;rw[hst.out];exact D9.out
         go_wp2;exact⟨⟨j+1,by omega,by go_num,HQ,OA9⟩,by simp[intOf];omega⟩
        exact AllReadyH.nil
       exact AllReadyH.nil
      exact AllReadyH.nil
     refine AllReadyH.cons rfl (fun K hK=>?_) ?_
     ·go_simp
      refine(topS ⟨p,ia,ib,ic⟩ _).mono ?_;rintro e w' ⟨rfl,hb⟩;have D:=Hm (D.out.below hb);have OA:=Hm (OA.out.kept hb);have e0:w'.cell? ⟨gc,0,none⟩=some (.int .i64 RG):=(za D.out.cc 0).trans rfl;have d0:=zb D.out.cc 0;clear hb;refine hK.out _ _ ?_ (fun hHeld=>?_)
      ·exact AT.out _ OA.out
      clear hK K
      (try simp only[Act.put,qa,qb,qc,qf,qe,qd])
      refine wpAnyH_ready (rs:=[1]) (by kernel_rfl) (by simp) ?_;refine AllReadyH.cons rfl (fun K hK=>?_) ?_
      ·go_simp
       refine hK.out _ _ ?_ (fun hHeld=>?_)
       ·exact AT.out _ OA.out
       clear hK K
       (try simp only[Act.put,qa,qb,qc,qf,qe,qd])
       refine wpAnyH_ready (rs:=[7]) (by kernel_rfl) (by simp) ?_;refine AllReadyH.cons rfl (fun K hK=>?_) ?_
       ·go_simp
        refine(maxS _ _ _).mono ?_;rintro e wm ⟨rfl,hw⟩;rw[hw];clear hw;refine hK.out _ _ ?_ (fun hHeld=>?_)
        ·exact AT.out _ OA.out
        clear hK K
        (try simp only[Act.put,qa,qb,qc,qf,qe,qd])
        refine tK 8 ?_ rfl (by kernel_rfl) (fun _ _ _ h=>h) (by rfl) ?_ (by assumption) ?_;rotate_left
        ·intro w hSw;(try dsimp only at hSw);go_simp;(try with_reducible rfl)
        rotate_left;simp only[Act.put,qa,qb,qc,qf,qe,qd];refine wpAnyH_ready (rs:=[9]) (by kernel_rfl) (by simp) ?_;refine AllReadyH.cons rfl (fun K hK=>?_) ?_
        ·go_simp
         have D9:=Hm (D.out.setR (Zs RG (top ⟨p,ia,ib,ic⟩)));have OA9:=Hm (OA.out.set (show gc<gc+1 by omega) 0 (.int .i64 (Zs RG (top ⟨p,ia,ib,ic⟩))));refine hK.out _ _ ?_ (fun hHeld=>?_)
         ·exact AT.out _ OA9.out
         clear hK K
         (try simp only[Act.put,qa,qb,qc,qf,qe,qd])
         refine wpAnyH_done (by kernel_rfl) ?_ _;have HQ:Hid (Cs2 w (w'.setCell ⟨gc,0,none⟩ (.int .i64 (Zs RG (top ⟨p,ia,ib,ic⟩)))) gc (Yq AL t (j+1)) S (.slice a1 n1 c1) (.slice a2 n2 c2) (.slice a3 n3 c3) LI PS PF):=by unfold Hid;rw[hst.out];exact D9.out
         go_wp2;exact⟨⟨j+1,by omega,by go_num,HQ,OA9⟩,by simp[intOf];omega⟩
        exact AllReadyH.nil
       exact AllReadyH.nil
      exact AllReadyH.nil
     exact AllReadyH.nil
    ·obtain rfl:j=na:=by omega
     have j1:decide ((j:Int)<(j:Int))=false:=by simp
     have e0:=za D.out.cc 0;have e1:=za D.out.cc 1;have e2:=za D.out.cc 2;have e3:=za D.out.cc 3;have e4:=za D.out.cc 4;have g0:=za D.out.rs 0;have g1:=za D.out.rs 1;have g2:=za D.out.rs 2;have g3:=za D.out.rs 3;have g4:=za D.out.rs 4;have h0:=zb D.out.rs 0;have h1:=zb D.out.rs 1;have h2:=zb D.out.rs 2;have h3:=zb D.out.rs 3;have h4:=zb D.out.rs 4;simp only[qk,ql,qm]at e0 e1 e2 e3 e4 g0 g1 g2 g3 g4;go_wp2;obtain⟨Z,hZ,RZ,QZ,OZ⟩:=Dec.put5 D.out.rs (.int .i64 (Yq AL t j)) (.int .i64 (S:Int)) (.slice a1 n1 c1) (.slice a2 n2 c2) (.slice a3 n3 c3);rw[hZ];have z0:=za RZ 0;have z1:=za RZ 1;have z2:=za RZ 2;have z3:=za RZ 3;have z4:=za RZ 4
     simp only[qk,ql,qm]at z0 z1 z2 z3 z4;refine bodyPost_ret (v:=.agg #[.int .i64 (Yq AL t j),.int .i64 (S:Int),.slice a1 n1 c1,.slice a2 n2 c2,.slice a3 n3 c3]) (by simp[results,Tryd.results26,go_sem,z0,z1,z2,z3,z4];try rfl) rfl ?_;refine .mk _ _ _ ?_ ?_ ?_ ?_ D.out.a1 D.out.a2 D.out.a3 (xL D.out.b QZ (by omega))
     ·rw[HNA.out,HALE.out]
     ·have:=(OZ _ _ _ _ _ _ (by decide) D.out.o1:OI (gc+1) Z _ _);rw[HLI.out]at this;exact this.mono (by omega)
     ·have:=(OZ _ _ _ _ _ _ (by decide) D.out.o2:OI (gc+1) Z _ _);rw[HPS.out]at this;exact this.mono (by omega)
     ·have:=(OZ _ _ _ _ _ _ (by decide) D.out.o3:OI (gc+1) Z _ _);rw[HPF.out]at this;exact this.mono (by omega)
end Go.Proofs.YtbdldkpifanaiaaDoor.Cd
