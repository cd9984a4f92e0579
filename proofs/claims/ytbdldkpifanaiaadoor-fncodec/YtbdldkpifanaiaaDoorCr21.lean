import Derived.Test.YtbdldkpifanaiaaDoorCr20
set_option maxHeartbeats 6400000
set_option maxRecDepth 100000
set_option linter.unusedVariables false
set_option linter.unusedSimpArgs false
open List renaming getElem?_toArray → qk, getElem?_cons_zero → ql, getElem?_cons_succ → qm
open Nat renaming le_refl → qn, le_of_lt → qq
namespace Go.Proofs.YtbdldkpifanaiaaDoor.Cd
open Go Go.RowKit Mem Syn
attribute [local go_sem ↓] Go.wp_at_zero Go.wp_at_succ
def UN (w:World):List (Value×List Is)→Prop
 |[]=>True
 |p::r=>(RdL w p.1 p.2∧p.2.length≤1000000)∧UN w r
theorem UN.at {w:World}:∀{ps:List (Value×List Is)},UN w ps→∀i,i<ps.length→RdL w (ps.getD i (.bool false,[])).1 (ps.getD i (.bool false,[])).2∧(ps.getD i (.bool false,[])).2.length≤1000000
 |[],_,i,h=>absurd h (Nat.not_lt_zero _)
 |p::r,h,0,_=>by simpa using h.1
 |p::r,h,i+1,hi=>by simpa using UN.at h.2 i (by simpa using hi)
theorem Vu (ps:List (Value×List Is)):∀k,k≤ps.length→catL (fun i=>(ps.getD i (.bool false,[])).2) k=(ps.take k).flatMap Prod.snd:=by
 intro k
 induction k with
 |zero=>intro _;simp[catL]
 |succ k ih=>
  intro hk;rw[catL,ih (by omega),List.take_add_one,List.flatMap_append,List.getElem?_eq_getElem (by omega)];simp[List.getD_eq_getElem?_getD,List.getElem?_eq_getElem (show k<ps.length by omega)]
theorem XK (g:Nat) (ps:List (Value×List Is)) (w:World) (T:TypeId) (hN:ps.length≤10) (hk:w.heap[g]? =some (.cells (ps.map Prod.fst).toArray T)) (h:UN w ps):
  Calls Tryd.prog 37 #[.slice (some ⟨g,0,none⟩) ps.length ps.length] w fun e w'=>GenP w w' (ps.flatMap Prod.snd) e:=by
 refine(seqG g ps.length ps.length (fun i=>(ps.getD i (.bool false,[])).1) (fun i=>(ps.getD i (.bool false,[])).2) w hN (fun i hi=>?_) (fun i hi=>(h.at i hi).1) (fun i hi=>(h.at i hi).2)).mono ?_
 ·rw[za hk i]
  simp[List.getD_eq_getElem?_getD,List.getElem?_eq_getElem hi]
 ·rintro e w' ⟨v,he,ho,hb⟩
  refine .mk v he ?_ hb;rw[Vu ps _ (qn _),List.take_length]at ho;exact ho
def trE (E:Nat→Po) (n:Nat):Tr:=match stk E n with
 |some [t]=>t
 |_=>.leaf ⟨0,0,[]⟩
theorem Yk {E:Nat→Po} {n:Nat} {t:Tr} (h:stk E n=some [t]):trE E n=t:=by unfold trE;rw[h]
def zU (P:Pr) (n:Nat) (t:Int) (i:It) (r s:Int):List Is:=
 let u:Int:=(n:Int)+1
 let e:=gen (zG P) (trE i.E i.nE) t
 let f:=gen (zG P) (trE i.F i.nF) t
 if i.k=1 then e++[⟨2,r,t,0⟩]else if i.k=2 then e++[⟨18,t,u,0⟩]else if i.k=3 then []
 else if i.k=4 then e++([⟨6,r,r,t⟩]++within r t i.lo i.hi u)
 else if i.k=5 then [⟨15,r,(f.length:Int)+3,0⟩]++(f++([⟨4,t,t,0⟩]++([⟨18,t,u,0⟩]++(e++([⟨15,t,2,0⟩]++[⟨1,r,1,0⟩])))))
 else if i.k=6 then [⟨7,t,11,12⟩,⟨13,t+1,i.K,0⟩,⟨13,t+2,i.lo,0⟩,⟨5,t+3,t+1,t⟩,⟨6,r,r,t+3⟩,⟨5,t+3,t+2,t⟩,⟨6,r+1,r+1,t+3⟩,⟨5,t+1,t+1,t+2⟩,⟨5,t+1,t+1,t⟩,⟨6,r+2,r+2,t+1⟩,⟨5,t+3,r,r+1⟩,⟨9,t+3,t+3,r+2⟩,⟨18,t+3,u,0⟩]
 else if i.k=7 then [⟨15,11,8,0⟩]++([⟨1,t,1,0⟩,⟨6,r,r,t⟩,⟨19,s,r,0⟩,⟨1,t,i.K,0⟩,⟨9,t,r,t⟩,⟨18,t,u,0⟩]++([⟨17,0,6,0⟩]++[⟨20,t,s,0⟩,⟨10,t,t,r⟩,⟨18,t,u,0⟩,⟨1,t,1,0⟩,⟨7,r,r,t⟩]))
 else if i.k=8 then e++([⟨15,11,3,0⟩]++([⟨19,s,t,0⟩]++([⟨17,0,9,0⟩]++([⟨20,t+1,s,0⟩]++([⟨7,t,t,t+1⟩]++within t (t+1) i.lo i.hi u)))))
 else e++([⟨15,t,7,0⟩]++([⟨1,t,1,0⟩,⟨6,r,r,t⟩,⟨1,t,i.K,0⟩,⟨9,t,r,t⟩,⟨18,t,u,0⟩]++([⟨17,0,2,0⟩]++[⟨1,r,0,0⟩])))
theorem sk3 (P:Pr) (a:Option Addr) (c:Nat) (L:Nat→Lo) (hPn:P.n≤100) (n:Nat) (hn:n<P.n) (t:Int) (ht0:0≤t) (ht1:t≤1000) (nm:List UInt8) (nE nF:Nat) (E F:Nat→Po) (K lo hi:Int) (aE aF:Option Addr) (cE cF:Nat) (w:World) (hP:yr w a P L) (hI:P.I n=⟨3,nm,nE,nF,E,F,K,lo,hi⟩) (hL:L n=⟨aE,aF,cE,cF⟩)
  (GE:Hid (∀W,Below w.heap.size w W→Calls Tryd.prog 45 #[.agg #[.slice a P.n c],.slice aE nE cE,.int .i64 t] W fun e w'=>GenP W w' (gen (zG P) (trE E nE) t) e)) (hle:(gen (zG P) (trE E nE) t).length≤100000):
  Calls Tryd.prog 44 #[.agg #[.slice a P.n c],.int .i64 (n:Int),.int .i64 t] w fun e w'=>GenP w w' (zU P n t ⟨3,nm,nE,nF,E,F,K,lo,hi⟩ (reg P n) (zM P n)) e:=by
 obtain⟨i0,hi0,hz0,hz1,hz2⟩:=info_parts yI;have hrl:=xw P (qq hn);have hsl:=yC P n;have RG:Hid (∀W,Below w.heap.size w W→Calls Tryd.prog 41 #[.agg #[.slice a P.n c],.int .i64 (n:Int)] W fun e w'=>e=.returned (.int .i64 (reg P n:Int))∧Below W.heap.size W w'):=fun W hW=>Yp P a c n L W (hP.below hW) (by omega) (qq hn)
 have SL:Hid (∀W,Below w.heap.size w W→Calls Tryd.prog 42 #[.agg #[.slice a P.n c],.int .i64 (n:Int)] W fun e w'=>e=.returned (.int .i64 (zM P n:Int))∧Below W.heap.size W w'):=fun W hW=>Zm P a c n L W (hP.below hW) (by omega) (qq hn)
 obtain⟨b,off,ha,hcells⟩:∃b off,a=some ⟨b,off,none⟩∧w.rangeAt b (off+n*7) ((P.I n).cells (L n)):=by
  rcases hP.s with h0|⟨b,off,h1,h0⟩
  ·omega
  ·exact⟨b,off,h1,h0 n hn⟩
 rw[hI,hL]at hcells;obtain⟨V,hV⟩:∃V,V=w.alloc (.cells #[.slice (some ⟨b,off,none⟩) P.n c] 54):=⟨_,rfl⟩;have BV:Hid (Below w.heap.size w V):=by rw[hV];exact zf (Below.refl _ _) _
 obtain⟨m0,m1,m2,m3,m4,m5,m6⟩:=It.at (zt hcells BV.out);dsimp only at m0 m1 m2 m3 m4 m5 m6;obtain⟨r,hr⟩:∃r,r=reg P n:=⟨_,rfl⟩;obtain⟨s,hs⟩:∃s,s=zM P n:=⟨_,rfl⟩;obtain⟨e0,he0⟩:∃e0,e0=gen (zG P) (trE E nE) t:=⟨_,rfl⟩;obtain⟨f0,hf0⟩:∃f0,f0=gen (zG P) (trE F nF) t:=⟨_,rfl⟩;have HS:Hid (zU P n t ⟨3,nm,nE,nF,E,F,K,lo,hi⟩ (reg P n) (zM P n)=[]):=by unfold Hid;rw[←hr,←hs];simp[zU,←he0,←hf0]
 rw[HS.out];rw[←hr]at RG hrl;rw[←hs]at SL hsl;rw[←he0]at GE hle;clear hP hI hL hcells hr hs he0 hf0 HS;obtain⟨N,hN⟩:∃N,N=P.n:=⟨_,rfl⟩;rw[←hN]at hPn hn RG SL GE hV hrl ⊢;clear hN;subst ha;obtain⟨W1,hW1⟩:∃W1,W1=V.alloc (.cells #[.int .i64 3,.string ⟨nm.toArray⟩,.slice aE nE cE,.slice aF nF cF,.int .i64 K,.int .i64 lo,.int .i64 hi] 77):=⟨_,rfl⟩;have B1:Hid (Below w.heap.size w W1):=by rw[hW1];exact zf BV.out _
 have P1:Hid (W1.heap[w.heap.size]? =some (.cells #[.slice (some ⟨b,off,none⟩) N c] 54)):=by rw[hW1,hV];exact zh (zi _ _) _
 have I1:Hid (W1.heap[w.heap.size+1]? =some (.cells #[.int .i64 3,.string ⟨nm.toArray⟩,.slice aE nE cE,.slice aF nF cF,.int .i64 K,.int .i64 lo,.int .i64 hi] 77)):=by rw[hW1,hV];exact zx _ _ _
 have hVs:V.heap.size=w.heap.size+1:=by rw[hV];simp
 have v0:V.cell? ⟨w.heap.size,0,none⟩=some (.slice (some ⟨b,off,none⟩) N c):=by rw[hV];exact za (zi _ _) 0
 have HV:=Hm hV;have HW:=Hm hW1;have HVS:=Hm hVs;clear hV hW1 hVs BV;have n0:(0:Int)≤(n:Int):=by omega
 have n1:(n:Int)<(N:Int):=by omega
 have n2:IntKind.i64.wrap ((n:Int)+1)=(n:Int)+1:=wrap_small _ (by omega) (by omega);go_enter Tryd.func44,Tryd.ntmps44;go_upto_region 1 with fail;rw[←HV.out];go_upto_region 2 with fail;rw[HVS.out,←HW.out];clear HV HW HVS m0 m1 m2 m3 m4 m5 m6 v0;have x0:=za P1.out 0;simp only[qk,ql]at x0;go_wp2_with (go_at_call 41;refine(RG.out _ B1.out).mono ?_);rintro e w2 ⟨rfl,hb⟩;have B1:=Hm (zg B1.out hb);have P1:=Hm (ze P1.out hb);have I1:=Hm (ze I1.out hb);clear hb x0;have x0:=za P1.out 0;simp only[qk,ql]at x0;refine Hid.out ?_;refine Lib.hid ?_;go_wp2_with (go_at_call 42;refine(SL.out _ B1.out).mono ?_);rintro e w3 ⟨rfl,hb⟩;have B1:=Hm (zg B1.out hb);have P1:=Hm (ze P1.out hb)
 have I1:=Hm (ze I1.out hb);clear hb x0;refine Hid.out ?_;refine Lib.hid ?_;go_wp2_with (go_at_call 58;refine(yp 18 t ((n:Int)+1) 0 _).mono ?_);rintro e w4 ⟨vc,rfl,hoc,hb⟩;obtain⟨ac,cc,rfl⟩:=hoc.shape;have B1:=Hm (zg B1.out hb);have P1:=Hm (ze P1.out hb);have I1:=Hm (ze I1.out hb);have RC:=Hm hoc.rd;clear hb hoc;have hsz4:=B1.out.size;obtain⟨W5,hW5⟩:∃W,W=w4.alloc (.cells #[] 60):=⟨_,rfl⟩;have b5:Below w4.heap.size w4 W5:=by rw[hW5];exact zf (Below.refl _ _) _
 have OE:Hid (OI w.heap.size W5 (.slice (some ⟨w4.heap.size,0,none⟩) 0 0) []):=by rw[hW5];exact(OI.nil w4).mono hsz4
 have B1:=Hm (zg B1.out b5);have P1:=Hm (ze P1.out b5);have I1:=Hm (ze I1.out b5);have RC:=Hm (RC.out.below b5);clear b5;have x0:=za P1.out 0;have y0:=za I1.out 0;have y2:=za I1.out 2;simp only[qk,ql,qm]at x0 y0 y2;refine Hid.out ?_;refine Lib.hid ?_;go_upto_region 7 with fail;rw[←hW5];clear hW5;go_wp2_with (go_at_call 59;refine(zK 3 _).mono ?_);rintro e w' ⟨rfl,hw⟩;rw[hw,show heB 3=true from rfl];clear hw;clear OE;go_wp2_with (go_at_call 45;refine(GE.out _ B1.out).mono ?_);rintro e w6 ⟨ve,rfl,hoe,hb⟩;obtain⟨ae,ce,rfl⟩:=hoe.shape;have OE:=Hm (hoe.mono B1.out.size);have B1:=Hm (zg B1.out hb);have P1:=Hm (ze P1.out hb);have I1:=Hm (ze I1.out hb)
 have RC:=Hm (RC.out.below hb);clear hb hoe x0 y0 y2;obtain⟨ne,hne⟩:∃n,n=e0.length:=⟨_,rfl⟩;rw[←hne]at hle OE ⊢;have HNE:=Hm hne;clear hne;have y0:=za I1.out 0;simp only[qk,ql,qm]at y0;refine Hid.out ?_;refine Lib.hid ?_;go_wp2;go_ret;exact .mk _ rfl ((OI.nil w6).mono B1.out.size) (zf B1.out _)
theorem sk2 (P:Pr) (a:Option Addr) (c:Nat) (L:Nat→Lo) (hPn:P.n≤100) (n:Nat) (hn:n<P.n) (t:Int) (ht0:0≤t) (ht1:t≤1000) (nm:List UInt8) (nE nF:Nat) (E F:Nat→Po) (K lo hi:Int) (aE aF:Option Addr) (cE cF:Nat) (w:World) (hP:yr w a P L) (hI:P.I n=⟨2,nm,nE,nF,E,F,K,lo,hi⟩) (hL:L n=⟨aE,aF,cE,cF⟩)
  (GE:Hid (∀W,Below w.heap.size w W→Calls Tryd.prog 45 #[.agg #[.slice a P.n c],.slice aE nE cE,.int .i64 t] W fun e w'=>GenP W w' (gen (zG P) (trE E nE) t) e)) (hle:(gen (zG P) (trE E nE) t).length≤100000):
  Calls Tryd.prog 44 #[.agg #[.slice a P.n c],.int .i64 (n:Int),.int .i64 t] w fun e w'=>GenP w w' (zU P n t ⟨2,nm,nE,nF,E,F,K,lo,hi⟩ (reg P n) (zM P n)) e:=by
 obtain⟨i0,hi0,hz0,hz1,hz2⟩:=info_parts yI;have hrl:=xw P (qq hn);have hsl:=yC P n;have RG:Hid (∀W,Below w.heap.size w W→Calls Tryd.prog 41 #[.agg #[.slice a P.n c],.int .i64 (n:Int)] W fun e w'=>e=.returned (.int .i64 (reg P n:Int))∧Below W.heap.size W w'):=fun W hW=>Yp P a c n L W (hP.below hW) (by omega) (qq hn)
 have SL:Hid (∀W,Below w.heap.size w W→Calls Tryd.prog 42 #[.agg #[.slice a P.n c],.int .i64 (n:Int)] W fun e w'=>e=.returned (.int .i64 (zM P n:Int))∧Below W.heap.size W w'):=fun W hW=>Zm P a c n L W (hP.below hW) (by omega) (qq hn)
 obtain⟨b,off,ha,hcells⟩:∃b off,a=some ⟨b,off,none⟩∧w.rangeAt b (off+n*7) ((P.I n).cells (L n)):=by
  rcases hP.s with h0|⟨b,off,h1,h0⟩
  ·omega
  ·exact⟨b,off,h1,h0 n hn⟩
 rw[hI,hL]at hcells;obtain⟨V,hV⟩:∃V,V=w.alloc (.cells #[.slice (some ⟨b,off,none⟩) P.n c] 54):=⟨_,rfl⟩;have BV:Hid (Below w.heap.size w V):=by rw[hV];exact zf (Below.refl _ _) _
 obtain⟨m0,m1,m2,m3,m4,m5,m6⟩:=It.at (zt hcells BV.out);dsimp only at m0 m1 m2 m3 m4 m5 m6;obtain⟨r,hr⟩:∃r,r=reg P n:=⟨_,rfl⟩;obtain⟨s,hs⟩:∃s,s=zM P n:=⟨_,rfl⟩;obtain⟨e0,he0⟩:∃e0,e0=gen (zG P) (trE E nE) t:=⟨_,rfl⟩;obtain⟨f0,hf0⟩:∃f0,f0=gen (zG P) (trE F nF) t:=⟨_,rfl⟩;have HS:Hid (zU P n t ⟨2,nm,nE,nF,E,F,K,lo,hi⟩ (reg P n) (zM P n)=e0++[⟨18,t,(n:Int)+1,0⟩]):=by unfold Hid;rw[←hr,←hs];simp[zU,←he0,←hf0]
 rw[HS.out];rw[←hr]at RG hrl;rw[←hs]at SL hsl;rw[←he0]at GE hle;clear hP hI hL hcells hr hs he0 hf0 HS;obtain⟨N,hN⟩:∃N,N=P.n:=⟨_,rfl⟩;rw[←hN]at hPn hn RG SL GE hV hrl ⊢;clear hN;subst ha;obtain⟨W1,hW1⟩:∃W1,W1=V.alloc (.cells #[.int .i64 2,.string ⟨nm.toArray⟩,.slice aE nE cE,.slice aF nF cF,.int .i64 K,.int .i64 lo,.int .i64 hi] 77):=⟨_,rfl⟩;have B1:Hid (Below w.heap.size w W1):=by rw[hW1];exact zf BV.out _
 have P1:Hid (W1.heap[w.heap.size]? =some (.cells #[.slice (some ⟨b,off,none⟩) N c] 54)):=by rw[hW1,hV];exact zh (zi _ _) _
 have I1:Hid (W1.heap[w.heap.size+1]? =some (.cells #[.int .i64 2,.string ⟨nm.toArray⟩,.slice aE nE cE,.slice aF nF cF,.int .i64 K,.int .i64 lo,.int .i64 hi] 77)):=by rw[hW1,hV];exact zx _ _ _
 have hVs:V.heap.size=w.heap.size+1:=by rw[hV];simp
 have v0:V.cell? ⟨w.heap.size,0,none⟩=some (.slice (some ⟨b,off,none⟩) N c):=by rw[hV];exact za (zi _ _) 0
 have HV:=Hm hV;have HW:=Hm hW1;have HVS:=Hm hVs;clear hV hW1 hVs BV;have n0:(0:Int)≤(n:Int):=by omega
 have n1:(n:Int)<(N:Int):=by omega
 have n2:IntKind.i64.wrap ((n:Int)+1)=(n:Int)+1:=wrap_small _ (by omega) (by omega);go_enter Tryd.func44,Tryd.ntmps44;go_upto_region 1 with fail;rw[←HV.out];go_upto_region 2 with fail;rw[HVS.out,←HW.out];clear HV HW HVS m0 m1 m2 m3 m4 m5 m6 v0;have x0:=za P1.out 0;simp only[qk,ql]at x0;go_wp2_with (go_at_call 41;refine(RG.out _ B1.out).mono ?_);rintro e w2 ⟨rfl,hb⟩;have B1:=Hm (zg B1.out hb);have P1:=Hm (ze P1.out hb);have I1:=Hm (ze I1.out hb);clear hb x0;have x0:=za P1.out 0;simp only[qk,ql]at x0;refine Hid.out ?_;refine Lib.hid ?_;go_wp2_with (go_at_call 42;refine(SL.out _ B1.out).mono ?_);rintro e w3 ⟨rfl,hb⟩;have B1:=Hm (zg B1.out hb);have P1:=Hm (ze P1.out hb)
 have I1:=Hm (ze I1.out hb);clear hb x0;refine Hid.out ?_;refine Lib.hid ?_;go_wp2_with (go_at_call 58;refine(yp 18 t ((n:Int)+1) 0 _).mono ?_);rintro e w4 ⟨vc,rfl,hoc,hb⟩;obtain⟨ac,cc,rfl⟩:=hoc.shape;have B1:=Hm (zg B1.out hb);have P1:=Hm (ze P1.out hb);have I1:=Hm (ze I1.out hb);have RC:=Hm hoc.rd;clear hb hoc;have hsz4:=B1.out.size;obtain⟨W5,hW5⟩:∃W,W=w4.alloc (.cells #[] 60):=⟨_,rfl⟩;have b5:Below w4.heap.size w4 W5:=by rw[hW5];exact zf (Below.refl _ _) _
 have OE:Hid (OI w.heap.size W5 (.slice (some ⟨w4.heap.size,0,none⟩) 0 0) []):=by rw[hW5];exact(OI.nil w4).mono hsz4
 have B1:=Hm (zg B1.out b5);have P1:=Hm (ze P1.out b5);have I1:=Hm (ze I1.out b5);have RC:=Hm (RC.out.below b5);clear b5;have x0:=za P1.out 0;have y0:=za I1.out 0;have y2:=za I1.out 2;simp only[qk,ql,qm]at x0 y0 y2;refine Hid.out ?_;refine Lib.hid ?_;go_upto_region 7 with fail;rw[←hW5];clear hW5;go_wp2_with (go_at_call 59;refine(zK 2 _).mono ?_);rintro e w' ⟨rfl,hw⟩;rw[hw,show heB 2=true from rfl];clear hw;clear OE;go_wp2_with (go_at_call 45;refine(GE.out _ B1.out).mono ?_);rintro e w6 ⟨ve,rfl,hoe,hb⟩;obtain⟨ae,ce,rfl⟩:=hoe.shape;have OE:=Hm (hoe.mono B1.out.size);have B1:=Hm (zg B1.out hb);have P1:=Hm (ze P1.out hb);have I1:=Hm (ze I1.out hb)
 have RC:=Hm (RC.out.below hb);clear hb hoe x0 y0 y2;obtain⟨ne,hne⟩:∃n,n=e0.length:=⟨_,rfl⟩;rw[←hne]at hle OE ⊢;have HNE:=Hm hne;clear hne;have y0:=za I1.out 0;simp only[qk,ql,qm]at y0;refine Hid.out ?_;refine Lib.hid ?_;obtain⟨W9,hW9⟩:∃W,W=w6.alloc (.cells #[.slice ae ne ce,.slice ac 1 cc] 23):=⟨_,rfl⟩;have B9:Hid (Below w6.heap.size w6 W9):=by rw[hW9];exact zf (Below.refl _ _) _
 have K9:Hid (W9.heap[w6.heap.size]? =some (.cells #[.slice ae ne ce,.slice ac 1 cc] 23)):=by rw[hW9];exact zi _ _
 have SQ:Hid (Calls Tryd.prog 37 #[.slice (some ⟨w6.heap.size,0,none⟩) 2 2] W9 fun e w'=>GenP W9 w' (List.flatMap Prod.snd ([(.slice ae ne ce,e0),(.slice ac 1 cc,[⟨18,t,(n:Int)+1,0⟩])]:List (Value×List Is))) e):=XK w6.heap.size [(.slice ae ne ce,e0),(.slice ac 1 cc,[⟨18,t,(n:Int)+1,0⟩])] W9 _ (by simp) K9.out ⟨⟨(OE.out.rd).below B9.out,by rw[←HNE.out];omega⟩,⟨⟨(RC.out).below B9.out,by simp⟩,trivial⟩⟩;have BX:=Hm (zg B1.out B9.out);have HW9:=Hm hW9;clear hW9 K9 B9;go_wp2_with (go_at_call 37;rw[←HW9.out];refine SQ.out.mono ?_);rintro e w10 ⟨v10,rfl,ho10,hb10⟩;have B10:=Hm (zg BX.out hb10);have O10:=Hm (ho10.mono BX.out.size);clear ho10 hb10;go_wp2;go_ret;exact .mk _ rfl (by have:=O10.out;simpa using this) B10.out
theorem sk1 (P:Pr) (a:Option Addr) (c:Nat) (L:Nat→Lo) (hPn:P.n≤100) (n:Nat) (hn:n<P.n) (t:Int) (ht0:0≤t) (ht1:t≤1000) (nm:List UInt8) (nE nF:Nat) (E F:Nat→Po) (K lo hi:Int) (aE aF:Option Addr) (cE cF:Nat) (w:World) (hP:yr w a P L) (hI:P.I n=⟨1,nm,nE,nF,E,F,K,lo,hi⟩) (hL:L n=⟨aE,aF,cE,cF⟩)
  (GE:Hid (∀W,Below w.heap.size w W→Calls Tryd.prog 45 #[.agg #[.slice a P.n c],.slice aE nE cE,.int .i64 t] W fun e w'=>GenP W w' (gen (zG P) (trE E nE) t) e)) (hle:(gen (zG P) (trE E nE) t).length≤100000):
  Calls Tryd.prog 44 #[.agg #[.slice a P.n c],.int .i64 (n:Int),.int .i64 t] w fun e w'=>GenP w w' (zU P n t ⟨1,nm,nE,nF,E,F,K,lo,hi⟩ (reg P n) (zM P n)) e:=by
 obtain⟨i0,hi0,hz0,hz1,hz2⟩:=info_parts yI;have hrl:=xw P (qq hn);have hsl:=yC P n;have RG:Hid (∀W,Below w.heap.size w W→Calls Tryd.prog 41 #[.agg #[.slice a P.n c],.int .i64 (n:Int)] W fun e w'=>e=.returned (.int .i64 (reg P n:Int))∧Below W.heap.size W w'):=fun W hW=>Yp P a c n L W (hP.below hW) (by omega) (qq hn)
 have SL:Hid (∀W,Below w.heap.size w W→Calls Tryd.prog 42 #[.agg #[.slice a P.n c],.int .i64 (n:Int)] W fun e w'=>e=.returned (.int .i64 (zM P n:Int))∧Below W.heap.size W w'):=fun W hW=>Zm P a c n L W (hP.below hW) (by omega) (qq hn)
 obtain⟨b,off,ha,hcells⟩:∃b off,a=some ⟨b,off,none⟩∧w.rangeAt b (off+n*7) ((P.I n).cells (L n)):=by
  rcases hP.s with h0|⟨b,off,h1,h0⟩
  ·omega
  ·exact⟨b,off,h1,h0 n hn⟩
 rw[hI,hL]at hcells;obtain⟨V,hV⟩:∃V,V=w.alloc (.cells #[.slice (some ⟨b,off,none⟩) P.n c] 54):=⟨_,rfl⟩;have BV:Hid (Below w.heap.size w V):=by rw[hV];exact zf (Below.refl _ _) _
 obtain⟨m0,m1,m2,m3,m4,m5,m6⟩:=It.at (zt hcells BV.out);dsimp only at m0 m1 m2 m3 m4 m5 m6;obtain⟨r,hr⟩:∃r,r=reg P n:=⟨_,rfl⟩;obtain⟨s,hs⟩:∃s,s=zM P n:=⟨_,rfl⟩;obtain⟨e0,he0⟩:∃e0,e0=gen (zG P) (trE E nE) t:=⟨_,rfl⟩;obtain⟨f0,hf0⟩:∃f0,f0=gen (zG P) (trE F nF) t:=⟨_,rfl⟩;have HS:Hid (zU P n t ⟨1,nm,nE,nF,E,F,K,lo,hi⟩ (reg P n) (zM P n)=e0++[⟨2,(r:Int),t,0⟩]):=by unfold Hid;rw[←hr,←hs];simp[zU,←he0,←hf0]
 rw[HS.out];rw[←hr]at RG hrl;rw[←hs]at SL hsl;rw[←he0]at GE hle;clear hP hI hL hcells hr hs he0 hf0 HS;obtain⟨N,hN⟩:∃N,N=P.n:=⟨_,rfl⟩;rw[←hN]at hPn hn RG SL GE hV hrl ⊢;clear hN;subst ha;obtain⟨W1,hW1⟩:∃W1,W1=V.alloc (.cells #[.int .i64 1,.string ⟨nm.toArray⟩,.slice aE nE cE,.slice aF nF cF,.int .i64 K,.int .i64 lo,.int .i64 hi] 77):=⟨_,rfl⟩;have B1:Hid (Below w.heap.size w W1):=by rw[hW1];exact zf BV.out _
 have P1:Hid (W1.heap[w.heap.size]? =some (.cells #[.slice (some ⟨b,off,none⟩) N c] 54)):=by rw[hW1,hV];exact zh (zi _ _) _
 have I1:Hid (W1.heap[w.heap.size+1]? =some (.cells #[.int .i64 1,.string ⟨nm.toArray⟩,.slice aE nE cE,.slice aF nF cF,.int .i64 K,.int .i64 lo,.int .i64 hi] 77)):=by rw[hW1,hV];exact zx _ _ _
 have hVs:V.heap.size=w.heap.size+1:=by rw[hV];simp
 have v0:V.cell? ⟨w.heap.size,0,none⟩=some (.slice (some ⟨b,off,none⟩) N c):=by rw[hV];exact za (zi _ _) 0
 have HV:=Hm hV;have HW:=Hm hW1;have HVS:=Hm hVs;clear hV hW1 hVs BV;have n0:(0:Int)≤(n:Int):=by omega
 have n1:(n:Int)<(N:Int):=by omega
 have n2:IntKind.i64.wrap ((n:Int)+1)=(n:Int)+1:=wrap_small _ (by omega) (by omega);go_enter Tryd.func44,Tryd.ntmps44;go_upto_region 1 with fail;rw[←HV.out];go_upto_region 2 with fail;rw[HVS.out,←HW.out];clear HV HW HVS m0 m1 m2 m3 m4 m5 m6 v0;have x0:=za P1.out 0;simp only[qk,ql]at x0;go_wp2_with (go_at_call 41;refine(RG.out _ B1.out).mono ?_);rintro e w2 ⟨rfl,hb⟩;have B1:=Hm (zg B1.out hb);have P1:=Hm (ze P1.out hb);have I1:=Hm (ze I1.out hb);clear hb x0;have x0:=za P1.out 0;simp only[qk,ql]at x0;refine Hid.out ?_;refine Lib.hid ?_;go_wp2_with (go_at_call 42;refine(SL.out _ B1.out).mono ?_);rintro e w3 ⟨rfl,hb⟩;have B1:=Hm (zg B1.out hb);have P1:=Hm (ze P1.out hb)
 have I1:=Hm (ze I1.out hb);clear hb x0;refine Hid.out ?_;refine Lib.hid ?_;go_wp2_with (go_at_call 58;refine(yp 18 t ((n:Int)+1) 0 _).mono ?_);rintro e w4 ⟨vc,rfl,hoc,hb⟩;obtain⟨ac,cc,rfl⟩:=hoc.shape;have B1:=Hm (zg B1.out hb);have P1:=Hm (ze P1.out hb);have I1:=Hm (ze I1.out hb);have RC:=Hm hoc.rd;clear hb hoc;have hsz4:=B1.out.size;obtain⟨W5,hW5⟩:∃W,W=w4.alloc (.cells #[] 60):=⟨_,rfl⟩;have b5:Below w4.heap.size w4 W5:=by rw[hW5];exact zf (Below.refl _ _) _
 have OE:Hid (OI w.heap.size W5 (.slice (some ⟨w4.heap.size,0,none⟩) 0 0) []):=by rw[hW5];exact(OI.nil w4).mono hsz4
 have B1:=Hm (zg B1.out b5);have P1:=Hm (ze P1.out b5);have I1:=Hm (ze I1.out b5);have RC:=Hm (RC.out.below b5);clear b5;have x0:=za P1.out 0;have y0:=za I1.out 0;have y2:=za I1.out 2;simp only[qk,ql,qm]at x0 y0 y2;refine Hid.out ?_;refine Lib.hid ?_;go_upto_region 7 with fail;rw[←hW5];clear hW5;go_wp2_with (go_at_call 59;refine(zK 1 _).mono ?_);rintro e w' ⟨rfl,hw⟩;rw[hw,show heB 1=true from rfl];clear hw;clear OE;go_wp2_with (go_at_call 45;refine(GE.out _ B1.out).mono ?_);rintro e w6 ⟨ve,rfl,hoe,hb⟩;obtain⟨ae,ce,rfl⟩:=hoe.shape;have OE:=Hm (hoe.mono B1.out.size);have B1:=Hm (zg B1.out hb);have P1:=Hm (ze P1.out hb);have I1:=Hm (ze I1.out hb)
 have RC:=Hm (RC.out.below hb);clear hb hoe x0 y0 y2;obtain⟨ne,hne⟩:∃n,n=e0.length:=⟨_,rfl⟩;rw[←hne]at hle OE ⊢;have HNE:=Hm hne;clear hne;have y0:=za I1.out 0;simp only[qk,ql,qm]at y0;refine Hid.out ?_;refine Lib.hid ?_;go_wp2_with (go_at_call 39;refine(Dec.insS 2 (r:Int) t 0 _).mono ?_);rintro e w7 ⟨rfl,hb3⟩;have B3:=Hm (zg B1.out hb3)
 have O3:Hid (w7.ownsRow w.heap.size 60 4 (.slice ae ne ce) ne (isC e0)):=by
  have:=OE.out.kept hb3;unfold OI at this;rw[←HNE.out]at this;exact this
 have hsz3:=B3.out.size;clear hb3;refine Hid.out ?_;refine Lib.hid ?_;go_wp2_with (at_builtin;refine wpList_append_own _ rfl _ _ 23 rfl w.heap.size 60 i0 (.agg #[.int .i64 0,.int .i64 0,.int .i64 0,.int .i64 0]) 4 32 Tryd.underlying23 hi0 hz0 hz1 hz2 rfl (by decide) _ _ _ rfl (O3.out.alloc _) ⟨w7.heap.size,0,none⟩ 1 1 (isC [⟨2,(r:Int),t,0⟩]) rfl rfl (xk w7 ⟨2,(r:Int),t,0⟩ 60) (ym _) (by unfold maxLen;omega) (by omega) (by simp;omega) ?_);intro v8 w8 hown hgrow _;have O4:=Hm (OI.snoc (x:=⟨2,(r:Int),t,0⟩) HNE.out hown);have hbZ:=Hm (zf B3.out (.cells #[.int .i64 2,.int .i64 (r:Int),.int .i64 t,.int .i64 0] 60));have B4:Hid (Below w.heap.size w w8):=hbZ.out.grown hgrow hbZ.out.size (fun k hk=>(O3.out.lt k hk).1);clear hown hgrow hbZ;refine Hid.out ?_;refine Lib.hid ?_;go_wp2;go_ret
 exact .mk _ rfl O4.out B4.out
end Go.Proofs.YtbdldkpifanaiaaDoor.Cd
