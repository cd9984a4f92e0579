import Derived.Test.YtbdldkpifanaiaaDoorCr24
set_option maxHeartbeats 6400000
set_option maxRecDepth 100000
set_option linter.unusedVariables false
set_option linter.unusedSimpArgs false
open List renaming getElem?_toArray → qk, getElem?_cons_zero → ql, getElem?_cons_succ → qm
open Nat renaming le_refl → qn, le_of_lt → qq
namespace Go.Proofs.YtbdldkpifanaiaaDoor.Cd
open Go Go.RowKit Mem Syn
attribute [local go_sem ↓] Go.wp_at_zero Go.wp_at_succ
theorem OI.mkL (w:World) (L:List Is) (hl:L.length≤1000):OI w.heap.size (w.alloc (.cells (isC L).toArray 60)) (.slice (some ⟨w.heap.size,0,none⟩) L.length L.length) L:=by
 refine⟨xO L,Or.inr ⟨w.heap.size,L.length,_,rfl,qn _,zi _ _,qn _,by unfold maxLen;omega,by simp[xO],?_⟩⟩;rw[←xO,List.take_length]
theorem sk6 (P:Pr) (a:Option Addr) (c:Nat) (L:Nat→Lo) (hPn:P.n≤100) (n:Nat) (hn:n<P.n) (t:Int) (ht0:0≤t) (ht1:t≤1000) (nm:List UInt8) (nE nF:Nat) (E F:Nat→Po) (K lo hi:Int) (aE aF:Option Addr) (cE cF:Nat) (w:World) (hP:yr w a P L) (hI:P.I n=⟨6,nm,nE,nF,E,F,K,lo,hi⟩) (hL:L n=⟨aE,aF,cE,cF⟩)
 :
  Calls Tryd.prog 44 #[.agg #[.slice a P.n c],.int .i64 (n:Int),.int .i64 t] w fun e w'=>GenP w w' (zU P n t ⟨6,nm,nE,nF,E,F,K,lo,hi⟩ (reg P n) (zM P n)) e:=by
 obtain⟨i0,hi0,hz0,hz1,hz2⟩:=info_parts yI;have hrl:=xw P (qq hn);have hsl:=yC P n;have RG:Hid (∀W,Below w.heap.size w W→Calls Tryd.prog 41 #[.agg #[.slice a P.n c],.int .i64 (n:Int)] W fun e w'=>e=.returned (.int .i64 (reg P n:Int))∧Below W.heap.size W w'):=fun W hW=>Yp P a c n L W (hP.below hW) (by omega) (qq hn)
 have SL:Hid (∀W,Below w.heap.size w W→Calls Tryd.prog 42 #[.agg #[.slice a P.n c],.int .i64 (n:Int)] W fun e w'=>e=.returned (.int .i64 (zM P n:Int))∧Below W.heap.size W w'):=fun W hW=>Zm P a c n L W (hP.below hW) (by omega) (qq hn)
 obtain⟨b,off,ha,hcells⟩:∃b off,a=some ⟨b,off,none⟩∧w.rangeAt b (off+n*7) ((P.I n).cells (L n)):=by
  rcases hP.s with h0|⟨b,off,h1,h0⟩
  ·omega
  ·exact⟨b,off,h1,h0 n hn⟩
 rw[hI,hL]at hcells;obtain⟨V,hV⟩:∃V,V=w.alloc (.cells #[.slice (some ⟨b,off,none⟩) P.n c] 54):=⟨_,rfl⟩;have BV:Hid (Below w.heap.size w V):=by rw[hV];exact zf (Below.refl _ _) _
 obtain⟨m0,m1,m2,m3,m4,m5,m6⟩:=It.at (zt hcells BV.out);dsimp only at m0 m1 m2 m3 m4 m5 m6;obtain⟨r,hr⟩:∃r,r=reg P n:=⟨_,rfl⟩;obtain⟨s,hs⟩:∃s,s=zM P n:=⟨_,rfl⟩;obtain⟨e0,he0⟩:∃e0,e0=gen (zG P) (trE E nE) t:=⟨_,rfl⟩;obtain⟨f0,hf0⟩:∃f0,f0=gen (zG P) (trE F nF) t:=⟨_,rfl⟩
 have HS:Hid (zU P n t ⟨6,nm,nE,nF,E,F,K,lo,hi⟩ (reg P n) (zM P n)=[⟨7,t,11,12⟩,⟨13,t+1,K,0⟩,⟨13,t+2,lo,0⟩,⟨5,t+3,t+1,t⟩,⟨6,(r:Int),(r:Int),t+3⟩,⟨5,t+3,t+2,t⟩,⟨6,(r:Int)+1,(r:Int)+1,t+3⟩,⟨5,t+1,t+1,t+2⟩,⟨5,t+1,t+1,t⟩,⟨6,(r:Int)+2,(r:Int)+2,t+1⟩,⟨5,t+3,(r:Int),(r:Int)+1⟩,⟨9,t+3,t+3,(r:Int)+2⟩,⟨18,t+3,(n:Int)+1,0⟩]):=by unfold Hid;rw[←hr,←hs];simp[zU,←he0,←hf0]
 rw[HS.out];rw[←hr]at RG hrl;rw[←hs]at SL hsl;clear hP hI hL hcells hr hs he0 hf0 HS;obtain⟨N,hN⟩:∃N,N=P.n:=⟨_,rfl⟩;rw[←hN]at hPn hn RG SL hV hrl ⊢;clear hN;subst ha;obtain⟨W1,hW1⟩:∃W1,W1=V.alloc (.cells #[.int .i64 6,.string ⟨nm.toArray⟩,.slice aE nE cE,.slice aF nF cF,.int .i64 K,.int .i64 lo,.int .i64 hi] 77):=⟨_,rfl⟩;have B1:Hid (Below w.heap.size w W1):=by rw[hW1];exact zf BV.out _
 have P1:Hid (W1.heap[w.heap.size]? =some (.cells #[.slice (some ⟨b,off,none⟩) N c] 54)):=by rw[hW1,hV];exact zh (zi _ _) _
 have I1:Hid (W1.heap[w.heap.size+1]? =some (.cells #[.int .i64 6,.string ⟨nm.toArray⟩,.slice aE nE cE,.slice aF nF cF,.int .i64 K,.int .i64 lo,.int .i64 hi] 77)):=by rw[hW1,hV];exact zx _ _ _
 have hVs:V.heap.size=w.heap.size+1:=by rw[hV];simp
 have v0:V.cell? ⟨w.heap.size,0,none⟩=some (.slice (some ⟨b,off,none⟩) N c):=by rw[hV];exact za (zi _ _) 0
 have HV:=Hm hV;have HW:=Hm hW1;have HVS:=Hm hVs;clear hV hW1 hVs BV;have n0:(0:Int)≤(n:Int):=by omega
 have n1:(n:Int)<(N:Int):=by omega
 have n2:IntKind.i64.wrap ((n:Int)+1)=(n:Int)+1:=wrap_small _ (by omega) (by omega);go_enter Tryd.func44,Tryd.ntmps44;go_upto_region 1 with fail;rw[←HV.out];go_upto_region 2 with fail;rw[HVS.out,←HW.out];clear HV HW HVS m0 m1 m2 m3 m4 m5 m6 v0;have x0:=za P1.out 0;simp only[qk,ql]at x0;go_wp2_with (go_at_call 41;refine(RG.out _ B1.out).mono ?_);rintro e w2 ⟨rfl,hb⟩;have B1:=Hm (zg B1.out hb);have P1:=Hm (ze P1.out hb);have I1:=Hm (ze I1.out hb);clear hb x0;have x0:=za P1.out 0;simp only[qk,ql]at x0;refine Hid.out ?_;refine Lib.hid ?_;go_wp2_with (go_at_call 42;refine(SL.out _ B1.out).mono ?_);rintro e w3 ⟨rfl,hb⟩;have B1:=Hm (zg B1.out hb);have P1:=Hm (ze P1.out hb)
 have I1:=Hm (ze I1.out hb);clear hb x0;refine Hid.out ?_;refine Lib.hid ?_;go_wp2_with (go_at_call 58;refine(yp 18 t ((n:Int)+1) 0 _).mono ?_);rintro e w4 ⟨vc,rfl,hoc,hb⟩;obtain⟨ac,cc,rfl⟩:=hoc.shape;have B1:=Hm (zg B1.out hb);have P1:=Hm (ze P1.out hb);have I1:=Hm (ze I1.out hb);have RC:=Hm hoc.rd;clear hb hoc;have hsz4:=B1.out.size;obtain⟨W5,hW5⟩:∃W,W=w4.alloc (.cells #[] 60):=⟨_,rfl⟩;have b5:Below w4.heap.size w4 W5:=by rw[hW5];exact zf (Below.refl _ _) _
 have OE:Hid (OI w.heap.size W5 (.slice (some ⟨w4.heap.size,0,none⟩) 0 0) []):=by rw[hW5];exact(OI.nil w4).mono hsz4
 have B1:=Hm (zg B1.out b5);have P1:=Hm (ze P1.out b5);have I1:=Hm (ze I1.out b5);have RC:=Hm (RC.out.below b5);clear b5;have x0:=za P1.out 0;have y0:=za I1.out 0;have y2:=za I1.out 2;simp only[qk,ql,qm]at x0 y0 y2;refine Hid.out ?_;refine Lib.hid ?_;go_upto_region 7 with fail;rw[←hW5];clear hW5;go_wp2_with (go_at_call 59;refine(zK 6 _).mono ?_);rintro e w' ⟨rfl,hw⟩;rw[hw,show heB 6=false from rfl];clear hw;clear x0 y0 y2;have y0:=za I1.out 0;simp only[qk,ql,qm]at y0;have y4:=za I1.out 4;have y5:=za I1.out 5;simp only[qk,ql,qm]at y4 y5
 have u1:IntKind.i64.wrap (t+1)=t+1:=wrap_small _ (by omega) (by omega);have u2:IntKind.i64.wrap (t+2)=t+2:=wrap_small _ (by omega) (by omega);have u3:IntKind.i64.wrap (t+3)=t+3:=wrap_small _ (by omega) (by omega);have u4:IntKind.i64.wrap ((r:Int)+1)=(r:Int)+1:=wrap_small _ (by omega) (by omega);have u5:IntKind.i64.wrap ((r:Int)+2)=(r:Int)+2:=wrap_small _ (by omega) (by omega);go_wp2_with fail
 conv=>arg 2;dsimp only[List.append]
 have D:Hid (Below W5.heap.size W5 W5.drew):=(Below.refl _ _).drew
 go_region_held3 (fun w'=>w'.cell? ⟨w.heap.size+1,4,none⟩=some (.int .i64 K)∧w'.cell? ⟨w.heap.size+1,5,none⟩=some (.int .i64 lo)) (first|go_keep|exact⟨zw D.out y4,zw D.out y5⟩) ((go_at_call 39;refine(Dec.insS _ _ _ _ _).mono ?_;rintro e w' ⟨rfl,hb⟩;have D:=Hm (zg D.out hb)))
 have B1:=Hm (zg B1.out D.out);go_wp2;go_ret;exact .mk _ rfl ((OI.mkL w' [⟨7,t,11,12⟩,⟨13,t+1,K,0⟩,⟨13,t+2,lo,0⟩,⟨5,t+3,t+1,t⟩,⟨6,(r:Int),(r:Int),t+3⟩,⟨5,t+3,t+2,t⟩,⟨6,(r:Int)+1,(r:Int)+1,t+3⟩,⟨5,t+1,t+1,t+2⟩,⟨5,t+1,t+1,t⟩,⟨6,(r:Int)+2,(r:Int)+2,t+1⟩,⟨5,t+3,(r:Int),(r:Int)+1⟩,⟨9,t+3,t+3,(r:Int)+2⟩,⟨18,t+3,(n:Int)+1,0⟩] (by simp)).mono B1.out.size) (zf B1.out _)
end Go.Proofs.YtbdldkpifanaiaaDoor.Cd
