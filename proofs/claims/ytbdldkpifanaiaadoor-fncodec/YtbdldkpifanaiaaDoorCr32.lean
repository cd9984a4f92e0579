import Derived.Test.YtbdldkpifanaiaaDoorCr31
set_option maxHeartbeats 6400000
set_option maxRecDepth 1000000
set_option linter.unusedVariables false
set_option linter.unusedSimpArgs false
open Nat renaming le_refl → qn, le_trans → qo
namespace Go.Proofs.YtbdldkpifanaiaaDoor.Dq
open Go Go.RowKit Mem Syn Parse Par Draw
attribute [local go_sem ↓] Go.wp_at_zero Go.wp_at_succ
variable {B g:Nat} {w0 w w':World} {bs:List UInt8} {D:Sr} {s s':DS}
theorem exTop0 {t C:Nat} (ht:t=1∨t=2) {pa pb:Option Addr} {n ca cb:Nat} {ev:Ev} {A:Code} {m:List Po×DS} {r:List Value} (hr:r.length=139) (C0:Hid (Cu B g w w bs D s)) (hE:Hid (zp C w (.slice pa n ca) (.slice pb n cb) ev)) (hn1:ev.length≤100) (hm:Hid (y7 D ev 0 s t=m)):
  Code.wp Tryd.prog (.seq (sL e0) (.seq (sL (sR e0)) A)) (bodyPost Tryd.prog Tryd.f65 (RO B g w bs D m (4 ^ 0))) (Fe g t 0 (.agg #[.slice pa n ca,.slice pb n cb]) undef undef undef undef undef undef r) w:=by
 obtain⟨W1,hW1⟩:∃W,W=w.alloc (.cells #[.slice pa n ca,.slice pb n cb] 102):=⟨_,rfl⟩;have C1:Hid (Cu B g w W1 bs D s):=by rw[hW1];exact C0.out.al _
 have E1:Hid (zp C W1 (.slice pa n ca) (.slice pb n cb) ev):=by rw[hW1];exact hE.out.below (zf (Below.refl _ _) _)
 have X1:Hid (W1.heap[w.heap.size]? =some (.cells #[.slice pa n ca,.slice pb n cb] 102)):=by rw[hW1];exact zi _ _
 revert r;refine @zE 139 _ ?_
 iterate 139 (intro _)
 show Code.wp _ _ _ _ _
 conv=>arg 2;dsimp only[e0,Tryd.f65,Option.getD,sR,sL,cT,cF,bk,lpo]
 conv=>arg 4;dsimp only[Fe]
 have y0:=cl0 X1.out;have y1:=cl1 X1.out;rw[hW1]at y0 y1;go_wp2_with fail;rw[←hW1];clear y0 y1;refine(Z7 ht (Cu.self C1.out) E1.out hn1).mono ?_;rintro e' wz ⟨vz,rfl,ho,hc,hp,hq⟩;have OZ:=Hm (ho.low (Cu.size C1.out));have CZ:=Hm (Cu.in' C1.out hc);have PZ:=Hm (And.intro hp hq);obtain⟨az,nz,bz,rfl⟩:∃a n c,vz=.slice a n c:=by obtain⟨a,c,e,-⟩:=zj ho;exact⟨_,_,_,e⟩
 clear ho hc hp hq;obtain⟨L,s9,hL⟩:=two (yW D s t ev);rw[hL]at OZ CZ PZ;have HL:=Hm hL;clear hL;go_wp2;go_ret;refine RO.mk' (v:=.slice az nz bz) (L:=L) (s':=s9) ?_ OZ.out CZ.out PZ.out.1 (qo PZ.out.2 (Nat.one_le_pow _ _ (by omega)));rw[←hm.out];unfold y7;exact HL.out
theorem exTopS {d:Nat} (hd:d≤100) {t C:Nat} (ht:t=1∨t=2) {pa pb:Option Addr} {n ca cb:Nat} {ev:Ev} {A:Code} {m:List Po×DS} {r:List Value} (hr:r.length=139) (C0:Hid (Cu B g w w bs D s)) (hE:Hid (zp C w (.slice pa n ca) (.slice pb n cb) ev)) (hn1:ev.length≤100) (hm:Hid (y7 D ev (d+1) s t=m))
  (hA:Hid (∀k s2 v4 v5 v6 v8 r' wx,k<10→r'.length=139→Cu B g w wx bs D s2→zp C wx (.slice pa n ca) (.slice pb n cb) ev→wx.heap[w.heap.size]? =some (.cells #[.slice pa n ca,.slice pb n cb] 102)→dEx (y7 D ev d) k s2 t=m→Code.wp Tryd.prog A (bodyPost Tryd.prog Tryd.f65 (RO B g w bs D m (4 ^ (d+1)))) (Fe g t ((d:Int)+1) (.agg #[.slice pa n ca,.slice pb n cb]) v4 v5 v6 (.pointer (some ⟨w.heap.size,0,none⟩)) v8 (.int .i64 (k:Int)) r') wx)):
  Code.wp Tryd.prog (.seq (sL e0) (.seq (sL (sR e0)) (.seq (sL (sR (sR e0))) A))) (bodyPost Tryd.prog Tryd.f65 (RO B g w bs D m (4 ^ (d+1)))) (Fe g t ((d:Int)+1) (.agg #[.slice pa n ca,.slice pb n cb]) undef undef undef undef undef undef r) w:=by
 obtain⟨W1,hW1⟩:∃W,W=w.alloc (.cells #[.slice pa n ca,.slice pb n cb] 102):=⟨_,rfl⟩;have C1:Hid (Cu B g w W1 bs D s):=by rw[hW1];exact C0.out.al _
 have E1:Hid (zp C W1 (.slice pa n ca) (.slice pb n cb) ev):=by rw[hW1];exact hE.out.below (zf (Below.refl _ _) _)
 have X1:Hid (W1.heap[w.heap.size]? =some (.cells #[.slice pa n ca,.slice pb n cb] 102)):=by rw[hW1];exact zi _ _
 revert r;refine @zE 139 _ ?_
 iterate 139 (intro _)
 show Code.wp _ _ _ _ _
 conv=>arg 2;dsimp only[e0,Tryd.f65,Option.getD,sR,sL,cT,cF,bk,lpo]
 conv=>arg 4;dsimp only[Fe]
 have kd:((d:Int)+1==0)=false:=by simp;omega
 go_wp2_with fail;rw[←hW1];refine(Zo C1.out 5 (by omega) (by omega)).mono ?_;rintro e wC2 ⟨b,s1,hb,rfl,hc,hgb⟩;have C2:=Hm hc;have X2:=Hm (Cu.blk C1.out (qn _) X1.out hgb);have E2:=Hm (zp.cur E1.out C1.out hgb);have Qb:=Hm hb;clear hc hgb hb;clear X1 E1
 cases b with
 |true=>
  have y0:=cl0 X2.out;have y1:=cl1 X2.out;go_wp2_with fail;clear y0 y1;refine(Z7 ht (Cu.self C2.out) E2.out hn1).mono ?_;rintro e' wz ⟨vz,rfl,ho,hc,hp,hq⟩;have OZ:=Hm (ho.low (Cu.size C2.out));have CZ:=Hm (Cu.in' C2.out hc);have PZ:=Hm (And.intro hp hq);obtain⟨az,nz,bz,rfl⟩:∃a n c,vz=.slice a n c:=by obtain⟨a,c,e,-⟩:=zj ho;exact⟨_,_,_,e⟩
  clear ho hc hp hq;obtain⟨L,s9,hL⟩:=two (yW D s1 t ev);rw[hL]at OZ CZ PZ;have HL:=Hm hL;clear hL;go_wp2;go_ret;refine RO.mk' (v:=.slice az nz bz) (L:=L) (s':=s9) ?_ OZ.out CZ.out PZ.out.1 (qo PZ.out.2 (Nat.one_le_pow _ _ (by omega)));rw[←hm.out];simp[y7,Qb.out,HL.out]
 |false=>
  go_wp2_with fail;refine(zQ C2.out 10 (by omega) (by omega)).mono ?_;rintro e wC3 ⟨k,s2,hk,lk,rfl,hc,hgb⟩;have C3:=Hm hc;have X3:=Hm (Cu.blk C2.out (qn _) X2.out hgb);have E3:=Hm (zp.cur E2.out C2.out hgb);have Qk:=Hm hk;clear hc hgb hk;go_wp2_with fail;refine hA.out k s2 _ _ _ _ _ _ lk ?_ C3.out E3.out X3.out ?_
  ·rfl
  ·rw[←hm.out]
   simp[y7,Qb.out,Qk.out]
theorem TL:e0=.seq (sL e0) (.seq (sL (sR e0)) (.seq (sL (sR (sR e0))) e3)):=rfl
theorem Xc {a b:Value} {ev:Ev} {C:Nat} (hn:ev.length≤100):∀d,d≤6→ExF B g bs D C a b ev d (y7 D ev d)
 |0,_=>by
  intro s t w ht C0 hE;obtain⟨pa,ca,rfl,-⟩:=zj hE.n;obtain⟨pb,cb,rfl,-⟩:=zj hE.t;refine calls_of_wp Tryd.func65 (c:=e0) rfl ?_;rw[show(#[.pointer (some ⟨g,0,none⟩),.int .i64 (t:Int),.int .i64 ((0:Nat):Int),.agg #[.slice pa ev.length ca,.slice pb ev.length cb]]++Array.replicate (Tryd.f65.ntmps- (#[.pointer (some ⟨g,0,none⟩),.int .i64 (t:Int),.int .i64 ((0:Nat):Int),.agg #[.slice pa ev.length ca,.slice pb ev.length cb]]:Array Value).size) undef)=(.pointer (some ⟨g,0,none⟩)::.int .i64 (t:Int)::.int .i64 0::.agg #[.slice pa ev.length ca,.slice pb ev.length cb]::List.replicate 145 undef).toArray from WQ _ _ _ _ 145,TL];exact exTop0 (r:=List.replicate 139 undef) ht List.length_replicate (Hm C0) (Hm hE) hn (Hm rfl)
 |d+1,hd=>by
  have hF:Hid (ExF B g bs D C a b ev d (y7 D ev d)):=Xc hn d (by omega);have hd4:4 ^ d≤50000:=qo (Nat.pow_le_pow_right (by omega) (show d≤5 by omega)) (by decide);intro s t w ht C0 hE;obtain⟨pa,ca,rfl,-⟩:=zj hE.n;obtain⟨pb,cb,rfl,-⟩:=zj hE.t;refine calls_of_wp Tryd.func65 (c:=e0) rfl ?_
  rw[show(#[.pointer (some ⟨g,0,none⟩),.int .i64 (t:Int),.int .i64 ((d+1:Nat):Int),.agg #[.slice pa ev.length ca,.slice pb ev.length cb]]++Array.replicate (Tryd.f65.ntmps- (#[.pointer (some ⟨g,0,none⟩),.int .i64 (t:Int),.int .i64 ((d+1:Nat):Int),.agg #[.slice pa ev.length ca,.slice pb ev.length cb]]:Array Value).size) undef)=(.pointer (some ⟨g,0,none⟩)::.int .i64 (t:Int)::.int .i64 ((d:Int)+1)::.agg #[.slice pa ev.length ca,.slice pb ev.length cb]::List.replicate 145 undef).toArray from WQ _ _ _ _ 145,TL];refine exTopS (r:=List.replicate 139 undef) (by omega) ht List.length_replicate (Hm C0) (Hm hE) hn (Hm rfl) (Hm fun k s2 v4 v5 v6 v8 r' wx hk hr hc he hx hm=>?_);have HC:=Hm hc;have HE:=Hm he;have HX:=Hm hx;have HM:=Hm hm;by_cases k0:k=0
  ·exact exB0 hr HC HX HE hd4 (by omega) hF ht k0 HM
  rcases ht with rfl|rfl
  ·by_cases k1:k=1
   ·exact exB11 hr HC HX HE hd4 (by omega) hF k1 HM
   by_cases k2:k=2
   ·exact exB12 hr HC HX HE hd4 (by omega) hF k2 HM
   by_cases k3:k=3
   ·exact exB13 hr HC HX HE hd4 (by omega) hF k3 HM
   exact exB14 hr HC HX HE hd4 (by omega) hF (by omega) hk HM
  ·by_cases k1:k=1
   ·exact exB21 hr HC HX HE hd4 (by omega) hF k1 HM
   by_cases k2:k=2
   ·exact exB22 hr HC HX HE hd4 (by omega) hF k2 HM
   by_cases k6:k<6
   ·exact exB23 hr HC HX HE hd4 (by omega) hF (by omega) k6 HM
   exact exB26 hr HC HX HE hd4 (by omega) hF (by omega) hk HM
end Go.Proofs.YtbdldkpifanaiaaDoor.Dq
namespace Go.Proofs.YtbdldkpifanaiaaDoor.Dq
open Go Go.RowKit Mem Syn Parse Par Draw
attribute [local go_sem ↓] Go.wp_at_zero Go.wp_at_succ
variable {B g:Nat} {w0 w w':World} {bs:List UInt8} {D:Sr} {s s':DS}
theorem rngE (h:Cu B g w0 w bs D s) (lo hi:Int) (h0:lo≤hi) (h1:hi≤100000) (h2:-100000≤lo):Calls Tryd.prog 64 #[.pointer (some ⟨g,0,none⟩),.int .i64 lo,.int .i64 hi] w fun e w'=>∃x s',D.bel s (hi-lo+1).toNat=(x,s')∧lo≤lo+(x:Int)∧lo+(x:Int)≤hi∧e=.returned (.int .i64 (lo+(x:Int)))∧Cu B g w0 w' bs D s'∧w.grownBy w' (some g):=by
 have hlt:=ZK bs s (show 0<(hi-lo+1).toNat by omega);obtain⟨x,y,hxy⟩:=two (yf bs s (hi-lo+1).toNat);have hd:ZW bs s lo hi=(lo+(x:Int),y):=by unfold ZW;rw[hxy]
 rw[hxy]at hlt;dsimp only at hlt;have hc:=rangeD B g bs s lo hi w h.lB h.d h.len h0 h1 h2;rw[hd]at hc;refine hc.mono ?_;rintro e w' ⟨rfl,d,hg⟩;exact⟨x,y,(h.hb s _).trans hxy,by omega,by omega,rfl,h.call d hg,hg⟩
def Zp (D:Sr) (ev:Ev) (s:DS):List Po×DS:=
 match D.bel s 8 with
 |(k,s1)=>
  if k<3 then ([⟨3,0,[]⟩]++[⟨3,7,[]⟩]++[⟨9,4,[]⟩],s1)
  else if k<5 then ([⟨3,4,[]⟩]++[⟨3,9,[]⟩]++[⟨9,4,[]⟩],s1)
  else match D.bel s1 4 with
   |(t,s2)=>
    if k=5 then ([⟨4,(t:Int),[]⟩]++[⟨8,0,[]⟩]++[⟨5,(t:Int),[]⟩]++[⟨9,7,[]⟩],s2)
    else if k=6 then
     match D.bel s2 8 with
     |(x,s3)=>([⟨3,10,[]⟩]++[⟨1,4+(x:Int),[]⟩]++[⟨9,4,[]⟩],s3)
    else
     match y7 D ev 2 s2 2 with
     |(x,s3)=>match D.bel s3 20 with
      |(y,s4)=>(x++([⟨3,1,[]⟩]++[⟨1,18+(y:Int),[]⟩]++[⟨9,4,[]⟩])++[⟨9,7,[]⟩],s4)
def YL (D:Sr) (ev:Ev) (s:DS):List Po×DS:=
 match D.bel s 5 with
 |(k,s1)=>
  if k=0 then ([⟨3,2,[]⟩],s1)
  else if k=1 then
   match D.bel s1 3 with
   |(x,s2)=>([⟨4,(x:Int),[]⟩]++[⟨3,5,[]⟩]++[⟨1,0,[]⟩]++[⟨10,2,[]⟩],s2)
  else if k=2 then ([⟨3,1,[]⟩],s1)
  else if k=3 then ([⟨3,0,[]⟩],s1)
  else y7 D ev 2 s1 1
theorem TH {C:Nat} {a b:Value} {ev:Ev} (C0:Cu B g w w bs D s) (hE:zp C w a b ev) (hn1:ev.length≤100):Calls Tryd.prog 78 #[.pointer (some ⟨g,0,none⟩),.agg #[a,b]] w (RO B g w bs D (Zp D ev s) 24):=by
 obtain⟨i0,hi,hz0,hz1,hz2⟩:=info_parts yF;obtain⟨pa,ca,rfl,-⟩:=zj hE.n;obtain⟨pb,cb,rfl,-⟩:=zj hE.t;obtain⟨n,hn⟩:∃n,n=ev.length:=⟨_,rfl⟩;obtain⟨m,hm⟩:∃m,Hid (Zp D ev s=m):=⟨_,Hm rfl⟩;rw[hm.out];rw[←hn]at hE ⊢;clear hn;obtain⟨w1,hW1⟩:∃W,W=w.alloc (.cells #[.slice pa n ca,.slice pb n cb] 102):=⟨_,rfl⟩;have C1:Hid (Cu B g w w1 bs D s):=by rw[hW1];exact C0.al _
 have E1:Hid (zp C w1 (.slice pa n ca) (.slice pb n cb) ev):=by rw[hW1];exact hE.below (zf (Below.refl _ _) _)
 have Kbox_1:Hid (w1.heap[w.heap.size]? =some (.cells #[.slice pa n ca,.slice pb n cb] 102)):=by rw[hW1];exact zi _ _
 clear C0 hE;go_enter Tryd.func78,Tryd.ntmps78;go_wp2_with fail;rw[←hW1];clear hW1;refine(zQ C1.out 8 (by omega) (by omega)).mono ?_;rintro e' w2 ⟨k,s2,hx,lk,rfl,hc,hgb⟩;have C2:=Hm hc;have Qk:=Hm hx;have Kbox_2:=Hm (Cu.blk C1.out (by omega) Kbox_1.out hgb);have E2:=Hm (zp.cur E1.out C1.out hgb);clear Kbox_1 E1 hx hc hgb;by_cases h3:k<3
 ·have mk3:(k:Int)<3:=by omega
  go_wp2_with fail;refine(yz (0) _).mono ?_;rintro e' w3 ⟨vx,rfl,ho,hb⟩;have Kbox_3:=Hm (ze Kbox_2.out hb);have E3:=Hm (zp.below E2.out hb);have C3:=Hm (Cu.below C2.out hb);have O_x_3:=Hm (ho.low (Cu.size C2.out));obtain⟨ax,nx,cx,rfl⟩:∃a n c,vx=.slice a n c:=by obtain⟨a,c,e,-⟩:=zj ho;exact⟨_,_,_,e⟩
  clear Kbox_2 E2 ho hb;go_wp2_with fail;refine(yz (7) _).mono ?_;rintro e' w4 ⟨vy,rfl,ho,hb⟩;have O_x_4:=Hm (OwnO.below O_x_3.out hb);have Kbox_4:=Hm (ze Kbox_3.out hb);have E4:=Hm (zp.below E3.out hb);have C4:=Hm (Cu.below C3.out hb);have O_y_4:=Hm (ho.low (Cu.size C3.out));obtain⟨ay,ny,cy,rfl⟩:∃a n c,vy=.slice a n c:=by obtain⟨a,c,e,-⟩:=zj ho;exact⟨_,_,_,e⟩
  clear O_x_3 Kbox_3 E3 ho hb;go_wp2_with fail;refine(Zv (4) _ O_x_4.out O_y_4.out (by first|omega|(simp;done)|(simp;omega)) (by first|omega|(simp;done)|(simp;omega)) (by first|omega|(simp;done)|(simp;omega)) (by first|omega|(simp;done)|(simp;omega))).mono ?_;rintro e' w5 ⟨vz,rfl,ho,hb⟩;have O_x_5:=Hm (OwnO.below O_x_4.out hb);have O_y_5:=Hm (OwnO.below O_y_4.out hb);have Kbox_5:=Hm (ze Kbox_4.out hb);have E5:=Hm (zp.below E4.out hb);have C5:=Hm (Cu.below C4.out hb);have O_z_5:=Hm (ho.low (Cu.size C4.out));obtain⟨az,nz,cz,rfl⟩:∃a n c,vz=.slice a n c:=by obtain⟨a,c,e,-⟩:=zj ho;exact⟨_,_,_,e⟩
  clear O_x_4 O_y_4 Kbox_4 E4 ho hb;go_wp2;go_ret;refine RO.mk' (v:=.slice az nz cz) (L:=[⟨3,0,[]⟩]++[⟨3,7,[]⟩]++[⟨9,4,[]⟩]) (s':=s2) ?_ O_z_5.out C5.out (by first|omega|(simp;done)|(simp;omega)) (by first|omega|(simp;done)|(simp;omega));rw[←hm.out];simp[Zp,Qk.out,h3]
 have mk3:decide ((k:Int)<3)=false:=by simp;omega
 by_cases h5:k<5
 ·have mk5:(k:Int)<5:=by omega
  go_wp2_with fail;refine(yz (4) _).mono ?_;rintro e' w3 ⟨vx,rfl,ho,hb⟩;have Kbox_3:=Hm (ze Kbox_2.out hb);have E3:=Hm (zp.below E2.out hb);have C3:=Hm (Cu.below C2.out hb);have O_x_3:=Hm (ho.low (Cu.size C2.out));obtain⟨ax,nx,cx,rfl⟩:∃a n c,vx=.slice a n c:=by obtain⟨a,c,e,-⟩:=zj ho;exact⟨_,_,_,e⟩
  clear Kbox_2 E2 ho hb;go_wp2_with fail;refine(yz (9) _).mono ?_;rintro e' w4 ⟨vy,rfl,ho,hb⟩;have O_x_4:=Hm (OwnO.below O_x_3.out hb);have Kbox_4:=Hm (ze Kbox_3.out hb);have E4:=Hm (zp.below E3.out hb);have C4:=Hm (Cu.below C3.out hb);have O_y_4:=Hm (ho.low (Cu.size C3.out));obtain⟨ay,ny,cy,rfl⟩:∃a n c,vy=.slice a n c:=by obtain⟨a,c,e,-⟩:=zj ho;exact⟨_,_,_,e⟩
  clear O_x_3 Kbox_3 E3 ho hb;go_wp2_with fail;refine(Zv (4) _ O_x_4.out O_y_4.out (by first|omega|(simp;done)|(simp;omega)) (by first|omega|(simp;done)|(simp;omega)) (by first|omega|(simp;done)|(simp;omega)) (by first|omega|(simp;done)|(simp;omega))).mono ?_;rintro e' w5 ⟨vz,rfl,ho,hb⟩;have O_x_5:=Hm (OwnO.below O_x_4.out hb);have O_y_5:=Hm (OwnO.below O_y_4.out hb);have Kbox_5:=Hm (ze Kbox_4.out hb);have E5:=Hm (zp.below E4.out hb);have C5:=Hm (Cu.below C4.out hb);have O_z_5:=Hm (ho.low (Cu.size C4.out));obtain⟨az,nz,cz,rfl⟩:∃a n c,vz=.slice a n c:=by obtain⟨a,c,e,-⟩:=zj ho;exact⟨_,_,_,e⟩
  clear O_x_4 O_y_4 Kbox_4 E4 ho hb;go_wp2;go_ret;refine RO.mk' (v:=.slice az nz cz) (L:=[⟨3,4,[]⟩]++[⟨3,9,[]⟩]++[⟨9,4,[]⟩]) (s':=s2) ?_ O_z_5.out C5.out (by first|omega|(simp;done)|(simp;omega)) (by first|omega|(simp;done)|(simp;omega));rw[←hm.out];simp[Zp,Qk.out,h3,h5]
 have mk5:decide ((k:Int)<5)=false:=by simp;omega
 go_wp2_with fail;refine(zQ C2.out 4 (by omega) (by omega)).mono ?_;rintro e' w3 ⟨t,s3,hx,lt,rfl,hc,hgb⟩;have C3:=Hm hc;have Qt:=Hm hx;have Kbox_3:=Hm (Cu.blk C2.out (by omega) Kbox_2.out hgb);have E3:=Hm (zp.cur E2.out C2.out hgb);clear Kbox_2 E2 hx hc hgb;by_cases k5:k=5
 ·subst k5
  go_wp2_with (refine zv rfl 75 97 _ rfl i0 _ Tryd.underlying75 hi hz0 3 hz1 (Po.cells ⟨4,(t:Int),[]⟩) rfl (yK _ _ _) (by decide) (by decide) ?_);obtain⟨w4,hw⟩:∃W,W=w3.alloc (.cells (Po.cells ⟨4,(t:Int),[]⟩).toArray 97):=⟨_,rfl⟩;have hb:Below w3.heap.size w3 w4:=by rw[hw];exact zf (Below.refl _ _) _
  have ho:OwnO w3.heap.size w4 (.slice (some ⟨w3.heap.size,0,none⟩) 1 1) [⟨4,(t:Int),[]⟩]:=by rw[hw];exact xY _ ⟨4,(t:Int),[]⟩
  have Kbox_4:=Hm (ze Kbox_3.out hb);have E4:=Hm (zp.below E3.out hb);have C4:=Hm (Cu.below C3.out hb);have O_h_4:=Hm (ho.low (Cu.size C3.out));rw[show w3.alloc (.cells (Po.cells ⟨4,(t:Int),[]⟩).toArray 97)=w4 from hw.symm];clear Kbox_3 E3 ho hb hw;refine(unD (8) _ O_h_4.out (by first|omega|(simp;done)|(simp;omega)) (by first|omega|(simp;done)|(simp;omega))).mono ?_;rintro e' w5 ⟨vx,rfl,ho,hb⟩;have O_h_5:=Hm (OwnO.below O_h_4.out hb);have Kbox_5:=Hm (ze Kbox_4.out hb);have E5:=Hm (zp.below E4.out hb);have C5:=Hm (Cu.below C4.out hb);have O_x_5:=Hm (ho.low (Cu.size C4.out));obtain⟨ax,nx,cx,rfl⟩:∃a n c,vx=.slice a n c:=by obtain⟨a,c,e,-⟩:=zj ho;exact⟨_,_,_,e⟩
  clear O_h_4 Kbox_4 E4 ho hb;go_wp2_with (refine zv rfl 75 97 _ rfl i0 _ Tryd.underlying75 hi hz0 3 hz1 (Po.cells ⟨5,(t:Int),[]⟩) rfl (yK _ _ _) (by decide) (by decide) ?_);obtain⟨w6,hw⟩:∃W,W=w5.alloc (.cells (Po.cells ⟨5,(t:Int),[]⟩).toArray 97):=⟨_,rfl⟩;have hb:Below w5.heap.size w5 w6:=by rw[hw];exact zf (Below.refl _ _) _
  have ho:OwnO w5.heap.size w6 (.slice (some ⟨w5.heap.size,0,none⟩) 1 1) [⟨5,(t:Int),[]⟩]:=by rw[hw];exact xY _ ⟨5,(t:Int),[]⟩
  have O_x_6:=Hm (OwnO.below O_x_5.out hb);have Kbox_6:=Hm (ze Kbox_5.out hb);have E6:=Hm (zp.below E5.out hb);have C6:=Hm (Cu.below C5.out hb);have O_y_6:=Hm (ho.low (Cu.size C5.out));rw[show w5.alloc (.cells (Po.cells ⟨5,(t:Int),[]⟩).toArray 97)=w6 from hw.symm];clear O_x_5 Kbox_5 E5 ho hb hw;refine(Zv (7) _ O_x_6.out O_y_6.out (by first|omega|(simp;done)|(simp;omega)) (by first|omega|(simp;done)|(simp;omega)) (by first|omega|(simp;done)|(simp;omega)) (by first|omega|(simp;done)|(simp;omega))).mono ?_;rintro e' w7 ⟨vz,rfl,ho,hb⟩;have O_x_7:=Hm (OwnO.below O_x_6.out hb);have O_y_7:=Hm (OwnO.below O_y_6.out hb);have Kbox_7:=Hm (ze Kbox_6.out hb);have E7:=Hm (zp.below E6.out hb);have C7:=Hm (Cu.below C6.out hb);have O_z_7:=Hm (ho.low (Cu.size C6.out))
  obtain⟨az,nz,cz,rfl⟩:∃a n c,vz=.slice a n c:=by obtain⟨a,c,e,-⟩:=zj ho;exact⟨_,_,_,e⟩
  clear O_x_6 O_y_6 Kbox_6 E6 ho hb;go_wp2;go_ret;refine RO.mk' (v:=.slice az nz cz) (L:=[⟨4,(t:Int),[]⟩]++[⟨8,0,[]⟩]++[⟨5,(t:Int),[]⟩]++[⟨9,7,[]⟩]) (s':=s3) ?_ O_z_7.out C7.out (by first|omega|(simp;done)|(simp;omega)) (by first|omega|(simp;done)|(simp;omega));rw[←hm.out];simp[Zp,Qk.out,Qt.out]
 have kk5:((k:Int)==5)=false:=by simp;omega
 by_cases k6:k=6
 ·subst k6
  go_wp2_with (refine zv rfl 75 97 _ rfl i0 _ Tryd.underlying75 hi hz0 3 hz1 (Po.cells ⟨4,(t:Int),[]⟩) rfl (yK _ _ _) (by decide) (by decide) ?_);obtain⟨w4,hw⟩:∃W,W=w3.alloc (.cells (Po.cells ⟨4,(t:Int),[]⟩).toArray 97):=⟨_,rfl⟩;have hb:Below w3.heap.size w3 w4:=by rw[hw];exact zf (Below.refl _ _) _
  have ho:OwnO w3.heap.size w4 (.slice (some ⟨w3.heap.size,0,none⟩) 1 1) [⟨4,(t:Int),[]⟩]:=by rw[hw];exact xY _ ⟨4,(t:Int),[]⟩
  have Kbox_4:=Hm (ze Kbox_3.out hb);have E4:=Hm (zp.below E3.out hb);have C4:=Hm (Cu.below C3.out hb);have O_h_4:=Hm (ho.low (Cu.size C3.out));rw[show w3.alloc (.cells (Po.cells ⟨4,(t:Int),[]⟩).toArray 97)=w4 from hw.symm];clear Kbox_3 E3 ho hb hw;refine(yz (10) _).mono ?_;rintro e' w5 ⟨vx,rfl,ho,hb⟩;have Kbox_5:=Hm (ze Kbox_4.out hb);have E5:=Hm (zp.below E4.out hb);have C5:=Hm (Cu.below C4.out hb);have O_x_5:=Hm (ho.low (Cu.size C4.out));obtain⟨ax,nx,cx,rfl⟩:∃a n c,vx=.slice a n c:=by obtain⟨a,c,e,-⟩:=zj ho;exact⟨_,_,_,e⟩
  clear Kbox_4 E4 ho hb;go_wp2_with fail;refine(zQ C5.out 8 (by omega) (by omega)).mono ?_;rintro e' w6 ⟨u,s6,hx,lu,rfl,hc,hgb⟩;have C6:=Hm hc;have Qu:=Hm hx;have O_x_6:=Hm (Cu.own C5.out O_x_5.out hgb);have Kbox_6:=Hm (Cu.blk C5.out (by omega) Kbox_5.out hgb);have E6:=Hm (zp.cur E5.out C5.out hgb);clear O_x_5 Kbox_5 E5 hx hc hgb;have ew:IntKind.i64.wrap (4+(u:Int))=4+(u:Int):=by rw[IntKind.wrap_i64];omega
  go_wp2_with fail;refine(Yw (4+(u:Int)) _).mono ?_;rintro e' w7 ⟨vy,rfl,ho,hb⟩;have O_x_7:=Hm (OwnO.below O_x_6.out hb);have Kbox_7:=Hm (ze Kbox_6.out hb);have E7:=Hm (zp.below E6.out hb);have C7:=Hm (Cu.below C6.out hb);have O_y_7:=Hm (ho.low (Cu.size C6.out));obtain⟨ay,ny,cy,rfl⟩:∃a n c,vy=.slice a n c:=by obtain⟨a,c,e,-⟩:=zj ho;exact⟨_,_,_,e⟩
  clear O_x_6 Kbox_6 E6 ho hb;go_wp2_with fail;refine(Zv (4) _ O_x_7.out O_y_7.out (by first|omega|(simp;done)|(simp;omega)) (by first|omega|(simp;done)|(simp;omega)) (by first|omega|(simp;done)|(simp;omega)) (by first|omega|(simp;done)|(simp;omega))).mono ?_;rintro e' w8 ⟨vz,rfl,ho,hb⟩;have O_x_8:=Hm (OwnO.below O_x_7.out hb);have O_y_8:=Hm (OwnO.below O_y_7.out hb);have Kbox_8:=Hm (ze Kbox_7.out hb);have E8:=Hm (zp.below E7.out hb);have C8:=Hm (Cu.below C7.out hb);have O_z_8:=Hm (ho.low (Cu.size C7.out));obtain⟨az,nz,cz,rfl⟩:∃a n c,vz=.slice a n c:=by obtain⟨a,c,e,-⟩:=zj ho;exact⟨_,_,_,e⟩
  clear O_x_7 O_y_7 Kbox_7 E7 ho hb;go_wp2;go_ret;refine RO.mk' (v:=.slice az nz cz) (L:=[⟨3,10,[]⟩]++[⟨1,4+(u:Int),[]⟩]++[⟨9,4,[]⟩]) (s':=s6) ?_ O_z_8.out C8.out (by first|omega|(simp;done)|(simp;omega)) (by first|omega|(simp;done)|(simp;omega));rw[←hm.out];simp[Zp,Qk.out,Qt.out,Qu.out]
 have kk6:((k:Int)==6)=false:=by simp;omega
 have y0:=cl0 Kbox_3.out;have y1:=cl1 Kbox_3.out;have y0':=(za (ze Kbox_3.out (zf (Below.refl _ _) (.cells (Po.cells ⟨4,(t:Int),[]⟩).toArray 97))) 0).trans (show _=some (.slice pa n ca)from rfl);have y1':=(za (ze Kbox_3.out (zf (Below.refl _ _) (.cells (Po.cells ⟨4,(t:Int),[]⟩).toArray 97))) 1).trans (show _=some (.slice pb n cb)from rfl);go_wp2_with (refine zv rfl 75 97 _ rfl i0 _ Tryd.underlying75 hi hz0 3 hz1 (Po.cells ⟨4,(t:Int),[]⟩) rfl (yK _ _ _) (by decide) (by decide) ?_);clear y0 y1 y0' y1';obtain⟨w4,hw⟩:∃W,W=w3.alloc (.cells (Po.cells ⟨4,(t:Int),[]⟩).toArray 97):=⟨_,rfl⟩;have hb:Below w3.heap.size w3 w4:=by rw[hw];exact zf (Below.refl _ _) _
 have ho:OwnO w3.heap.size w4 (.slice (some ⟨w3.heap.size,0,none⟩) 1 1) [⟨4,(t:Int),[]⟩]:=by rw[hw];exact xY _ ⟨4,(t:Int),[]⟩
 have Kbox_4:=Hm (ze Kbox_3.out hb);have E4:=Hm (zp.below E3.out hb);have C4:=Hm (Cu.below C3.out hb);have O_h_4:=Hm (ho.low (Cu.size C3.out));rw[show w3.alloc (.cells (Po.cells ⟨4,(t:Int),[]⟩).toArray 97)=w4 from hw.symm];clear Kbox_3 E3 ho hb hw;obtain⟨L,s5,hx⟩:=two (y7 D ev 2 s3 2);have hcl:=Xc hn1 2 (by omega) s3 2 _ (by omega) (Cu.self C4.out) E4.out;rw[hx]at hcl;refine hcl.mono ?_;rintro e' w5 ⟨vx,rfl,ho,hc,hpx,hqx⟩;have hgb:=hc.gb;have C5:=Hm (Cu.in' C4.out hc);have QL:=Hm hx;have Kbox_5:=Hm (Cu.blk C4.out (by omega) Kbox_4.out hgb);have E5:=Hm (zp.cur E4.out C4.out hgb);have O_x_5:=Hm (ho.low (Cu.size C4.out));obtain⟨ax,nx,cx,rfl⟩:∃a n c,vx=.slice a n c:=by obtain⟨a,c,e,-⟩:=zj ho;exact⟨_,_,_,e⟩
 dsimp only at hpx hqx;clear Kbox_4 E4 hx hcl ho hc hgb;go_wp2_with fail;refine(yz (1) _).mono ?_;rintro e' w6 ⟨vy,rfl,ho,hb⟩;have O_x_6:=Hm (OwnO.below O_x_5.out hb);have Kbox_6:=Hm (ze Kbox_5.out hb);have E6:=Hm (zp.below E5.out hb);have C6:=Hm (Cu.below C5.out hb);have O_y_6:=Hm (ho.low (Cu.size C5.out));obtain⟨ay,ny,cy,rfl⟩:∃a n c,vy=.slice a n c:=by obtain⟨a,c,e,-⟩:=zj ho;exact⟨_,_,_,e⟩
 clear O_x_5 Kbox_5 E5 ho hb;go_wp2_with fail;refine(zQ C6.out 20 (by omega) (by omega)).mono ?_;rintro e' w7 ⟨u,s7,hx,lu,rfl,hc,hgb⟩;have C7:=Hm hc;have Qu:=Hm hx;have O_x_7:=Hm (Cu.own C6.out O_x_6.out hgb);have O_y_7:=Hm (Cu.own C6.out O_y_6.out hgb);have Kbox_7:=Hm (Cu.blk C6.out (by omega) Kbox_6.out hgb);have E7:=Hm (zp.cur E6.out C6.out hgb);clear O_x_6 O_y_6 Kbox_6 E6 hx hc hgb;have ew:IntKind.i64.wrap (18+(u:Int))=18+(u:Int):=by rw[IntKind.wrap_i64];omega
 go_wp2_with fail;refine(Yw (18+(u:Int)) _).mono ?_;rintro e' w8 ⟨vz,rfl,ho,hb⟩;have O_x_8:=Hm (OwnO.below O_x_7.out hb);have O_y_8:=Hm (OwnO.below O_y_7.out hb);have Kbox_8:=Hm (ze Kbox_7.out hb);have E8:=Hm (zp.below E7.out hb);have C8:=Hm (Cu.below C7.out hb);have O_z_8:=Hm (ho.low (Cu.size C7.out));obtain⟨az,nz,cz,rfl⟩:∃a n c,vz=.slice a n c:=by obtain⟨a,c,e,-⟩:=zj ho;exact⟨_,_,_,e⟩
 clear O_x_7 O_y_7 Kbox_7 E7 ho hb;go_wp2_with fail;refine(Zv (4) _ O_y_8.out O_z_8.out (by first|omega|(simp;done)|(simp;omega)) (by first|omega|(simp;done)|(simp;omega)) (by first|omega|(simp;done)|(simp;omega)) (by first|omega|(simp;done)|(simp;omega))).mono ?_;rintro e' w9 ⟨vq,rfl,ho,hb⟩;have O_x_9:=Hm (OwnO.below O_x_8.out hb);have O_y_9:=Hm (OwnO.below O_y_8.out hb);have O_z_9:=Hm (OwnO.below O_z_8.out hb);have Kbox_9:=Hm (ze Kbox_8.out hb);have E9:=Hm (zp.below E8.out hb);have C9:=Hm (Cu.below C8.out hb);have O_q_9:=Hm (ho.low (Cu.size C8.out));obtain⟨aq,nq,cq,rfl⟩:∃a n c,vq=.slice a n c:=by obtain⟨a,c,e,-⟩:=zj ho;exact⟨_,_,_,e⟩
 clear O_x_8 O_y_8 O_z_8 Kbox_8 E8 ho hb;go_wp2_with fail;refine(Zv (7) _ O_x_9.out O_q_9.out (by first|omega|(simp;done)|(simp;omega)) (by first|omega|(simp;done)|(simp;omega)) (by first|omega|(simp;done)|(simp;omega)) (by first|omega|(simp;done)|(simp;omega))).mono ?_;rintro e' w10 ⟨vr,rfl,ho,hb⟩;have O_x_10:=Hm (OwnO.below O_x_9.out hb);have O_q_10:=Hm (OwnO.below O_q_9.out hb);have Kbox_10:=Hm (ze Kbox_9.out hb);have E10:=Hm (zp.below E9.out hb);have C10:=Hm (Cu.below C9.out hb);have O_r_10:=Hm (ho.low (Cu.size C9.out));obtain⟨ar,nr,cr,rfl⟩:∃a n c,vr=.slice a n c:=by obtain⟨a,c,e,-⟩:=zj ho;exact⟨_,_,_,e⟩
 clear O_x_9 O_q_9 Kbox_9 E9 ho hb;go_wp2;go_ret;refine RO.mk' (v:=.slice ar nr cr) (L:=L++([⟨3,1,[]⟩]++[⟨1,18+(u:Int),[]⟩]++[⟨9,4,[]⟩])++[⟨9,7,[]⟩]) (s':=s7) ?_ O_r_10.out C10.out (by first|omega|(simp;done)|(simp;omega)) (by first|omega|(simp;done)|(simp;omega));rw[←hm.out];simp[Zp,Qk.out,Qt.out,QL.out,Qu.out,h3,h5,k5,k6]
theorem intD {C:Nat} {a b:Value} {ev:Ev} (C0:Cu B g w w bs D s) (hE:zp C w a b ev) (hn1:ev.length≤100):Calls Tryd.prog 81 #[.pointer (some ⟨g,0,none⟩),.agg #[a,b]] w (RO B g w bs D (YL D ev s) 16):=by
 obtain⟨i0,hi,hz0,hz1,hz2⟩:=info_parts yF;obtain⟨pa,ca,rfl,-⟩:=zj hE.n;obtain⟨pb,cb,rfl,-⟩:=zj hE.t;obtain⟨n,hn⟩:∃n,n=ev.length:=⟨_,rfl⟩;obtain⟨m,hm⟩:∃m,Hid (YL D ev s=m):=⟨_,Hm rfl⟩;rw[hm.out];rw[←hn]at hE ⊢;clear hn;obtain⟨w1,hW1⟩:∃W,W=w.alloc (.cells #[.slice pa n ca,.slice pb n cb] 102):=⟨_,rfl⟩;have C1:Hid (Cu B g w w1 bs D s):=by rw[hW1];exact C0.al _
 have E1:Hid (zp C w1 (.slice pa n ca) (.slice pb n cb) ev):=by rw[hW1];exact hE.below (zf (Below.refl _ _) _)
 have Kbox_1:Hid (w1.heap[w.heap.size]? =some (.cells #[.slice pa n ca,.slice pb n cb] 102)):=by rw[hW1];exact zi _ _
 clear C0 hE;go_enter Tryd.func81,Tryd.ntmps81;go_wp2_with fail;rw[←hW1];clear hW1;refine(zQ C1.out 5 (by omega) (by omega)).mono ?_;rintro e' w2 ⟨k,s2,hx,lk,rfl,hc,hgb⟩;have C2:=Hm hc;have Qk:=Hm hx;have Kbox_2:=Hm (Cu.blk C1.out (by omega) Kbox_1.out hgb);have E2:=Hm (zp.cur E1.out C1.out hgb);clear Kbox_1 E1 hx hc hgb;by_cases k0:k=0
 ·subst k0
  go_wp2_with fail;refine(yz (2) _).mono ?_;rintro e' w3 ⟨vx,rfl,ho,hb⟩;have Kbox_3:=Hm (ze Kbox_2.out hb);have E3:=Hm (zp.below E2.out hb);have C3:=Hm (Cu.below C2.out hb);have O_x_3:=Hm (ho.low (Cu.size C2.out));obtain⟨ax,nx,cx,rfl⟩:∃a n c,vx=.slice a n c:=by obtain⟨a,c,e,-⟩:=zj ho;exact⟨_,_,_,e⟩
  clear Kbox_2 E2 ho hb;go_wp2;go_ret;refine RO.mk' (v:=.slice ax nx cx) (L:=[⟨3,2,[]⟩]) (s':=s2) ?_ O_x_3.out C3.out (by first|omega|(simp;done)|(simp;omega)) (by first|omega|(simp;done)|(simp;omega));rw[←hm.out];simp[YL,Qk.out]
 have kk0:((k:Int)==0)=false:=by simp;omega
 by_cases k1:k=1
 ·subst k1
  go_wp2_with fail;refine(zQ C2.out 3 (by omega) (by omega)).mono ?_;rintro e' w3 ⟨u,s3,hx,lu,rfl,hc,hgb⟩;have C3:=Hm hc;have Qu:=Hm hx;have Kbox_3:=Hm (Cu.blk C2.out (by omega) Kbox_2.out hgb);have E3:=Hm (zp.cur E2.out C2.out hgb);clear Kbox_2 E2 hx hc hgb;go_wp2_with (refine zv rfl 75 97 _ rfl i0 _ Tryd.underlying75 hi hz0 3 hz1 (Po.cells ⟨4,(u:Int),[]⟩) rfl (yK _ _ _) (by decide) (by decide) ?_);obtain⟨w4,hw⟩:∃W,W=w3.alloc (.cells (Po.cells ⟨4,(u:Int),[]⟩).toArray 97):=⟨_,rfl⟩;have hb:Below w3.heap.size w3 w4:=by rw[hw];exact zf (Below.refl _ _) _
  have ho:OwnO w3.heap.size w4 (.slice (some ⟨w3.heap.size,0,none⟩) 1 1) [⟨4,(u:Int),[]⟩]:=by rw[hw];exact xY _ ⟨4,(u:Int),[]⟩
  have Kbox_4:=Hm (ze Kbox_3.out hb);have E4:=Hm (zp.below E3.out hb);have C4:=Hm (Cu.below C3.out hb);have O_x_4:=Hm (ho.low (Cu.size C3.out));rw[show w3.alloc (.cells (Po.cells ⟨4,(u:Int),[]⟩).toArray 97)=w4 from hw.symm];clear Kbox_3 E3 ho hb hw;refine(yz (5) _).mono ?_;rintro e' w5 ⟨vy,rfl,ho,hb⟩;have O_x_5:=Hm (OwnO.below O_x_4.out hb);have Kbox_5:=Hm (ze Kbox_4.out hb);have E5:=Hm (zp.below E4.out hb);have C5:=Hm (Cu.below C4.out hb);have O_y_5:=Hm (ho.low (Cu.size C4.out));obtain⟨ay,ny,cy,rfl⟩:∃a n c,vy=.slice a n c:=by obtain⟨a,c,e,-⟩:=zj ho;exact⟨_,_,_,e⟩
  clear O_x_4 Kbox_4 E4 ho hb;go_wp2_with fail;refine(Yw (0) _).mono ?_;rintro e' w6 ⟨vz,rfl,ho,hb⟩;have O_x_6:=Hm (OwnO.below O_x_5.out hb);have O_y_6:=Hm (OwnO.below O_y_5.out hb);have Kbox_6:=Hm (ze Kbox_5.out hb);have E6:=Hm (zp.below E5.out hb);have C6:=Hm (Cu.below C5.out hb);have O_z_6:=Hm (ho.low (Cu.size C5.out));obtain⟨az,nz,cz,rfl⟩:∃a n c,vz=.slice a n c:=by obtain⟨a,c,e,-⟩:=zj ho;exact⟨_,_,_,e⟩
  clear O_x_5 O_y_5 Kbox_5 E5 ho hb;go_wp2_with fail;refine(ifD _ O_x_6.out O_y_6.out O_z_6.out (by first|omega|(simp;done)|(simp;omega)) (by first|omega|(simp;done)|(simp;omega)) (by first|omega|(simp;done)|(simp;omega)) (by first|omega|(simp;done)|(simp;omega)) (by first|omega|(simp;done)|(simp;omega)) (by first|omega|(simp;done)|(simp;omega))).mono ?_;rintro e' w7 ⟨vq,rfl,ho,hb⟩;have O_x_7:=Hm (OwnO.below O_x_6.out hb);have O_y_7:=Hm (OwnO.below O_y_6.out hb);have O_z_7:=Hm (OwnO.below O_z_6.out hb);have Kbox_7:=Hm (ze Kbox_6.out hb);have E7:=Hm (zp.below E6.out hb);have C7:=Hm (Cu.below C6.out hb);have O_q_7:=Hm (ho.low (Cu.size C6.out));obtain⟨aq,nq,cq,rfl⟩:∃a n c,vq=.slice a n c:=by obtain⟨a,c,e,-⟩:=zj ho;exact⟨_,_,_,e⟩
  clear O_x_6 O_y_6 O_z_6 Kbox_6 E6 ho hb;go_wp2;go_ret;refine RO.mk' (v:=.slice aq nq cq) (L:=[⟨4,(u:Int),[]⟩]++[⟨3,5,[]⟩]++[⟨1,0,[]⟩]++[⟨10,2,[]⟩]) (s':=s3) ?_ O_q_7.out C7.out (by first|omega|(simp;done)|(simp;omega)) (by first|omega|(simp;done)|(simp;omega));rw[←hm.out];simp[YL,Qk.out,Qu.out]
 have kk1:((k:Int)==1)=false:=by simp;omega
 by_cases k2:k=2
 ·subst k2
  go_wp2_with fail;refine(yz (1) _).mono ?_;rintro e' w3 ⟨vx,rfl,ho,hb⟩;have Kbox_3:=Hm (ze Kbox_2.out hb);have E3:=Hm (zp.below E2.out hb);have C3:=Hm (Cu.below C2.out hb);have O_x_3:=Hm (ho.low (Cu.size C2.out));obtain⟨ax,nx,cx,rfl⟩:∃a n c,vx=.slice a n c:=by obtain⟨a,c,e,-⟩:=zj ho;exact⟨_,_,_,e⟩
  clear Kbox_2 E2 ho hb;go_wp2;go_ret;refine RO.mk' (v:=.slice ax nx cx) (L:=[⟨3,1,[]⟩]) (s':=s2) ?_ O_x_3.out C3.out (by first|omega|(simp;done)|(simp;omega)) (by first|omega|(simp;done)|(simp;omega));rw[←hm.out];simp[YL,Qk.out]
 have kk2:((k:Int)==2)=false:=by simp;omega
 by_cases k3:k=3
 ·subst k3
  go_wp2_with fail;refine(yz (0) _).mono ?_;rintro e' w3 ⟨vx,rfl,ho,hb⟩;have Kbox_3:=Hm (ze Kbox_2.out hb);have E3:=Hm (zp.below E2.out hb);have C3:=Hm (Cu.below C2.out hb);have O_x_3:=Hm (ho.low (Cu.size C2.out));obtain⟨ax,nx,cx,rfl⟩:∃a n c,vx=.slice a n c:=by obtain⟨a,c,e,-⟩:=zj ho;exact⟨_,_,_,e⟩
  clear Kbox_2 E2 ho hb;go_wp2;go_ret;refine RO.mk' (v:=.slice ax nx cx) (L:=[⟨3,0,[]⟩]) (s':=s2) ?_ O_x_3.out C3.out (by first|omega|(simp;done)|(simp;omega)) (by first|omega|(simp;done)|(simp;omega));rw[←hm.out];simp[YL,Qk.out]
 have kk3:((k:Int)==3)=false:=by simp;omega
 have y0:=cl0 Kbox_2.out;have y1:=cl1 Kbox_2.out;go_wp2_with fail;clear y0 y1;obtain⟨L,s3,hx⟩:=two (y7 D ev 2 s2 1);have hcl:=Xc hn1 2 (by omega) s2 1 _ (by omega) (Cu.self C2.out) E2.out;rw[hx]at hcl;refine hcl.mono ?_;rintro e' w3 ⟨vx,rfl,ho,hc,hpx,hqx⟩;have hgb:=hc.gb;have C3:=Hm (Cu.in' C2.out hc);have QL:=Hm hx;have Kbox_3:=Hm (Cu.blk C2.out (by omega) Kbox_2.out hgb);have E3:=Hm (zp.cur E2.out C2.out hgb);have O_x_3:=Hm (ho.low (Cu.size C2.out));obtain⟨ax,nx,cx,rfl⟩:∃a n c,vx=.slice a n c:=by obtain⟨a,c,e,-⟩:=zj ho;exact⟨_,_,_,e⟩
 dsimp only at hpx hqx;clear Kbox_2 E2 hx hcl ho hc hgb;go_wp2;go_ret;refine RO.mk' (v:=.slice ax nx cx) (L:=L) (s':=s3) ?_ O_x_3.out C3.out (by first|omega|(simp;done)|(simp;omega)) (by first|omega|(simp;done)|(simp;omega));rw[←hm.out];simp[YL,Qk.out,QL.out,k0,k1,k2,k3]
def Xd (k:Nat):List UInt8:=if k=0 then [97]else if k=1 then [108,97,116,101,95,50]else if k=2 then [120]else if k=3 then [97,98,99,100,101,102,103,104,105,106,107,108,109,110,111,112]else if k=4 then [116,105,109,101,100]else [118,57]
theorem nameD (k:Nat) (w:World):Calls Tryd.prog 66 #[.int .i64 (k:Int)] w fun e w'=>e=.returned (.string ⟨(Xd k).toArray⟩)∧w'=w:=by
 by_cases k0:k=0
 ·subst k0
  go_enter Tryd.func66,Tryd.ntmps66;go_wp2;go_ret;exact⟨rfl,rfl⟩
 have kk0:((k:Int)==0)=false:=by simp;omega
 by_cases k1:k=1
 ·subst k1
  go_enter Tryd.func66,Tryd.ntmps66;go_wp2;go_ret;exact⟨rfl,rfl⟩
 have kk1:((k:Int)==1)=false:=by simp;omega
 by_cases k2:k=2
 ·subst k2
  go_enter Tryd.func66,Tryd.ntmps66;go_wp2;go_ret;exact⟨rfl,rfl⟩
 have kk2:((k:Int)==2)=false:=by simp;omega
 by_cases k3:k=3
 ·subst k3
  go_enter Tryd.func66,Tryd.ntmps66;go_wp2;go_ret;exact⟨rfl,rfl⟩
 have kk3:((k:Int)==3)=false:=by simp;omega
 by_cases k4:k=4
 ·subst k4
  go_enter Tryd.func66,Tryd.ntmps66;go_wp2;go_ret;exact⟨rfl,rfl⟩
 have kk4:((k:Int)==4)=false:=by simp;omega
 have hv:Xd k=[118,57]:=by simp[Xd,k0,k1,k2,k3,k4]
 go_enter Tryd.func66,Tryd.ntmps66;go_wp2;go_ret;rw[hv];exact⟨rfl,rfl⟩
end Go.Proofs.YtbdldkpifanaiaaDoor.Dq
