import Derived.Test.YtbkajklninmhiaaGreatDoorPm24
set_option maxHeartbeats 6400000
set_option maxRecDepth 1000000
set_option linter.unusedVariables false
set_option linter.unusedSimpArgs false
open List renaming setIfInBounds_toArray → qa, set_cons_zero → qb, set_cons_succ → qc, getElem_cons_succ → qd, getElem_cons_zero → qe, getElem_toArray → qf, length_append → qg
open Nat renaming le_trans → qq
namespace Go.Proofs.YtbkajklninmhiaaGreatDoor.Dq
open Go Go.RowKit Mem Syn Parse Par Draw
attribute [local go_sem ↓] Go.wp_at_zero Go.wp_at_succ
variable {B g:Nat} {w0 w w':World} {bs:List UInt8} {D:Sr} {s s':DS}
variable {iv:Value} {X:List Xi}
theorem PgO.it {B' r i:Nat} {v:Value} (h:PgO B' w iv X) (hne:iv.ownBlock≠some r) (hr:Blk w r 38):PgO B' (w.setCell ⟨r,i,none⟩ v) iv X:=by
 obtain⟨C,fr,hr⟩:=hr;refine⟨⟨h.row.1,?_⟩,fun x hx=>(h.e x hx).far hr (by decide),fun x hx=>(h.f x hx).far hr (by decide),h.ee,h.ef,h.ff,h.le⟩;rcases h.row.2 with h0|⟨x,cap,cur,h1,h2,h3,h4⟩
 ·exact Or.inl h0
 ·exact Or.inr ⟨x,cap,cur,h1,h2,zt h3 (fun e=>hne (by rw[h1,e];rfl)) v,h4⟩
theorem xW {B' r i:Nat} {v u:Value} {L:List Po} (h:OwnO B' w u L) (hne:u.ownBlock≠some r):OwnO B' (w.setCell ⟨r,i,none⟩ v) u L:=by
 refine⟨h.1,?_⟩;rcases h.2 with h0|⟨x,cap,cur,h1,h2,h3,h4⟩
 ·exact Or.inl h0
 ·exact Or.inr ⟨x,cap,cur,h1,h2,zt h3 (fun e=>hne (by rw[h1,e];rfl)) v,h4⟩
theorem PgO.opb {B' r i:Nat} {v:Value} (h:PgO B' w iv X) (hr:Blk w r 88) (hne:∀x∈X,x.e.ownBlock≠some r∧x.f.ownBlock≠some r):PgO B' (w.setCell ⟨r,i,none⟩ v) iv X:=by
 obtain⟨C,fr,hr⟩:=hr;exact⟨zW h.row hr (by decide),fun x hx=>xW (h.e x hx) (hne x hx).1,fun x hx=>xW (h.f x hx) (hne x hx).2,h.ee,h.ef,h.ff,h.le⟩
theorem _root_.Go.Proofs.YtbkajklninmhiaaGreatDoor.Par.OwnO.take {B' i b n c:Nat} {L:List Po} (h:OwnO B' w (.slice (some ⟨b,0,none⟩) n c) L) (hi:i≤L.length):OwnO B' w (.slice (some ⟨b,0,none⟩) i c) (L.take i):=by
 obtain⟨a',c',e,-⟩:=zh h;injection e with _ hn _;rcases h.2 with⟨e,-⟩|⟨g,cap,cur,e,h2,h3,h4,h5,h6,h7⟩
 ·cases e
 ·injection e with e1 e2 e3
  injection e1 with e1;injection e1 with e1;subst e1 e3;have hl:(L.take i).length=i:=by rw[List.length_take];omega
  have hc:zH (L.take i)=(zH L).take (i*3):=by
   have:=yo (L.take i);rw[hl]at this;have e:zH L=zH (L.take i)++zH (L.drop i):=by unfold zH;rw[←List.flatMap_append,List.take_append_drop]
   rw[e,←this,List.take_left]
  refine⟨by rw[yo,hl],Or.inr ⟨b,c,cur,by rw[hl],h2,h3,by omega,h5,h6,?_⟩⟩;rw[hl,hc,←h7,List.take_take]
  congr 1
  omega
def Old (w W:World):Prop:=∀r C fr,r<w.heap.size→w.heap[r]? =some (.cells C 25 fr)→W.heap[r]? =some (.cells C 25 fr)
theorem Old.refl (w:World):Old w w:=fun _ _ _ _ h=>h
theorem Old.below {W W':World} (h:Old w W) (hb:Below W.heap.size W W'):Old w W':=fun r C fr hr hx=>zg (h r C fr hr hx) hb
theorem Old.cur {W W':World} (h:Old w W) (c:Cu B g w0 W bs D s) (hg:W.grownBy W' (some g)):Old w W':=fun r C fr hr hx=>by
 have h1:=h r C fr hr hx;obtain⟨-,-,u,hd,-⟩:=c.d;rw[hg.block r (zN h1) (fun e=>by injection e with e;subst e;rw[h1]at hd;injection hd with hd;injection hd with _ hd _;exact absurd hd (by decide))];exact h1
theorem Old.oth {W:World} {b i:Nat} {T:TypeId} {v:Value} (h:Old w W) (hb:Blk W b T) (hT:25≠T):Old w (W.setCell ⟨b,i,none⟩ v):=fun r C fr hr hx=>by
 obtain⟨C',fr',hc⟩:=hb;have h1:=h r C fr hr hx;refine zt h1 (fun e=>?_) v;subst e;rw[h1]at hc;injection hc with hc;injection hc with _ hc _;exact hT hc
theorem Old.new {W:World} {b i:Nat} {v:Value} (h:Old w W) (hb:w.heap.size≤b):Old w (W.setCell ⟨b,i,none⟩ v):=fun r C fr hr hx=>zt (h r C fr hr hx) (show r≠b by omega) v
theorem Old.app {W W':World} {C T:TypeId} {z n:Nat} {u:Value} {xs:List Value} (h:Old w W) (hrow:W.ownsRow C T z u n xs) (hT:25≠T) (hg:W.grownBy W' u.ownBlock):Old w W':=fun r C fr hr hx=>zz hg hrow (h r C fr hr hx) hT
def TH (D:Sr) (o:Po) (k:Nat) (s:DS):Po×DS:=
 if k=7 then (⟨o.k,wrap64 (o.v+16),o.n⟩,s)
 else if k=8 then (⟨o.k,o.v,[112,111,115]⟩,s)
 else if k=9 then
  match D.bel s 12 with
  |(x,s')=>(⟨(x:Int),o.v,o.n⟩,s')
 else (⟨o.k,-1,o.n⟩,s)
def yP (D:Sr) (it:Im) (k:Nat) (s:DS):Im×DS:=
 if k=0 then (⟨10,it.n,it.E,it.F,it.K,it.lo,it.hi⟩,s)
 else if k=1 then (⟨it.k,[101,97,99,104],it.E,it.F,it.K,it.lo,it.hi⟩,s)
 else if k=2 then (⟨it.k,it.n,it.E,it.F,wrap64 (wrap64 (it.K-999999999) -1),it.lo,it.hi⟩,s)
 else if k=3 then (⟨it.k,it.n,it.E,it.F,it.K,it.lo,wrap64 (it.hi+1)⟩,s)
 else if k=4 then (⟨it.k,it.n,it.E,it.F++[⟨8,0,[]⟩],it.K,it.lo,it.hi⟩,s)
 else if k=5 then (⟨it.k,[65,98,99],it.E,it.F,it.K,it.lo,it.hi⟩,s)
 else if k=6 then (⟨it.k,it.n,it.E++[⟨1,5,[]⟩],it.F,it.K,it.lo,it.hi⟩,s)
 else if it.E.length=0 then (it,s)
 else match D.bel s it.E.length with
  |(i,s1)=>
   if k=11 then (⟨it.k,it.n,it.E.take i,it.F,it.K,it.lo,it.hi⟩,s1)
   else match TH D (it.E.getD i ⟨0,0,[]⟩) k s1 with
    |(o,s2)=>(⟨it.k,it.n,it.E.set i o,it.F,it.K,it.lo,it.hi⟩,s2)
def imZ:Im:=⟨0,[],[],[],0,0,0⟩
def ZQ (D:Sr) (L:List Im) (s:DS):List Im×DS:=
 if L.length=0 then (L,s)
 else match D.bel s L.length with
  |(j,s1)=>match D.bel s1 12 with
   |(k,s2)=>match yP D (L.getD j imZ) k s2 with
    |(it,s3)=>(L.set j it,s3)
def RQ' (B g:Nat) (w0 w:World) (bs:List UInt8) (D:Sr) (r:List Im×DS) (e:Ending) (w':World):Prop:=∃iv X,e=.returned (.agg #[iv])∧X.map Xi.im=r.1∧PgR w0.heap.size w' iv X∧Cu B g w0 w' bs D r.2∧Old w w'
structure Sz (B g:Nat) (w0 w W:World) (bs:List UInt8) (D:Sr) (s:DS) (iv:Value) (X:List Xi) (gi:Nat) (x:Xi):Prop where
 c:Cu B g w0 W bs D s
 p:PgO w0.heap.size W iv X
 lo:w.heap.size+2≤gi
 l0:w0.heap.size≤w.heap.size
 ni:iv.ownBlock≠some gi
 box:W.heap[w.heap.size]? =some (.cells #[iv] 25)
 res:W.heap[w.heap.size+1]? =some (.cells #[.slice none 0 0] 25)
 it:W.heap[gi]? =some (.cells (itA x.im x.e x.f) 38)
 e:OwnO w0.heap.size W x.e x.im.E
 f:OwnO w0.heap.size W x.f x.im.F
 le:x.im.E.length≤3010∧x.im.F.length≤3010
 od:Old w W
noncomputable def t0:Code:=Tryz.f33.body.getD .skip
noncomputable def t5:Code:=sR (sR (sR (sR (sR t0))))
noncomputable def t13:Code:=sR (sR (sR (sR (sR (sR (sR (sR t5)))))))
def Fx (g:Nat) (w:World) (gi:Nat) (j k:Int) (v1 v2 v8 v9 v10:Value) (r:List Value):Act:={tmps:=(.pointer (some ⟨g,0,none⟩)::v1::v2::.pointer (some ⟨w.heap.size,0,none⟩)::.pointer (some ⟨w.heap.size+1,0,none⟩)::.int .i64 j::.pointer (some ⟨gi,0,none⟩)::.int .i64 k::v8::v9::v10::r).toArray,defers:=[]}
theorem spTail {W:World} {gi j n cI bI:Nat} {k:Int} {y:Xi} {m:List Im×DS} {v1 v2 v8 v9 v10:Value} {r:List Value} (hr:r.length=108) (Z:Hid (Sz B g w0 w W bs D s (.slice (some ⟨bI,0,none⟩) n cI) X gi y)) (hn:n=X.length) (hj:j<n) (hm:Hid (m=((X.map Xi.im).set j y.im,s))):
  Code.wp Tryz.prog t13 (bodyPost Tryz.prog Tryz.f33 (RQ' B g w0 w bs D m)) (Fx g w gi (j:Int) k v1 v2 v8 v9 v10 r) W:=by
 obtain⟨yi,ye,yf⟩:=y;obtain⟨aE,nE,qE,rfl⟩:∃a n c,ye=.slice a n c:=by obtain⟨a,c,e,-⟩:=zh Z.out.e;exact⟨_,_,_,e⟩
 obtain⟨aF,nF,qF,rfl⟩:∃a n c,yf=.slice a n c:=by obtain⟨a,c,e,-⟩:=zh Z.out.f;exact⟨_,_,_,e⟩
 obtain⟨y,hy⟩:∃y:Xi,y=⟨yi,.slice aE nE qE,.slice aF nF qF⟩:=⟨_,rfl⟩;have hyi:yi=y.im:=by rw[hy]
 have hye:y.e=.slice aE nE qE:=by rw[hy]
 have hyf:y.f=.slice aF nF qF:=by rw[hy]
 rw[←hy]at Z;rw[hyi]at hm;have hx:=Z.out.it;unfold itA at hx;rw[hye,hyf]at hx;obtain⟨x0,hx0⟩:∃x0,X[j]? =some x0:=⟨X[j]'(by omega),List.getElem?_eq_getElem (by omega)⟩;have HX0:=Hm hx0
 have hrow:W.ownsRow w0.heap.size 38 7 (.slice (some ⟨bI,0,none⟩) n cI) n (X.flatMap Xi.cs):=by
  have:=Z.out.p.row;rw[←hn]at this;exact this
 have x1:=cL0 hx;have x2:=cL1 hx;have x3:=cL2 hx;have x4:=cL3 hx;have x5:=cL4 hx;have x6:=cL5 hx;have x7:=cL6 hx;have r0:=zk (i:=j*7) hrow ((zm Xi.len j X x0 0 hx0 (by omega)).trans (show _=some _ from rfl));obtain⟨p0,f0⟩:=r0;have r1:=zk (i:=j*7+1) hrow ((zm Xi.len j X x0 1 hx0 (by omega)).trans (show _=some _ from rfl));obtain⟨p1,f1⟩:=r1;have r2:=zk (i:=j*7+2) hrow ((zm Xi.len j X x0 2 hx0 (by omega)).trans (show _=some _ from rfl));obtain⟨p2,f2⟩:=r2;have r3:=zk (i:=j*7+3) hrow ((zm Xi.len j X x0 3 hx0 (by omega)).trans (show _=some _ from rfl));obtain⟨p3,f3⟩:=r3;have r4:=zk (i:=j*7+4) hrow ((zm Xi.len j X x0 4 hx0 (by omega)).trans (show _=some _ from rfl));obtain⟨p4,f4⟩:=r4
 have r5:=zk (i:=j*7+5) hrow ((zm Xi.len j X x0 5 hx0 (by omega)).trans (show _=some _ from rfl));obtain⟨p5,f5⟩:=r5;have r6:=zk (i:=j*7+6) hrow ((zm Xi.len j X x0 6 hx0 (by omega)).trans (show _=some _ from rfl));obtain⟨p6,f6⟩:=r6;have b0:=(zb Z.out.box 0).trans (show _=some (.slice (some ⟨bI,0,none⟩) n cI)from rfl);have z0:=(zb Z.out.res 0).trans (show _=some (.slice none 0 0)from rfl);have g0:=zc Z.out.res 0;have j0:(0:Int)≤(j:Int):=by omega
 have jl:(j:Int)<(n:Int):=by omega
 have HR:=Hm hrow;have HN:=Hm hn;clear hrow hx hx0 hn hyi hy;revert r;refine @zp 108 _ ?_
 iterate 108 (intro _)
 show Code.wp _ _ _ _ _
 conv=>arg 2;dsimp only[t13,t5,t0,Tryz.f33,Option.getD,sR,sL,cT,cF,bk,lpo]
 conv=>arg 4;dsimp only[Fx]
 go_upto_region 37 with fail;clear x1 p0 f0 x2 p1 f1 x3 p2 f2 x4 p3 f3 x5 p4 f4 x6 p5 f5 x7 p6 f6;obtain⟨Y,hY⟩:∃Y,Y=(((((((W.setCell ⟨bI,j*7,none⟩ (.int .i64 y.im.k)).setCell ⟨bI,j*7+1,none⟩ (.string ⟨y.im.n.toArray⟩)).setCell ⟨bI,j*7+2,none⟩ (.slice aE nE qE)).setCell ⟨bI,j*7+3,none⟩ (.slice aF nF qF)).setCell ⟨bI,j*7+4,none⟩ (.int .i64 y.im.K)).setCell ⟨bI,j*7+5,none⟩ (.int .i64 y.im.lo)).setCell ⟨bI,j*7+6,none⟩ (.int .i64 y.im.hi)):=⟨_,rfl⟩;rw[←hY]
 have hB:Blk W bI 38:=by
  obtain⟨c,fz,hc⟩:=yC HR.out bI rfl;exact⟨c,fz,hc⟩
 have hbI:w0.heap.size≤bI:=(World.ownsRow.lt HR.out bI rfl).1
 have K:Hid (Cu B g w0 Y bs D s∧(∀x∈X,OwnO w0.heap.size Y x.e x.im.E∧OwnO w0.heap.size Y x.f x.im.F)∧OwnO w0.heap.size Y y.e y.im.E∧OwnO w0.heap.size Y y.f y.im.F∧Y.heap[w.heap.size]? =some (.cells #[(.slice (some ⟨bI,0,none⟩) n cI)] 25)∧Y.heap[w.heap.size+1]? =some (.cells #[.slice none 0 0] 25)∧Old w Y):=by
  rw[hY];refine XM (p:=fun Y=>Cu B g w0 Y bs D s∧(∀x∈X,OwnO w0.heap.size Y x.e x.im.E∧OwnO w0.heap.size Y x.f x.im.F)∧OwnO w0.heap.size Y y.e y.im.E∧OwnO w0.heap.size Y y.f y.im.F∧Y.heap[w.heap.size]? =some (.cells #[(.slice (some ⟨bI,0,none⟩) n cI)] 25)∧Y.heap[w.heap.size+1]? =some (.cells #[.slice none 0 0] 25)∧Old w Y) (fun U i v hU hp=>?_) hB ⟨Z.out.c,fun x hx=>⟨Z.out.p.e x hx,Z.out.p.f x hx⟩,Z.out.e,Z.out.f,Z.out.box,Z.out.res,Z.out.od⟩ _ _ _ _ _ _ _ _ _ _ _ _ _ _;obtain⟨Cc,fr,hc⟩:=hU;obtain⟨h1,h2,h3,h4,h5,h6,h7⟩:=hp;refine⟨Cu.set h1 hbI,fun x hx=>⟨(h2 x hx).1.far hc (by decide),(h2 x hx).2.far hc (by decide)⟩,h3.far hc (by decide),h4.far hc (by decide),zt h5 (fun e=>?_) v,zt h6 (fun e=>?_) v,h7.oth ⟨_,_,hc⟩ (by decide)⟩
  ·rw[e]at h5;rw[hc]at h5;injection h5 with h5;injection h5 with _ h5 _;exact absurd h5 (by decide)
  ·rw[e]at h6;rw[hc]at h6;injection h6 with h6;injection h6 with _ h6 _;exact absurd h6 (by decide)
 have R:Hid (Y.ownsRow w0.heap.size 38 7 (.slice (some ⟨bI,0,none⟩) n cI) n ((X.set j y).flatMap Xi.cs)):=by
  rw[hY,←hye,←hyf];exact ZL HR.out HN.out HX0.out
 clear hY HR;have b1:=(zb K.out.2.2.2.2.1 0).trans (show _=some ((.slice (some ⟨bI,0,none⟩) n cI))from rfl);have z1:=(zb K.out.2.2.2.2.2.1 0).trans (show _=some (.slice none 0 0)from rfl);have g1:=zc K.out.2.2.2.2.2.1 0;clear b0 z0 g0;go_wp2;clear b1 z1 g1;obtain⟨h1,h2,h3,h4,h5,h6,h7⟩:=K.out;have q9:=h7.new (b:=w.heap.size+1) (i:=0) (v:=(.slice (some ⟨bI,0,none⟩) n cI)) (Nat.le_succ _);have q1:=Cu.set (r:=w.heap.size+1) (i:=0) (v:=(.slice (some ⟨bI,0,none⟩) n cI)) h1 (by have:=Z.out.l0;omega)
 have q2:PgR w0.heap.size (Y.setCell ⟨w.heap.size+1,0,none⟩ (.slice (some ⟨bI,0,none⟩) n cI)) (.slice (some ⟨bI,0,none⟩) n cI) (X.set j y):=by
  refine⟨?_,fun x hx=>?_,fun x hx=>?_,fun x hx=>?_⟩
  ·rw[List.length_set,←HN.out]
   exact zW R.out h6 (by decide)
  ·rcases List.mem_or_eq_of_mem_set hx with hx|rfl
   ·exact(h2 x hx).1.far h6 (by decide)
   ·exact h3.far h6 (by decide)
  ·rcases List.mem_or_eq_of_mem_set hx with hx|rfl
   ·exact(h2 x hx).2.far h6 (by decide)
   ·exact h4.far h6 (by decide)
  ·rcases List.mem_or_eq_of_mem_set hx with hx|rfl
   ·exact Z.out.p.r.le x hx
   ·exact Z.out.le
 have q3:=zq h6 0 (.slice (some ⟨bI,0,none⟩) n cI);simp only[qa,qb]at q3;have t0':=cL0 q3;obtain⟨V,hV⟩:∃V,V=Y.setCell ⟨w.heap.size+1,0,none⟩ (.slice (some ⟨bI,0,none⟩) n cI):=⟨_,rfl⟩;rw[←hV]at q1 q2 q9 t0' ⊢;clear hV;refine bodyPost_ret (v:=.agg #[(.slice (some ⟨bI,0,none⟩) n cI)]) (by simp[results,Tryz.results33,go_sem,t0'];try rfl) rfl ?_;rw[hm.out];exact⟨_,_,rfl,by rw[List.map_set],q2,q1,q9⟩
end Go.Proofs.YtbkajklninmhiaaGreatDoor.Dq
namespace Go.Proofs.YtbkajklninmhiaaGreatDoor.Dq
open Go Go.RowKit Mem Syn Parse Par Draw
attribute [local go_sem ↓] Go.wp_at_zero Go.wp_at_succ
variable {B g:Nat} {w0 w w':World} {bs:List UInt8} {D:Sr} {s s':DS}
variable {iv:Value} {X:List Xi}
theorem Sz.below {W W':World} {gi:Nat} {x:Xi} (h:Sz B g w0 w W bs D s iv X gi x) (hb:Below W.heap.size W W'):Sz B g w0 w W' bs D s iv X gi x:=⟨h.c.below hb,h.p.below hb,h.lo,h.l0,h.ni,zg h.box hb,zg h.res hb,zg h.it hb,h.e.below hb,h.f.below hb,h.le,h.od.below hb⟩
theorem Sz.cur {W W':World} {gi:Nat} {x:Xi} (h:Sz B g w0 w W bs D s iv X gi x) (hc:Cu B g w0 W' bs D s') (hg:W.grownBy W' (some g)):Sz B g w0 w W' bs D s' iv X gi x:=⟨hc,h.p.cur h.c hg,h.lo,h.l0,h.ni,h.c.blk h.l0 h.box hg,h.c.blk (Nat.le_succ_of_le h.l0) h.res hg,h.c.blk (qq h.l0 (qq (Nat.le_add_right _ 2) h.lo)) h.it hg,h.e.cur h.c.d hg,h.f.cur h.c.d hg,h.le,h.od.cur h.c hg⟩
theorem Sz.set {W:World} {gi i:Nat} {v:Value} {x y:Xi} (h:Sz B g w0 w W bs D s iv X gi x) (hy:(itA x.im x.e x.f).setIfInBounds i v=itA y.im y.e y.f) (he:OwnO w0.heap.size W y.e y.im.E) (hf:OwnO w0.heap.size W y.f y.im.F) (hle:y.im.E.length≤3010∧y.im.F.length≤3010):Sz B g w0 w (W.setCell ⟨gi,i,none⟩ v) bs D s iv X gi y:=by
 have hlo:=h.lo;have hl0:=h.l0;refine⟨h.c.set (by omega),h.p.it h.ni ⟨_,_,h.it⟩,h.lo,h.l0,h.ni,zu h.box (by omega) i v,zu h.res (by omega) i v,?_,he.far h.it (by decide),hf.far h.it (by decide),hle,h.od.oth ⟨_,_,h.it⟩ (by decide)⟩;rw[←hy];exact zq h.it i v
theorem spK0 {W:World} {gi j n cI bI nE qE nF qF:Nat} {aE aF:Option Addr} {im:Im} {A:Code} {Q:Exit→Act→World→Prop} {v1 v2 v8 v9 v10:Value} {r:List Value} (hr:r.length=108) (Z:Hid (Sz B g w0 w W bs D s (.slice (some ⟨bI,0,none⟩) n cI) X gi ⟨im,.slice aE nE qE,.slice aF nF qF⟩)) (hmem:Hid (⟨im,.slice aE nE qE,.slice aF nF qF⟩∈X))
  (hA:Hid (∀v8 v9 v10 r' wx s' y,r'.length=108→Sz B g w0 w wx bs D s' (.slice (some ⟨bI,0,none⟩) n cI) X gi y→yP D im 0 s=(y.im,s')→Code.wp Tryz.prog A Q (Fx g w gi (j:Int) 0 v1 v2 v8 v9 v10 r') wx)):Code.wp Tryz.prog (.seq (sL t5) (.seq (sL (sR t5)) (.seq (sL (sR (sR t5))) (.seq (sL (sR (sR (sR t5)))) (.seq (sL (sR (sR (sR (sR t5))))) (.seq (sL (sR (sR (sR (sR (sR t5)))))) (.seq (sL (sR (sR (sR (sR (sR (sR t5))))))) (.seq (sL (sR (sR (sR (sR (sR (sR (sR t5)))))))) (A))))))))) Q (Fx g w gi (j:Int) 0 v1 v2 v8 v9 v10 r) W:=by
 have hle:=Z.out.le;have Z1:Hid (Sz B g w0 w (W.setCell ⟨gi,0,none⟩ (.int .i64 10)) bs D s (.slice (some ⟨bI,0,none⟩) n cI) X gi ⟨⟨10,im.n,im.E,im.F,im.K,im.lo,im.hi⟩,.slice aE nE qE,.slice aF nF qF⟩):=Z.out.set rfl Z.out.e Z.out.f hle;have y0:=(zb Z.out.it 0).trans (show _=some (.int .i64 im.k)from rfl);have f0:=zc Z.out.it 0;revert r;refine @zp 108 _ ?_
 iterate 108 (intro _)
 show Code.wp _ _ _ _ _
 conv=>arg 2;dsimp only[t5,t0,Tryz.f33,Option.getD,sR,sL,cT,cF,bk,lpo]
 conv=>arg 4;dsimp only[Fx]
 go_wp2_with fail;refine hA.out _ _ _ _ _ s ⟨⟨10,im.n,im.E,im.F,im.K,im.lo,im.hi⟩,.slice aE nE qE,.slice aF nF qF⟩ ?_ Z1.out ?_
 ·rfl
 ·simp[yP]
theorem spK1 {W:World} {gi j n cI bI nE qE nF qF:Nat} {aE aF:Option Addr} {im:Im} {A:Code} {Q:Exit→Act→World→Prop} {v1 v2 v8 v9 v10:Value} {r:List Value} (hr:r.length=108) (Z:Hid (Sz B g w0 w W bs D s (.slice (some ⟨bI,0,none⟩) n cI) X gi ⟨im,.slice aE nE qE,.slice aF nF qF⟩)) (hmem:Hid (⟨im,.slice aE nE qE,.slice aF nF qF⟩∈X))
  (hA:Hid (∀v8 v9 v10 r' wx s' y,r'.length=108→Sz B g w0 w wx bs D s' (.slice (some ⟨bI,0,none⟩) n cI) X gi y→yP D im 1 s=(y.im,s')→Code.wp Tryz.prog A Q (Fx g w gi (j:Int) 1 v1 v2 v8 v9 v10 r') wx)):Code.wp Tryz.prog (.seq (sL t5) (.seq (sL (sR t5)) (.seq (sL (sR (sR t5))) (.seq (sL (sR (sR (sR t5)))) (.seq (sL (sR (sR (sR (sR t5))))) (.seq (sL (sR (sR (sR (sR (sR t5)))))) (.seq (sL (sR (sR (sR (sR (sR (sR t5))))))) (.seq (sL (sR (sR (sR (sR (sR (sR (sR t5)))))))) (A))))))))) Q (Fx g w gi (j:Int) 1 v1 v2 v8 v9 v10 r) W:=by
 have hle:=Z.out.le;have Z1:Hid (Sz B g w0 w (W.setCell ⟨gi,1,none⟩ (.string ⟨#[101,97,99,104]⟩)) bs D s (.slice (some ⟨bI,0,none⟩) n cI) X gi ⟨⟨im.k,[101,97,99,104],im.E,im.F,im.K,im.lo,im.hi⟩,.slice aE nE qE,.slice aF nF qF⟩):=Z.out.set rfl Z.out.e Z.out.f hle;have y0:=(zb Z.out.it 1).trans (show _=some (.string ⟨im.n.toArray⟩)from rfl);have f0:=zc Z.out.it 1;revert r;refine @zp 108 _ ?_
 iterate 108 (intro _)
 show Code.wp _ _ _ _ _
 conv=>arg 2;dsimp only[t5,t0,Tryz.f33,Option.getD,sR,sL,cT,cF,bk,lpo]
 conv=>arg 4;dsimp only[Fx]
 go_wp2_with fail;refine hA.out _ _ _ _ _ s ⟨⟨im.k,[101,97,99,104],im.E,im.F,im.K,im.lo,im.hi⟩,.slice aE nE qE,.slice aF nF qF⟩ ?_ Z1.out ?_
 ·rfl
 ·simp[yP]
theorem spK2 {W:World} {gi j n cI bI nE qE nF qF:Nat} {aE aF:Option Addr} {im:Im} {A:Code} {Q:Exit→Act→World→Prop} {v1 v2 v8 v9 v10:Value} {r:List Value} (hr:r.length=108) (Z:Hid (Sz B g w0 w W bs D s (.slice (some ⟨bI,0,none⟩) n cI) X gi ⟨im,.slice aE nE qE,.slice aF nF qF⟩)) (hmem:Hid (⟨im,.slice aE nE qE,.slice aF nF qF⟩∈X))
  (hA:Hid (∀v8 v9 v10 r' wx s' y,r'.length=108→Sz B g w0 w wx bs D s' (.slice (some ⟨bI,0,none⟩) n cI) X gi y→yP D im 2 s=(y.im,s')→Code.wp Tryz.prog A Q (Fx g w gi (j:Int) 2 v1 v2 v8 v9 v10 r') wx)):Code.wp Tryz.prog (.seq (sL t5) (.seq (sL (sR t5)) (.seq (sL (sR (sR t5))) (.seq (sL (sR (sR (sR t5)))) (.seq (sL (sR (sR (sR (sR t5))))) (.seq (sL (sR (sR (sR (sR (sR t5)))))) (.seq (sL (sR (sR (sR (sR (sR (sR t5))))))) (.seq (sL (sR (sR (sR (sR (sR (sR (sR t5)))))))) (A))))))))) Q (Fx g w gi (j:Int) 2 v1 v2 v8 v9 v10 r) W:=by
 have hle:=Z.out.le;have Z1:Hid (Sz B g w0 w (W.setCell ⟨gi,4,none⟩ (.int .i64 (wrap64 (wrap64 (im.K-999999999) -1)))) bs D s (.slice (some ⟨bI,0,none⟩) n cI) X gi ⟨⟨im.k,im.n,im.E,im.F,wrap64 (wrap64 (im.K-999999999) -1),im.lo,im.hi⟩,.slice aE nE qE,.slice aF nF qF⟩):=Z.out.set rfl Z.out.e Z.out.f hle;have y0:=(zb Z.out.it 4).trans (show _=some (.int .i64 im.K)from rfl);have f0:=zc Z.out.it 4;revert r;refine @zp 108 _ ?_
 iterate 108 (intro _)
 show Code.wp _ _ _ _ _
 conv=>arg 2;dsimp only[t5,t0,Tryz.f33,Option.getD,sR,sL,cT,cF,bk,lpo]
 conv=>arg 4;dsimp only[Fx]
 go_wp2_with fail;refine hA.out _ _ _ _ _ s ⟨⟨im.k,im.n,im.E,im.F,wrap64 (wrap64 (im.K-999999999) -1),im.lo,im.hi⟩,.slice aE nE qE,.slice aF nF qF⟩ ?_ Z1.out ?_
 ·rfl
 ·simp[yP]
theorem spK3 {W:World} {gi j n cI bI nE qE nF qF:Nat} {aE aF:Option Addr} {im:Im} {A:Code} {Q:Exit→Act→World→Prop} {v1 v2 v8 v9 v10:Value} {r:List Value} (hr:r.length=108) (Z:Hid (Sz B g w0 w W bs D s (.slice (some ⟨bI,0,none⟩) n cI) X gi ⟨im,.slice aE nE qE,.slice aF nF qF⟩)) (hmem:Hid (⟨im,.slice aE nE qE,.slice aF nF qF⟩∈X))
  (hA:Hid (∀v8 v9 v10 r' wx s' y,r'.length=108→Sz B g w0 w wx bs D s' (.slice (some ⟨bI,0,none⟩) n cI) X gi y→yP D im 3 s=(y.im,s')→Code.wp Tryz.prog A Q (Fx g w gi (j:Int) 3 v1 v2 v8 v9 v10 r') wx)):Code.wp Tryz.prog (.seq (sL t5) (.seq (sL (sR t5)) (.seq (sL (sR (sR t5))) (.seq (sL (sR (sR (sR t5)))) (.seq (sL (sR (sR (sR (sR t5))))) (.seq (sL (sR (sR (sR (sR (sR t5)))))) (.seq (sL (sR (sR (sR (sR (sR (sR t5))))))) (.seq (sL (sR (sR (sR (sR (sR (sR (sR t5)))))))) (A))))))))) Q (Fx g w gi (j:Int) 3 v1 v2 v8 v9 v10 r) W:=by
 have hle:=Z.out.le;have Z1:Hid (Sz B g w0 w (W.setCell ⟨gi,6,none⟩ (.int .i64 (wrap64 (im.hi+1)))) bs D s (.slice (some ⟨bI,0,none⟩) n cI) X gi ⟨⟨im.k,im.n,im.E,im.F,im.K,im.lo,wrap64 (im.hi+1)⟩,.slice aE nE qE,.slice aF nF qF⟩):=Z.out.set rfl Z.out.e Z.out.f hle;have y0:=(zb Z.out.it 6).trans (show _=some (.int .i64 im.hi)from rfl);have f0:=zc Z.out.it 6;revert r;refine @zp 108 _ ?_
 iterate 108 (intro _)
 show Code.wp _ _ _ _ _
 conv=>arg 2;dsimp only[t5,t0,Tryz.f33,Option.getD,sR,sL,cT,cF,bk,lpo]
 conv=>arg 4;dsimp only[Fx]
 go_wp2_with fail;refine hA.out _ _ _ _ _ s ⟨⟨im.k,im.n,im.E,im.F,im.K,im.lo,wrap64 (im.hi+1)⟩,.slice aE nE qE,.slice aF nF qF⟩ ?_ Z1.out ?_
 ·rfl
 ·simp[yP]
theorem spK5 {W:World} {gi j n cI bI nE qE nF qF:Nat} {aE aF:Option Addr} {im:Im} {A:Code} {Q:Exit→Act→World→Prop} {v1 v2 v8 v9 v10:Value} {r:List Value} (hr:r.length=108) (Z:Hid (Sz B g w0 w W bs D s (.slice (some ⟨bI,0,none⟩) n cI) X gi ⟨im,.slice aE nE qE,.slice aF nF qF⟩)) (hmem:Hid (⟨im,.slice aE nE qE,.slice aF nF qF⟩∈X))
  (hA:Hid (∀v8 v9 v10 r' wx s' y,r'.length=108→Sz B g w0 w wx bs D s' (.slice (some ⟨bI,0,none⟩) n cI) X gi y→yP D im 5 s=(y.im,s')→Code.wp Tryz.prog A Q (Fx g w gi (j:Int) 5 v1 v2 v8 v9 v10 r') wx)):Code.wp Tryz.prog (.seq (sL t5) (.seq (sL (sR t5)) (.seq (sL (sR (sR t5))) (.seq (sL (sR (sR (sR t5)))) (.seq (sL (sR (sR (sR (sR t5))))) (.seq (sL (sR (sR (sR (sR (sR t5)))))) (.seq (sL (sR (sR (sR (sR (sR (sR t5))))))) (.seq (sL (sR (sR (sR (sR (sR (sR (sR t5)))))))) (A))))))))) Q (Fx g w gi (j:Int) 5 v1 v2 v8 v9 v10 r) W:=by
 have hle:=Z.out.le;have Z1:Hid (Sz B g w0 w (W.setCell ⟨gi,1,none⟩ (.string ⟨#[65,98,99]⟩)) bs D s (.slice (some ⟨bI,0,none⟩) n cI) X gi ⟨⟨im.k,[65,98,99],im.E,im.F,im.K,im.lo,im.hi⟩,.slice aE nE qE,.slice aF nF qF⟩):=Z.out.set rfl Z.out.e Z.out.f hle;have y0:=(zb Z.out.it 1).trans (show _=some (.string ⟨im.n.toArray⟩)from rfl);have f0:=zc Z.out.it 1;revert r;refine @zp 108 _ ?_
 iterate 108 (intro _)
 show Code.wp _ _ _ _ _
 conv=>arg 2;dsimp only[t5,t0,Tryz.f33,Option.getD,sR,sL,cT,cF,bk,lpo]
 conv=>arg 4;dsimp only[Fx]
 go_wp2_with fail;refine hA.out _ _ _ _ _ s ⟨⟨im.k,[65,98,99],im.E,im.F,im.K,im.lo,im.hi⟩,.slice aE nE qE,.slice aF nF qF⟩ ?_ Z1.out ?_
 ·rfl
 ·simp[yP]
end Go.Proofs.YtbkajklninmhiaaGreatDoor.Dq
namespace Go.Proofs.YtbkajklninmhiaaGreatDoor.Dq
open Go Go.RowKit Mem Syn Parse Par Draw
attribute [local go_sem ↓] Go.wp_at_zero Go.wp_at_succ
variable {B g:Nat} {w0 w w':World} {bs:List UInt8} {D:Sr} {s s':DS}
variable {iv:Value} {X:List Xi}
theorem Sz.app {W W':World} {gi:Nat} {x:Xi} {u:Value} {M:List Po} (h:Sz B g w0 w W bs D s iv X gi x) (hu:OwnO w0.heap.size W u M) (hap:∀y∈X,Ap y.e u∧Ap y.f u) (hxe:Ap x.e u) (hxf:Ap x.f u) (hg:W.grownBy W' u.ownBlock) (hk:OwnO w0.heap.size W' u M):Sz B g w0 w W' bs D s iv X gi x:=
 ⟨h.c.app hu (by decide) hg,⟨yY h.p.row hg hu (by decide),fun y hy=>Xl (h.p.e y hy) hu (hap y hy).1 hg hk,fun y hy=>Xl (h.p.f y hy) hu (hap y hy).2 hg hk,h.p.ee,h.p.ef,h.p.ff,h.p.le⟩,h.lo,h.l0,h.ni,zz hg hu h.box (by decide),zz hg hu h.res (by decide),zz hg hu h.it (by decide),Xl h.e hu hxe hg hk,Xl h.f hu hxf hg hk,h.le,h.od.app hu (by decide) hg⟩
theorem spK4 {W:World} {gi j n cI bI nE qE nF qF:Nat} {aE aF:Option Addr} {im:Im} {A:Code} {Q:Exit→Act→World→Prop} {v1 v2 v8 v9 v10:Value} {r:List Value} (hr:r.length=108) (Z:Hid (Sz B g w0 w W bs D s (.slice (some ⟨bI,0,none⟩) n cI) X gi ⟨im,.slice aE nE qE,.slice aF nF qF⟩)) (hmem:Hid (⟨im,.slice aE nE qE,.slice aF nF qF⟩∈X))
  (hA:Hid (∀v8 v9 v10 r' wx s' y,r'.length=108→Sz B g w0 w wx bs D s' (.slice (some ⟨bI,0,none⟩) n cI) X gi y→yP D im 4 s=(y.im,s')→Code.wp Tryz.prog A Q (Fx g w gi (j:Int) 4 v1 v2 v8 v9 v10 r') wx)):Code.wp Tryz.prog (.seq (sL t5) (.seq (sL (sR t5)) (.seq (sL (sR (sR t5))) (.seq (sL (sR (sR (sR t5)))) (.seq (sL (sR (sR (sR (sR t5))))) (.seq (sL (sR (sR (sR (sR (sR t5)))))) (.seq (sL (sR (sR (sR (sR (sR (sR t5))))))) (.seq (sL (sR (sR (sR (sR (sR (sR (sR t5)))))))) (A))))))))) Q (Fx g w gi (j:Int) 4 v1 v2 v8 v9 v10 r) W:=by
 obtain⟨i0,hi,hz0,hz1,hz2⟩:=info_parts yl;have hle:=Z.out.p.le _ hmem.out;dsimp only at hle;have hnF:nF=im.F.length:=by obtain⟨a',c',e,-⟩:=zh Z.out.f;injection e
 have HNF:=Hm hnF;have hb:Below W.heap.size W (W.alloc (.cells (Po.cells ⟨8,0,[]⟩).toArray 88)):=zd (Below.refl _ _) _;have ZA:=Hm (Z.out.below hb)
 have RA:Hid ((W.alloc (.cells (Po.cells ⟨8,0,[]⟩).toArray 88)).ownsRow w0.heap.size 88 3 (.slice aF nF qF) nF (zH im.F)):=by
  have:=ZA.out.f;unfold OwnO at this;rw[←hnF]at this;exact this
 have hzA:=ZA.out.c.size;have y0:=(zb Z.out.it 3).trans (show _=some (.slice aF nF qF)from rfl);clear hb;have hF3:nF≤3000:=by omega
 have HLE:=Hm hle;clear hnF hle;revert r;refine @zp 108 _ ?_
 iterate 108 (intro _)
 show Code.wp _ _ _ _ _
 conv=>arg 2;dsimp only[t5,t0,Tryz.f33,Option.getD,sR,sL,cT,cF,bk,lpo]
 conv=>arg 4;dsimp only[Fx]
 go_wp2_with (first|(at_builtin;go_must (refine Yk rfl _ _ 36 rfl w0.heap.size 88 i0 (.agg #[.int .i64 0,.int .i64 0,.string ⟨#[]⟩]) 3 32 Tryz.underlying36 hi hz0 hz1 hz2 rfl (by decide) _ _ _ rfl RA.out ⟨W.heap.size,0,none⟩ 1 1 (Po.cells ⟨8,0,[]⟩) rfl rfl (XC W ⟨8,0,[]⟩) (Yc _) (by unfold maxLen;omega) (by omega) hzA ?_))|(refine zC rfl 36 88 _ rfl i0 _ Tryz.underlying36 hi hz0 3 hz1 (Po.cells ⟨8,0,[]⟩) rfl (yM _ _ _) (by decide) (by decide) ?_));clear y0;intro v' w' ho hgr hk;have hkO:OwnO w0.heap.size w' (.slice aF nF qF) im.F:=by unfold OwnO;rw[←HNF.out];exact hk
 have ZB:=Hm (ZA.out.app ZA.out.f (fun y hy=>⟨Z.out.p.ef y hy _ hmem.out,Z.out.p.ff y hy _ hmem.out⟩) (Z.out.p.ef _ hmem.out _ hmem.out) (yH _) hgr hkO)
 have OZ:Hid (OwnO w0.heap.size w' v' (im.F++[⟨8,0,[]⟩])):=by
  refine Hm (OwnO.snoc ?_);rw[←HNF.out];exact ho
 obtain⟨az,nz,bz,rfl⟩:∃a n c,v'=.slice a n c:=by obtain⟨a,c,e,-⟩:=zh ho;exact⟨_,_,_,e⟩
 clear ho hgr hk hkO ZA RA;have Z1:Hid (Sz B g w0 w (w'.setCell ⟨gi,3,none⟩ (.slice az nz bz)) bs D s (.slice (some ⟨bI,0,none⟩) n cI) X gi ⟨⟨im.k,im.n,im.E,im.F++[⟨8,0,[]⟩],im.K,im.lo,im.hi⟩,.slice aE nE qE,.slice az nz bz⟩):=ZB.out.set rfl ZB.out.e OZ.out ⟨by have:=HLE.out.1;show im.E.length≤3010;omega,by have:=HLE.out.2;show(im.F++_).length≤3010;rw[qg];simp;omega⟩;have y0:=(zb ZB.out.it 3).trans (show _=some (.slice aF nF qF)from rfl);have f0:=zc ZB.out.it 3;refine Hid.out ?_;refine Lib.hid ?_;go_wp2_with fail;refine hA.out _ _ _ _ _ s ⟨⟨im.k,im.n,im.E,im.F++[⟨8,0,[]⟩],im.K,im.lo,im.hi⟩,.slice aE nE qE,.slice az nz bz⟩ ?_ Z1.out ?_
 ·rfl
 ·simp[yP]
theorem put_defers (a:Act) (d:Option Nat) (v:Value):(a.put d v).defers=a.defers:=by cases d<;>rfl
theorem spK6 {W:World} {gi j n cI bI nE qE nF qF:Nat} {aE aF:Option Addr} {im:Im} {A:Code} {Q:Exit→Act→World→Prop} {v1 v2 v8 v9 v10:Value} {r:List Value} (hr:r.length=108) (Z:Hid (Sz B g w0 w W bs D s (.slice (some ⟨bI,0,none⟩) n cI) X gi ⟨im,.slice aE nE qE,.slice aF nF qF⟩)) (hmem:Hid (⟨im,.slice aE nE qE,.slice aF nF qF⟩∈X)) (HP:Hid (∀(c:List PanicEntry) (a a':Act) (w:World),a.defers=a'.defers→Q (.panic c) a w→Q (.panic c) a' w))
  (hA:Hid (∀v8 v9 v10 r' wx s' y,r'.length=108→Sz B g w0 w wx bs D s' (.slice (some ⟨bI,0,none⟩) n cI) X gi y→yP D im 6 s=(y.im,s')→Code.wp Tryz.prog A Q (Fx g w gi (j:Int) 6 v1 v2 v8 v9 v10 r') wx)):Code.wp Tryz.prog (.seq (sL t5) (.seq (sL (sR t5)) (.seq (sL (sR (sR t5))) (.seq (sL (sR (sR (sR t5)))) (.seq (sL (sR (sR (sR (sR t5))))) (.seq (sL (sR (sR (sR (sR (sR t5)))))) (.seq (sL (sR (sR (sR (sR (sR (sR t5))))))) (.seq (sL (sR (sR (sR (sR (sR (sR (sR t5)))))))) (A))))))))) Q (Fx g w gi (j:Int) 6 v1 v2 v8 v9 v10 r) W:=by
 obtain⟨i0,hi,hz0,hz1,hz2⟩:=info_parts yl;have hle:=Z.out.p.le _ hmem.out;dsimp only at hle;have hnE:nE=im.E.length:=by obtain⟨a',c',e,-⟩:=zh Z.out.e;injection e
 have HNE:=Hm hnE;have hE3:nE≤3000:=by omega
 have HLE:=Hm hle;have ZD:=Hm (Z.out.below (Below.refl _ _).drew);clear hnE hle;revert r;refine @zp 108 _ ?_
 iterate 108 (intro _)
 show Code.wp _ _ _ _ _
 conv=>arg 2;dsimp only[t5,t0,Tryz.f33,Option.getD,sR,sL,cT,cF,bk,lpo]
 conv=>arg 4;dsimp only[Fx]
 go_upto_region 19 with fail;refine wp_region_held_drew (S:=(fun _=>True)) (by kernel_rfl) ?_ (fun hHeld=>?_)
 ·trivial
 refine tK 0 ?_ rfl (by kernel_rfl) (fun _ _ _ h=>HP.out _ _ _ _ (put_defers _ _ _) h) (by rfl) ?_ (by assumption) ?_;rotate_left
 ·intro w hSw;(try dsimp only at hSw);go_simp;(try with_reducible rfl)
 rotate_left;simp only[Act.put,qa,qb,qc,qf,qe,qd];refine wpAnyH_ready (rs:=[1,2]) (by kernel_rfl) (by simp) ?_;refine AllReadyH.cons rfl (fun K hK=>?_) ?_
 ·have y0:=(zb ZD.out.it 2).trans (show _=some (.slice aE nE qE)from rfl)
  go_simp;clear y0;refine hK.out _ _ ?_ (fun hHeld=>?_)
  ·trivial
  clear hK K
  (try simp only[Act.put,qa,qb,qc,qf,qe,qd])
  refine wpAnyH_ready (rs:=[2]) (by kernel_rfl) (by simp) ?_;refine AllReadyH.cons rfl (fun K hK=>?_) ?_
  ·go_simp
   refine(xO 5 _).mono ?_;rintro e' w1 ⟨vb,rfl,ho,hb⟩;have Z1:=Hm (ZD.out.below hb);have OB:=Hm ho;obtain⟨gb,cb,rfl,-,-⟩:=OwnO.some' ho (by simp);clear ho hb ZD;refine hK.out _ _ ?_ (fun hHeld=>?_)
   ·trivial
   clear hK K
   (try simp only[Act.put,qa,qb,qc,qf,qe,qd])
   refine wpAnyH_ready (rs:=[3]) (by kernel_rfl) (by simp) ?_;refine AllReadyH.cons rfl (fun K hK=>?_) ?_
   ·have RA:w1.ownsRow w0.heap.size 88 3 (.slice aE nE qE) nE (zH im.E):=by
     have:=Z1.out.e;unfold OwnO at this;rw[←HNE.out]at this;exact this
    refine X8 rfl (.tmp 61) (.tmp 62) 36 rfl w0.heap.size 88 i0 (.agg #[.int .i64 0,.int .i64 0,.string ⟨#[]⟩]) 3 32 Tryz.underlying36 hi hz0 hz1 hz2 rfl (by decide) (.slice aE nE qE) nE (zH im.E) (by simp[Act.eval]) RA ⟨gb,0,none⟩ 1 cb (zH [⟨1,5,[]⟩]) (by simp[Act.eval]) rfl (YC OB.out) (Yb _) (by unfold maxLen;omega) (by omega) Z1.out.c.size ?_;intro v' w' ho hgr hk;have hkO:OwnO w0.heap.size w' (.slice aE nE qE) im.E:=by unfold OwnO;rw[←HNE.out];exact hk
    have ZB:=Hm (Z1.out.app Z1.out.e (fun y hy=>⟨Z.out.p.ee y hy _ hmem.out,(Z.out.p.ef _ hmem.out y hy).symm⟩) (yH _) (Z.out.p.ef _ hmem.out _ hmem.out).symm hgr hkO)
    have OZ:Hid (OwnO w0.heap.size w' v' (im.E++[⟨1,5,[]⟩])):=by
     refine Hm (OwnO.app (M:=[⟨1,5,[]⟩]) ?_);rw[←HNE.out];exact ho
    obtain⟨az,nz,bz,rfl⟩:∃a n c,v'=.slice a n c:=by obtain⟨a,c,e,-⟩:=zh ho;exact⟨_,_,_,e⟩
    clear ho hgr hk hkO Z1 RA OB;have Z2:Hid (Sz B g w0 w (w'.setCell ⟨gi,2,none⟩ (.slice az nz bz)) bs D s (.slice (some ⟨bI,0,none⟩) n cI) X gi ⟨⟨im.k,im.n,im.E++[⟨1,5,[]⟩],im.F,im.K,im.lo,im.hi⟩,.slice az nz bz,.slice aF nF qF⟩):=ZB.out.set rfl OZ.out ZB.out.f ⟨by have:=HLE.out.1;show(im.E++_).length≤3010;rw[qg];simp;omega,by have:=HLE.out.2;show im.F.length≤3010;omega⟩;have y0:=(zb ZB.out.it 2).trans (show _=some (.slice aE nE qE)from rfl);have f0:=zc ZB.out.it 2;refine hK.out _ _ ?_ (fun hHeld=>?_)
    ·trivial
    clear hK K
    (try simp only[Act.put,qa,qb,qc,qf,qe,qd])
    refine tK 4 ?_ rfl (by kernel_rfl) (fun _ _ _ h=>HP.out _ _ _ _ (put_defers _ _ _) h) (by rfl) ?_ (by assumption) ?_;rotate_left
    ·intro w hSw;(try dsimp only at hSw);go_simp;(try with_reducible rfl)
    rotate_left;simp only[Act.put,qa,qb,qc,qf,qe,qd];refine wpAnyH_ready (rs:=[5]) (by kernel_rfl) (by simp) ?_;refine AllReadyH.cons rfl (fun K hK=>?_) ?_
    ·go_simp
     refine hK.out _ _ ?_ (fun hHeld=>?_)
     ·trivial
     clear hK K y0 f0
     (try simp only[Act.put,qa,qb,qc,qf,qe,qd])
     refine wpAnyH_done (by kernel_rfl) ?_ _;go_wp2_with fail;refine hA.out _ _ _ _ _ s ⟨⟨im.k,im.n,im.E++[⟨1,5,[]⟩],im.F,im.K,im.lo,im.hi⟩,.slice az nz bz,.slice aF nF qF⟩ ?_ Z2.out ?_
     ·rfl
     ·simp[yP]
    exact AllReadyH.nil
   exact AllReadyH.nil
  exact AllReadyH.nil
 refine AllReadyH.cons rfl (fun K hK=>?_) ?_
 ·go_simp
  refine(xO 5 _).mono ?_;rintro e' w1 ⟨vb,rfl,ho,hb⟩;have Z1:=Hm (ZD.out.below hb);have OB:=Hm ho;obtain⟨gb,cb,rfl,-,-⟩:=OwnO.some' ho (by simp);clear ho hb ZD;refine hK.out _ _ ?_ (fun hHeld=>?_)
  ·trivial
  clear hK K
  (try simp only[Act.put,qa,qb,qc,qf,qe,qd])
  refine wpAnyH_ready (rs:=[1]) (by kernel_rfl) (by simp) ?_;refine AllReadyH.cons rfl (fun K hK=>?_) ?_
  ·have y0:=(zb Z1.out.it 2).trans (show _=some (.slice aE nE qE)from rfl)
   go_simp;clear y0;refine hK.out _ _ ?_ (fun hHeld=>?_)
   ·trivial
   clear hK K
   (try simp only[Act.put,qa,qb,qc,qf,qe,qd])
   refine wpAnyH_ready (rs:=[3]) (by kernel_rfl) (by simp) ?_;refine AllReadyH.cons rfl (fun K hK=>?_) ?_
   ·have RA:w1.ownsRow w0.heap.size 88 3 (.slice aE nE qE) nE (zH im.E):=by
     have:=Z1.out.e;unfold OwnO at this;rw[←HNE.out]at this;exact this
    refine X8 rfl (.tmp 61) (.tmp 62) 36 rfl w0.heap.size 88 i0 (.agg #[.int .i64 0,.int .i64 0,.string ⟨#[]⟩]) 3 32 Tryz.underlying36 hi hz0 hz1 hz2 rfl (by decide) (.slice aE nE qE) nE (zH im.E) (by simp[Act.eval]) RA ⟨gb,0,none⟩ 1 cb (zH [⟨1,5,[]⟩]) (by simp[Act.eval]) rfl (YC OB.out) (Yb _) (by unfold maxLen;omega) (by omega) Z1.out.c.size ?_;intro v' w' ho hgr hk;have hkO:OwnO w0.heap.size w' (.slice aE nE qE) im.E:=by unfold OwnO;rw[←HNE.out];exact hk
    have ZB:=Hm (Z1.out.app Z1.out.e (fun y hy=>⟨Z.out.p.ee y hy _ hmem.out,(Z.out.p.ef _ hmem.out y hy).symm⟩) (yH _) (Z.out.p.ef _ hmem.out _ hmem.out).symm hgr hkO)
    have OZ:Hid (OwnO w0.heap.size w' v' (im.E++[⟨1,5,[]⟩])):=by
     refine Hm (OwnO.app (M:=[⟨1,5,[]⟩]) ?_);rw[←HNE.out];exact ho
    obtain⟨az,nz,bz,rfl⟩:∃a n c,v'=.slice a n c:=by obtain⟨a,c,e,-⟩:=zh ho;exact⟨_,_,_,e⟩
    clear ho hgr hk hkO Z1 RA OB;have Z2:Hid (Sz B g w0 w (w'.setCell ⟨gi,2,none⟩ (.slice az nz bz)) bs D s (.slice (some ⟨bI,0,none⟩) n cI) X gi ⟨⟨im.k,im.n,im.E++[⟨1,5,[]⟩],im.F,im.K,im.lo,im.hi⟩,.slice az nz bz,.slice aF nF qF⟩):=ZB.out.set rfl OZ.out ZB.out.f ⟨by have:=HLE.out.1;show(im.E++_).length≤3010;rw[qg];simp;omega,by have:=HLE.out.2;show im.F.length≤3010;omega⟩;have y0:=(zb ZB.out.it 2).trans (show _=some (.slice aE nE qE)from rfl);have f0:=zc ZB.out.it 2;refine hK.out _ _ ?_ (fun hHeld=>?_)
    ·trivial
    clear hK K
    (try simp only[Act.put,qa,qb,qc,qf,qe,qd])
    refine tK 4 ?_ rfl (by kernel_rfl) (fun _ _ _ h=>HP.out _ _ _ _ (put_defers _ _ _) h) (by rfl) ?_ (by assumption) ?_;rotate_left
    ·intro w hSw;(try dsimp only at hSw);go_simp;(try with_reducible rfl)
    rotate_left;simp only[Act.put,qa,qb,qc,qf,qe,qd];refine wpAnyH_ready (rs:=[5]) (by kernel_rfl) (by simp) ?_;refine AllReadyH.cons rfl (fun K hK=>?_) ?_
    ·go_simp
     refine hK.out _ _ ?_ (fun hHeld=>?_)
     ·trivial
     clear hK K y0 f0
     (try simp only[Act.put,qa,qb,qc,qf,qe,qd])
     refine wpAnyH_done (by kernel_rfl) ?_ _;go_wp2_with fail;refine hA.out _ _ _ _ _ s ⟨⟨im.k,im.n,im.E++[⟨1,5,[]⟩],im.F,im.K,im.lo,im.hi⟩,.slice az nz bz,.slice aF nF qF⟩ ?_ Z2.out ?_
     ·rfl
     ·simp[yP]
    exact AllReadyH.nil
   exact AllReadyH.nil
  exact AllReadyH.nil
 exact AllReadyH.nil
end Go.Proofs.YtbkajklninmhiaaGreatDoor.Dq
