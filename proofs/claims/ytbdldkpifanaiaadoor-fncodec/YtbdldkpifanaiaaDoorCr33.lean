import Derived.Test.YtbdldkpifanaiaaDoorCr32
set_option maxHeartbeats 6400000
set_option maxRecDepth 1000000
set_option linter.unusedVariables false
set_option linter.unusedSimpArgs false
open List renaming setIfInBounds_toArray → qa, set_cons_zero → qb, set_cons_succ → qc
open Nat renaming le_trans → qo, le_of_lt → qq
namespace Go.Proofs.YtbdldkpifanaiaaDoor.Par
open Go Go.RowKit Mem Syn Parse
attribute [local go_sem ↓] Go.wp_at_zero Go.wp_at_succ
theorem VX {B B':Nat} {w:World} {v:Value} {L:List Po} (h:OwnO B w v L) (hB:B'≤B):OwnO B' w v L:=by
 refine⟨h.1,?_⟩;rcases h.2 with h0|⟨g,cap,cur,h1,h2,h3⟩
 ·exact Or.inl h0
 ·exact Or.inr ⟨g,cap,cur,h1,qo hB h2,h3⟩
structure Im where
 (k:Int) (n:List UInt8) (E F:List Po) (K lo hi:Int)
structure ItO (s:Nat) (w:World) (v:Value) (im:Im) (vE vF:Value) (m:Nat):Prop where
 v:v=.agg #[.int .i64 im.k,.string ⟨im.n.toArray⟩,vE,vF,.int .i64 im.K,.int .i64 im.lo,.int .i64 im.hi]
 e:OwnO s w vE im.E
 eb:∀g,vE.ownBlock=some g→g<m
 sm:s≤m
 f:OwnO m w vF im.F
theorem OwnO.keepB {B:Nat} {w w':World} {v:Value} {L:List Po} (h:OwnO B w v L) (hk:∀g C fr,B≤g→w.heap[g]? =some (.cells C 97 fr)→w'.heap[g]? =some (.cells C 97 fr)):OwnO B w' v L:=by
 refine⟨h.1,?_⟩;rcases h.2 with h0|⟨g,cap,cur,h1,h2,h3,h4⟩
 ·exact Or.inl h0
 ·exact Or.inr ⟨g,cap,cur,h1,h2,hk g _ _ h2 h3,h4⟩
theorem OwnO.gb {B b:Nat} {w w':World} {v:Value} {L:List Po} (h:OwnO B w v L) (g:w.grownBy w' (some b)) (hb:b<B):OwnO B w' v L:=h.keepB fun x C fr hx hc=>by
 rw[g.block x (zu hc) (by simp;omega)];exact hc
theorem OwnO.st {B r i:Nat} {w:World} {v u:Value} {L:List Po} (h:OwnO B w v L) (hr:r<B):OwnO B (w.setCell ⟨r,i,none⟩ u) v L:=h.keepB fun x C fr hx hc=>zd hc (show x≠r by omega) _
theorem OwnO.hi {B:Nat} {w:World} {v:Value} {L:List Po} (h:OwnO B w v L):∀g,v.ownBlock=some g→g<w.heap.size:=fun g e=>(h.lt g e).2
end Go.Proofs.YtbdldkpifanaiaaDoor.Par
namespace Go.Proofs.YtbdldkpifanaiaaDoor.Dq
open Go Go.RowKit Mem Syn Parse Par Draw
attribute [local go_sem ↓] Go.wp_at_zero Go.wp_at_succ
variable {B g:Nat} {w0 w w':World} {bs:List UInt8} {D:Sr} {s s':DS}
theorem zo {W:World} {B' sz n r i:Nat} {T T':TypeId} {u v:Value} {xs:List Value} {C:Array Value} {fr:Nat×Nat} (h:W.ownsRow B' T sz u n xs) (hr:W.heap[r]? =some (.cells C T' fr)) (hT:T≠T'):(W.setCell ⟨r,i,none⟩ v).ownsRow B' T sz u n xs:=by
 refine⟨h.1,?_⟩;rcases h.2 with h0|⟨x,cap,cur,h1,h2,h3,h4⟩
 ·exact Or.inl h0
 ·refine Or.inr ⟨x,cap,cur,h1,h2,zd h3 (fun e=>?_) v,h4⟩
  subst e;rw[hr]at h3;injection h3 with h3;injection h3 with _ h5 _;exact hT h5.symm
theorem _root_.Go.Proofs.YtbdldkpifanaiaaDoor.Par.OwnO.far {W:World} {B' r i:Nat} {T':TypeId} {u v:Value} {L:List Po} {C:Array Value} {fr:Nat×Nat} (h:OwnO B' W u L) (hr:W.heap[r]? =some (.cells C T' fr)) (hT:97≠T'):OwnO B' (W.setCell ⟨r,i,none⟩ v) u L:=zo h hr hT
theorem zn {w:World} {r r':Nat} {o:Obj} (h:w.heap[r]? =some o) (hne:r≠r') (i:Nat) (v:Value):(w.setCell ⟨r',i,none⟩ v).heap[r]? =some o:=zd h hne v
theorem zp.far {W:World} {C' r i:Nat} {T':TypeId} {a b v:Value} {ev:Ev} {C:Array Value} {fr:Nat×Nat} (h:zp C' W a b ev) (hr:W.heap[r]? =some (.cells C T' fr)) (h1:9≠T') (h2:2≠T'):zp C' (W.setCell ⟨r,i,none⟩ v) a b ev:=⟨zo h.n hr h1,zo h.t hr h2⟩
theorem _root_.Go.Proofs.YtbdldkpifanaiaaDoor.Draw.DC.oth {B g r i:Nat} {w:World} {bs:List UInt8} {s:DS} {v:Value} (h:DC B g w bs s) (hr:B≤r) (hne:g≠r):DC B g (w.setCell ⟨r,i,none⟩ v) bs s:=by
 obtain⟨h1,h2,u,hx,ht⟩:=h;exact⟨h1,h2,u,zd hx hne v,ht.set hr i v⟩
theorem Cu.set {r i:Nat} {v:Value} (h:Cu B g w0 w bs D s) (hr:w0.heap.size≤r):Cu B g w0 (w.setCell ⟨r,i,none⟩ v) bs D s:=⟨h.d.oth (qo h.lB (qo (qq h.lg) hr)) (by have:=h.lg;omega),Tl h.gb hr,h.lB,h.lg,h.len,h.hb,h.ho⟩
def dSum (D:Sr) (ev:Ev) (s:DS) (W:Nat):Im×DS:=
 match YL D ev s with
 |(E,s1)=>match D.bel s1 31 with
  |(x,s2)=>match D.bel s2 (W*4)with
   |(y,s3)=>match D.bel s3 (W*4)with
    |(z,s4)=>(⟨4,[],E,[],-10+(x:Int),-10- (y:Int),10+(W:Int)+(z:Int)⟩,s4)
def YK (D:Sr) (ev:Ev) (s:DS) (G:Bool):Im×DS:=
 match yW D s 2 ev with
 |(E,s1)=>match yW D s1 2 ev with
  |(F,s2)=>match D.once s2 2 with
   |(o,s3)=>
    if o=true∨G=true then
     match D.bel s3 4 with
     |(x,s4)=>match D.bel s4 4 with
      |(y,s5)=>(⟨5,[],[⟨4,(x:Int),[]⟩],[⟨4,(y:Int),[]⟩]++[⟨3,11,[]⟩]++[⟨9,6,[]⟩],0,0,0⟩,s5)
    else (⟨5,[],E,F,0,0,0⟩,s3)
def TM (D:Sr) (ev:Ev) (s:DS) (W:Nat):Im×DS:=
 match YL D ev s with
 |(E,s1)=>match D.bel s1 W with
  |(y,s3)=>match D.bel s3 W with
   |(z,s4)=>(⟨8,[],E,[],0,-(y:Int),((W / 2:Nat):Int)+(z:Int)⟩,s4)
def Xv (D:Sr) (ev:Ev) (s:DS) (G:Bool):Im×DS:=
 match yW D s 2 ev with
 |(E,s1)=>
  if G=true then
   match D.bel s1 16 with
   |(x,s2)=>match D.bel s2 4 with
    |(y,s3)=>(⟨9,[],[⟨1,8+(x:Int),[]⟩]++[⟨3,1,[]⟩]++[⟨9,3,[]⟩],[],(y:Int),0,0⟩,s3)
  else
   match D.bel s1 4 with
   |(y,s3)=>(⟨9,[],E,[],(y:Int),0,0⟩,s3)
def Xe (D:Sr) (ev:Ev) (s:DS) (G:Bool):List Po×DS:=if G=true then Zp D ev s else y7 D ev 3 s 2
def z8 (D:Sr) (ev:Ev) (k:Nat) (s:DS) (G:Bool) (W:Nat):Im×DS:=
 if k=0 then
  match Xe D ev s G with
  |(E,s1)=>(⟨2,[],E,[],0,0,0⟩,s1)
 else if k=1 then
  match Xe D ev s G with
  |(E,s1)=>
   if G=true then
    match D.bel s1 130 with
    |(x,s2)=>(⟨3,[],[⟨3,3,[]⟩]++[⟨1,50+(x:Int),[]⟩]++[⟨9,4,[]⟩],[],0,0,0⟩,s2)
   else (⟨3,[],E,[],0,0,0⟩,s1)
 else if k=2 then dSum D ev s W
 else if k=3 then YK D ev s G
 else if k=4 then
  match D.bel s 3 with
  |(x,s1)=>match D.bel s1 4 with
   |(y,s2)=>(⟨6,[],[],[],(x:Int),(y:Int),0⟩,s2)
 else if k=5 then
  match D.bel s 4 with
  |(x,s1)=>match D.once s1 8 with
   |(o,s2)=>(⟨7,[],[],[],if o=true then 0 else 1+(x:Int),0,0⟩,s2)
 else if k=6 then TM D ev s W
 else Xv D ev s G
def ZI (D:Sr) (ev:Ev) (s:DS) (G:Bool):Im×DS:=
 match D.bel s 8 with
 |(k,s1)=>z8 D ev k s1 G (if G=true then 150 else 40)
def itA (im:Im) (vE vF:Value):Array Value:=#[.int .i64 im.k,.string ⟨im.n.toArray⟩,vE,vF,.int .i64 im.K,.int .i64 im.lo,.int .i64 im.hi]
def Ap (u v:Value):Prop:=∀b,u.ownBlock=some b→v.ownBlock=some b→u=v
theorem Xj {n:Nat} {w:World} {u v:Value} {L:List Po} (h:∀b,u.ownBlock=some b→b<n) (ho:OwnO n w v L):Ap u v:=fun b h1 h2=>absurd (h b h1) (Nat.not_lt.2 (ho.blk b h2))
theorem yX (u:Value):Ap u (.slice none 0 0):=fun b _ h=>by cases h
def RI (B g:Nat) (w:World) (bs:List UInt8) (D:Sr) (r:Im×DS) (e:Ending) (w':World):Prop:=∃vE vF,e=.returned (.agg (itA r.1 vE vF))∧OwnO w.heap.size w' vE r.1.E∧OwnO w.heap.size w' vF r.1.F∧Cu B g w w' bs D r.2∧r.1.E.length≤64∧r.1.F.length≤64∧Ap vE vF
structure Rz (B g:Nat) (w0 w:World) (bs:List UInt8) (D:Sr) (s:DS) (gi:Nat) (im:Im) (vE vF:Value):Prop where
 c:Cu B g w0 w bs D s
 lo:w0.heap.size+2≤gi
 it:w.heap[gi]? =some (.cells (itA im vE vF) 77)
 rs:w.heap[w0.heap.size+1]? =some (.cells #[.int .i64 0,.string ⟨#[]⟩,.slice none 0 0,.slice none 0 0,.int .i64 0,.int .i64 0,.int .i64 0] 77)
 e:OwnO w0.heap.size w vE im.E
 f:OwnO w0.heap.size w vF im.F
 he:im.E.length≤64
 hf:im.F.length≤64
 ap:Ap vE vF
noncomputable def r0:Code:=Tryd.f67.body.getD .skip
noncomputable def r5:Code:=sR (sR (sR (sR (sR r0))))
noncomputable def r13:Code:=sR (sR (sR (sR (sR (sR (sR r5))))))
def Fr (g:Nat) (w:World) (gi:Nat) (G:Bool) (k:Int) (W:Int) (v1 v3 v5:Value) (r:List Value):Act:={tmps:=(.pointer (some ⟨g,0,none⟩)::v1::.bool G::v3::.pointer (some ⟨w.heap.size,0,none⟩)::v5::.pointer (some ⟨w.heap.size+1,0,none⟩)::.int .i64 k::.pointer (some ⟨gi,0,none⟩)::.int .i64 W::r).toArray,defers:=[]}
theorem VK {W:World} {gi:Nat} {G:Bool} {k wd:Int} {m:Im×DS} {im:Im} {vE vF v1 v3 v5:Value} {r:List Value} (hr:r.length=136) (Z:Hid (Rz B g w W bs D s gi im vE vF)) (hm:Hid (m=(im,s))):
  Code.wp Tryd.prog r13 (bodyPost Tryd.prog Tryd.f67 (RI B g w bs D m)) (Fr g w gi G k wd v1 v3 v5 r) W:=by
 obtain⟨aE,nE,qE,rfl⟩:∃a n c,vE=.slice a n c:=by obtain⟨a,c,e,-⟩:=zj Z.out.e;exact⟨_,_,_,e⟩
 obtain⟨aF,nF,qF,rfl⟩:∃a n c,vF=.slice a n c:=by obtain⟨a,c,e,-⟩:=zj Z.out.f;exact⟨_,_,_,e⟩
 have hx:=Z.out.it;have hz:=Z.out.rs;unfold itA at hx;have x0:=cl0 hx;have x1:=cl1 hx;have x2:=cl2 hx;have x3:=cl3 hx;have x4:=cl4 hx;have x5:=cl5 hx;have x6:=cl6 hx;have z0:=cl0 hz;have f0:=zb hz 0;have z1:=cl1 hz;have f1:=zb hz 1;have z2:=cl2 hz;have f2:=zb hz 2;have z3:=cl3 hz;have f3:=zb hz 3;have z4:=cl4 hz;have f4:=zb hz 4;have z5:=cl5 hz;have f5:=zb hz 5;have z6:=cl6 hz;have f6:=zb hz 6;clear hx hz;revert r;refine @zE 136 _ ?_
 iterate 136 (intro _)
 show Code.wp _ _ _ _ _
 conv=>arg 2;dsimp only[r13,r5,r0,Tryd.f67,Option.getD,sR,sL,cT,cF,bk,lpo]
 conv=>arg 4;dsimp only[Fr]
 go_wp2;clear x0 x1 x2 x3 x4 x5 x6 z0 z1 z2 z3 z4 z5 z6 f0 f1 f2 f3 f4 f5 f6;have b0:=Z.out.rs;have O0e:=Z.out.e;have O0f:=Z.out.f;have C0:=Z.out.c;have b1:=zk b0 0 (.int .i64 im.k);have O1e:=OwnO.far (i:=0) (v:=.int .i64 im.k) O0e b0 (by decide);have O1f:=OwnO.far (i:=0) (v:=.int .i64 im.k) O0f b0 (by decide);have C1:=Cu.set (r:=w.heap.size+1) (i:=0) (v:=.int .i64 im.k) C0 (Nat.le_succ _);simp only[qa,qb,qc]at b1;clear b0 O0e O0f C0;have b2:=zk b1 1 (.string ⟨im.n.toArray⟩);have O2e:=OwnO.far (i:=1) (v:=.string ⟨im.n.toArray⟩) O1e b1 (by decide);have O2f:=OwnO.far (i:=1) (v:=.string ⟨im.n.toArray⟩) O1f b1 (by decide);have C2:=Cu.set (r:=w.heap.size+1) (i:=1) (v:=.string ⟨im.n.toArray⟩) C1 (Nat.le_succ _)
 simp only[qa,qb,qc]at b2;clear b1 O1e O1f C1;have b3:=zk b2 2 (.slice aE nE qE);have O3e:=OwnO.far (i:=2) (v:=.slice aE nE qE) O2e b2 (by decide);have O3f:=OwnO.far (i:=2) (v:=.slice aE nE qE) O2f b2 (by decide);have C3:=Cu.set (r:=w.heap.size+1) (i:=2) (v:=.slice aE nE qE) C2 (Nat.le_succ _);simp only[qa,qb,qc]at b3;clear b2 O2e O2f C2;have b4:=zk b3 3 (.slice aF nF qF);have O4e:=OwnO.far (i:=3) (v:=.slice aF nF qF) O3e b3 (by decide);have O4f:=OwnO.far (i:=3) (v:=.slice aF nF qF) O3f b3 (by decide);have C4:=Cu.set (r:=w.heap.size+1) (i:=3) (v:=.slice aF nF qF) C3 (Nat.le_succ _);simp only[qa,qb,qc]at b4;clear b3 O3e O3f C3
 have b5:=zk b4 4 (.int .i64 im.K);have O5e:=OwnO.far (i:=4) (v:=.int .i64 im.K) O4e b4 (by decide);have O5f:=OwnO.far (i:=4) (v:=.int .i64 im.K) O4f b4 (by decide);have C5:=Cu.set (r:=w.heap.size+1) (i:=4) (v:=.int .i64 im.K) C4 (Nat.le_succ _);simp only[qa,qb,qc]at b5;clear b4 O4e O4f C4;have b6:=zk b5 5 (.int .i64 im.lo);have O6e:=OwnO.far (i:=5) (v:=.int .i64 im.lo) O5e b5 (by decide);have O6f:=OwnO.far (i:=5) (v:=.int .i64 im.lo) O5f b5 (by decide);have C6:=Cu.set (r:=w.heap.size+1) (i:=5) (v:=.int .i64 im.lo) C5 (Nat.le_succ _);simp only[qa,qb,qc]at b6;clear b5 O5e O5f C5;have b7:=zk b6 6 (.int .i64 im.hi);have O7e:=OwnO.far (i:=6) (v:=.int .i64 im.hi) O6e b6 (by decide)
 have O7f:=OwnO.far (i:=6) (v:=.int .i64 im.hi) O6f b6 (by decide);have C7:=Cu.set (r:=w.heap.size+1) (i:=6) (v:=.int .i64 im.hi) C6 (Nat.le_succ _);simp only[qa,qb,qc]at b7;clear b6 O6e O6f C6;obtain⟨Y,hY⟩:∃Y,Y=(((((((W.setCell ⟨w.heap.size+1,0,none⟩ (.int .i64 im.k)).setCell ⟨w.heap.size+1,1,none⟩ (.string ⟨im.n.toArray⟩)).setCell ⟨w.heap.size+1,2,none⟩ (.slice aE nE qE)).setCell ⟨w.heap.size+1,3,none⟩ (.slice aF nF qF)).setCell ⟨w.heap.size+1,4,none⟩ (.int .i64 im.K)).setCell ⟨w.heap.size+1,5,none⟩ (.int .i64 im.lo)).setCell ⟨w.heap.size+1,6,none⟩ (.int .i64 im.hi)):=⟨_,rfl⟩;rw[←hY]at b7 O7e O7f C7 ⊢;clear hY;have t0:=cl0 b7;have t1:=cl1 b7;have t2:=cl2 b7;have t3:=cl3 b7;have t4:=cl4 b7;have t5:=cl5 b7
 have t6:=cl6 b7;refine bodyPost_ret (v:=.agg (itA im (.slice aE nE qE) (.slice aF nF qF))) (by unfold itA;simp[results,Tryd.results67,go_sem,t0,t1,t2,t3,t4,t5,t6];try rfl) rfl ?_;rw[hm.out];exact⟨_,_,rfl,O7e,O7f,C7,Z.out.he,Z.out.hf,Z.out.ap⟩
theorem yk (B:Nat) (w:World):OwnO B w (.slice none 0 0) []:=⟨rfl,Or.inl ⟨rfl,rfl⟩⟩
end Go.Proofs.YtbdldkpifanaiaaDoor.Dq
namespace Go.Proofs.YtbdldkpifanaiaaDoor.Dq
open Go Go.RowKit Mem Syn Parse Par Draw
attribute [local go_sem ↓] Go.wp_at_zero Go.wp_at_succ
variable {B g:Nat} {w0 w w':World} {bs:List UInt8} {D:Sr} {s s':DS}
theorem rule0t {w1:World} {C n ca cb gi:Nat} {pa pb:Option Addr} {ev:Ev} {A:Code} {m:Im×DS} {v1 v3 v5:Value} {r:List Value} (hr:r.length=136) (C1:Hid (Cu B g w w1 bs D s)) (Kbox_1:Hid (w1.heap[w.heap.size]? =some (.cells #[.slice pa n ca,.slice pb n cb] 102))) (Kres_1:Hid (w1.heap[w.heap.size+1]? =some (.cells #[.int .i64 0,.string ⟨#[]⟩,.slice none 0 0,.slice none 0 0,.int .i64 0,.int .i64 0,.int .i64 0] 77))) (hgi:w.heap.size+2≤gi) (Kit_1:Hid (w1.heap[gi]? =some (.cells #[.int .i64 2,.string ⟨#[]⟩,.slice none 0 0,.slice none 0 0,.int .i64 0,.int .i64 0,.int .i64 0] 77))) (E1:Hid (zp C w1 (.slice pa n ca) (.slice pb n cb) ev)) (hn1:ev.length≤100) (hm:Hid (z8 D ev 0 s true 150=m))
  (hA:Hid (∀v1 v3 v5 r' wx s' im vE vF,r'.length=136→Rz B g w wx bs D s' gi im vE vF→m=(im,s')→Code.wp Tryd.prog A (bodyPost Tryd.prog Tryd.f67 (RI B g w bs D m)) (Fr g w gi true 2 150 v1 v3 v5 r') wx)):
  Code.wp Tryd.prog (.seq (sL r5) (.seq (sL (sR r5)) (.seq (sL (sR (sR r5))) (.seq (sL (sR (sR (sR r5)))) (.seq (sL (sR (sR (sR (sR r5))))) (.seq (sL (sR (sR (sR (sR (sR r5)))))) (.seq (sL (sR (sR (sR (sR (sR (sR r5))))))) A))))))) (bodyPost Tryd.prog Tryd.f67 (RI B g w bs D m)) (Fr g w gi true 2 150 v1 v3 v5 r) w1:=by
 obtain⟨i0,hi,hz0,hz1,hz2⟩:=info_parts yF;revert r;refine @zE 136 _ ?_
 iterate 136 (intro _)
 show Code.wp _ _ _ _ _
 conv=>arg 2;dsimp only[r5,r0,Tryd.f67,Option.getD,sR,sL,cT,cF,bk,lpo]
 conv=>arg 4;dsimp only[Fr]
 have y0:=cl0 Kbox_1.out;have y1:=cl1 Kbox_1.out;go_wp2_with fail;clear y0 y1;obtain⟨L,s2,hx⟩:=two (Zp D ev s);have hcl:=TH (Cu.self C1.out) E1.out hn1;rw[hx]at hcl;refine hcl.mono ?_;rintro e' w2 ⟨vx,rfl,ho,hc,hpx,hqx⟩;have hgb:=hc.gb;have C2:=Hm (Cu.in' C1.out hc);have QL:=Hm hx;have Kbox_2:=Hm (Cu.blk C1.out (by omega) Kbox_1.out hgb);have Kres_2:=Hm (Cu.blk C1.out (by omega) Kres_1.out hgb);have Kit_2:=Hm (Cu.blk C1.out (by omega) Kit_1.out hgb);have E2:=Hm (zp.cur E1.out C1.out hgb);have O_x_2:=Hm (ho.low (Cu.size C1.out));obtain⟨ax,nx,cx,rfl⟩:∃a n c,vx=.slice a n c:=by obtain⟨a,c,e,-⟩:=zj ho;exact⟨_,_,_,e⟩
 dsimp only at hpx hqx;clear Kbox_1 Kres_1 Kit_1 E1 hx hcl ho hc hgb;have a0:=cl2 Kit_2.out;have f0:=zb Kit_2.out 2;go_wp2_with fail;clear a0 f0;obtain⟨w3,hw⟩:∃W,W=w2.setCell ⟨gi,2,none⟩ (.slice ax nx cx):=⟨_,rfl⟩;have Kit_3:=Hm (zk Kit_2.out 2 (.slice ax nx cx));simp only[qa,qb,qc]at Kit_3;have O_x_3:=Hm (OwnO.far (i:=2) (v:=.slice ax nx cx) O_x_2.out Kit_2.out (by decide));have Kbox_3:=Hm (zn Kbox_2.out (show w.heap.size≠gi by omega) 2 (.slice ax nx cx));have Kres_3:=Hm (zn Kres_2.out (show w.heap.size+1≠gi by omega) 2 (.slice ax nx cx));have E3:=Hm (zp.far (i:=2) (v:=.slice ax nx cx) E2.out Kit_2.out (by decide) (by decide));have C3:=Hm (Cu.set (r:=gi) (i:=2) (v:=.slice ax nx cx) C2.out (by omega))
 rw[←hw]at Kit_3 C3 O_x_3 Kbox_3 Kres_3 E3 ⊢;clear O_x_2 Kbox_2 Kres_2 Kit_2 E2 hw;refine hA.out _ _ _ _ _ s2 (⟨2,[],L,[],0,0,0⟩) (.slice ax nx cx) (.slice none 0 0) ?_ ⟨C3.out,hgi,Kit_3.out,Kres_3.out,O_x_3.out,yk _ _,(by first|omega|(simp;done)|(simp;omega)),(by first|omega|(simp;done)|(simp;omega)),yX _⟩ ?_
 ·rfl
 ·rw[←hm.out]
  simp[z8,Xe,QL.out]
theorem rule0f {w1:World} {C n ca cb gi:Nat} {pa pb:Option Addr} {ev:Ev} {A:Code} {m:Im×DS} {v1 v3 v5:Value} {r:List Value} (hr:r.length=136) (C1:Hid (Cu B g w w1 bs D s)) (Kbox_1:Hid (w1.heap[w.heap.size]? =some (.cells #[.slice pa n ca,.slice pb n cb] 102))) (Kres_1:Hid (w1.heap[w.heap.size+1]? =some (.cells #[.int .i64 0,.string ⟨#[]⟩,.slice none 0 0,.slice none 0 0,.int .i64 0,.int .i64 0,.int .i64 0] 77))) (hgi:w.heap.size+2≤gi) (Kit_1:Hid (w1.heap[gi]? =some (.cells #[.int .i64 2,.string ⟨#[]⟩,.slice none 0 0,.slice none 0 0,.int .i64 0,.int .i64 0,.int .i64 0] 77))) (E1:Hid (zp C w1 (.slice pa n ca) (.slice pb n cb) ev)) (hn1:ev.length≤100) (hm:Hid (z8 D ev 0 s false 40=m))
  (hA:Hid (∀v1 v3 v5 r' wx s' im vE vF,r'.length=136→Rz B g w wx bs D s' gi im vE vF→m=(im,s')→Code.wp Tryd.prog A (bodyPost Tryd.prog Tryd.f67 (RI B g w bs D m)) (Fr g w gi false 2 40 v1 v3 v5 r') wx)):
  Code.wp Tryd.prog (.seq (sL r5) (.seq (sL (sR r5)) (.seq (sL (sR (sR r5))) (.seq (sL (sR (sR (sR r5)))) (.seq (sL (sR (sR (sR (sR r5))))) (.seq (sL (sR (sR (sR (sR (sR r5)))))) (.seq (sL (sR (sR (sR (sR (sR (sR r5))))))) A))))))) (bodyPost Tryd.prog Tryd.f67 (RI B g w bs D m)) (Fr g w gi false 2 40 v1 v3 v5 r) w1:=by
 obtain⟨i0,hi,hz0,hz1,hz2⟩:=info_parts yF;revert r;refine @zE 136 _ ?_
 iterate 136 (intro _)
 show Code.wp _ _ _ _ _
 conv=>arg 2;dsimp only[r5,r0,Tryd.f67,Option.getD,sR,sL,cT,cF,bk,lpo]
 conv=>arg 4;dsimp only[Fr]
 have y0:=cl0 Kbox_1.out;have y1:=cl1 Kbox_1.out;go_wp2_with fail;clear y0 y1;obtain⟨L,s2,hx⟩:=two (y7 D ev 3 s 2);have hcl:=Xc hn1 3 (by omega) s 2 _ (by omega) (Cu.self C1.out) E1.out;rw[hx]at hcl;refine hcl.mono ?_;rintro e' w2 ⟨vx,rfl,ho,hc,hpx,hqx⟩;have hgb:=hc.gb;have C2:=Hm (Cu.in' C1.out hc);have QL:=Hm hx;have Kbox_2:=Hm (Cu.blk C1.out (by omega) Kbox_1.out hgb);have Kres_2:=Hm (Cu.blk C1.out (by omega) Kres_1.out hgb);have Kit_2:=Hm (Cu.blk C1.out (by omega) Kit_1.out hgb);have E2:=Hm (zp.cur E1.out C1.out hgb);have O_x_2:=Hm (ho.low (Cu.size C1.out));obtain⟨ax,nx,cx,rfl⟩:∃a n c,vx=.slice a n c:=by obtain⟨a,c,e,-⟩:=zj ho;exact⟨_,_,_,e⟩
 dsimp only at hpx hqx;clear Kbox_1 Kres_1 Kit_1 E1 hx hcl ho hc hgb;have a0:=cl2 Kit_2.out;have f0:=zb Kit_2.out 2;go_wp2_with fail;clear a0 f0;obtain⟨w3,hw⟩:∃W,W=w2.setCell ⟨gi,2,none⟩ (.slice ax nx cx):=⟨_,rfl⟩;have Kit_3:=Hm (zk Kit_2.out 2 (.slice ax nx cx));simp only[qa,qb,qc]at Kit_3;have O_x_3:=Hm (OwnO.far (i:=2) (v:=.slice ax nx cx) O_x_2.out Kit_2.out (by decide));have Kbox_3:=Hm (zn Kbox_2.out (show w.heap.size≠gi by omega) 2 (.slice ax nx cx));have Kres_3:=Hm (zn Kres_2.out (show w.heap.size+1≠gi by omega) 2 (.slice ax nx cx));have E3:=Hm (zp.far (i:=2) (v:=.slice ax nx cx) E2.out Kit_2.out (by decide) (by decide));have C3:=Hm (Cu.set (r:=gi) (i:=2) (v:=.slice ax nx cx) C2.out (by omega))
 rw[←hw]at Kit_3 C3 O_x_3 Kbox_3 Kres_3 E3 ⊢;clear O_x_2 Kbox_2 Kres_2 Kit_2 E2 hw;refine hA.out _ _ _ _ _ s2 (⟨2,[],L,[],0,0,0⟩) (.slice ax nx cx) (.slice none 0 0) ?_ ⟨C3.out,hgi,Kit_3.out,Kres_3.out,O_x_3.out,yk _ _,(by first|omega|(simp;done)|(simp;omega)),(by first|omega|(simp;done)|(simp;omega)),yX _⟩ ?_
 ·rfl
 ·rw[←hm.out]
  simp[z8,Xe,QL.out]
theorem rule1t {w1:World} {C n ca cb gi:Nat} {pa pb:Option Addr} {ev:Ev} {A:Code} {m:Im×DS} {v1 v3 v5:Value} {r:List Value} (hr:r.length=136) (C1:Hid (Cu B g w w1 bs D s)) (Kbox_1:Hid (w1.heap[w.heap.size]? =some (.cells #[.slice pa n ca,.slice pb n cb] 102))) (Kres_1:Hid (w1.heap[w.heap.size+1]? =some (.cells #[.int .i64 0,.string ⟨#[]⟩,.slice none 0 0,.slice none 0 0,.int .i64 0,.int .i64 0,.int .i64 0] 77))) (hgi:w.heap.size+2≤gi) (Kit_1:Hid (w1.heap[gi]? =some (.cells #[.int .i64 3,.string ⟨#[]⟩,.slice none 0 0,.slice none 0 0,.int .i64 0,.int .i64 0,.int .i64 0] 77))) (E1:Hid (zp C w1 (.slice pa n ca) (.slice pb n cb) ev)) (hn1:ev.length≤100) (hm:Hid (z8 D ev 1 s true 150=m))
  (hA:Hid (∀v1 v3 v5 r' wx s' im vE vF,r'.length=136→Rz B g w wx bs D s' gi im vE vF→m=(im,s')→Code.wp Tryd.prog A (bodyPost Tryd.prog Tryd.f67 (RI B g w bs D m)) (Fr g w gi true 3 150 v1 v3 v5 r') wx)):
  Code.wp Tryd.prog (.seq (sL r5) (.seq (sL (sR r5)) (.seq (sL (sR (sR r5))) (.seq (sL (sR (sR (sR r5)))) (.seq (sL (sR (sR (sR (sR r5))))) (.seq (sL (sR (sR (sR (sR (sR r5)))))) (.seq (sL (sR (sR (sR (sR (sR (sR r5))))))) A))))))) (bodyPost Tryd.prog Tryd.f67 (RI B g w bs D m)) (Fr g w gi true 3 150 v1 v3 v5 r) w1:=by
 obtain⟨i0,hi,hz0,hz1,hz2⟩:=info_parts yF;revert r;refine @zE 136 _ ?_
 iterate 136 (intro _)
 show Code.wp _ _ _ _ _
 conv=>arg 2;dsimp only[r5,r0,Tryd.f67,Option.getD,sR,sL,cT,cF,bk,lpo]
 conv=>arg 4;dsimp only[Fr]
 have y0:=cl0 Kbox_1.out;have y1:=cl1 Kbox_1.out;go_wp2_with fail;clear y0 y1;obtain⟨L,s2,hx⟩:=two (Zp D ev s);have hcl:=TH (Cu.self C1.out) E1.out hn1;rw[hx]at hcl;refine hcl.mono ?_;rintro e' w2 ⟨vx,rfl,ho,hc,hpx,hqx⟩;have hgb:=hc.gb;have C2:=Hm (Cu.in' C1.out hc);have QL:=Hm hx;have Kbox_2:=Hm (Cu.blk C1.out (by omega) Kbox_1.out hgb);have Kres_2:=Hm (Cu.blk C1.out (by omega) Kres_1.out hgb);have Kit_2:=Hm (Cu.blk C1.out (by omega) Kit_1.out hgb);have E2:=Hm (zp.cur E1.out C1.out hgb);have O_x_2:=Hm (ho.low (Cu.size C1.out));obtain⟨ax,nx,cx,rfl⟩:∃a n c,vx=.slice a n c:=by obtain⟨a,c,e,-⟩:=zj ho;exact⟨_,_,_,e⟩
 dsimp only at hpx hqx;clear Kbox_1 Kres_1 Kit_1 E1 hx hcl ho hc hgb;have a0:=cl2 Kit_2.out;have f0:=zb Kit_2.out 2;go_wp2_with fail;clear a0 f0;obtain⟨w3,hw⟩:∃W,W=w2.setCell ⟨gi,2,none⟩ (.slice ax nx cx):=⟨_,rfl⟩;have Kit_3:=Hm (zk Kit_2.out 2 (.slice ax nx cx));simp only[qa,qb,qc]at Kit_3;have O_x_3:=Hm (OwnO.far (i:=2) (v:=.slice ax nx cx) O_x_2.out Kit_2.out (by decide));have Kbox_3:=Hm (zn Kbox_2.out (show w.heap.size≠gi by omega) 2 (.slice ax nx cx));have Kres_3:=Hm (zn Kres_2.out (show w.heap.size+1≠gi by omega) 2 (.slice ax nx cx));have E3:=Hm (zp.far (i:=2) (v:=.slice ax nx cx) E2.out Kit_2.out (by decide) (by decide));have C3:=Hm (Cu.set (r:=gi) (i:=2) (v:=.slice ax nx cx) C2.out (by omega))
 rw[←hw]at Kit_3 C3 O_x_3 Kbox_3 Kres_3 E3 ⊢;clear O_x_2 Kbox_2 Kres_2 Kit_2 E2 hw;refine(yz (3) _).mono ?_;rintro e' w4 ⟨vy,rfl,ho,hb⟩;have Kbox_4:=Hm (ze Kbox_3.out hb);have Kres_4:=Hm (ze Kres_3.out hb);have Kit_4:=Hm (ze Kit_3.out hb);have E4:=Hm (zp.below E3.out hb);have C4:=Hm (Cu.below C3.out hb);have O_y_4:=Hm (ho.low (Cu.size C3.out));obtain⟨ay,ny,cy,rfl⟩:∃a n c,vy=.slice a n c:=by obtain⟨a,c,e,-⟩:=zj ho;exact⟨_,_,_,e⟩
 clear Kbox_3 Kres_3 Kit_3 E3 ho hb;go_wp2_with fail;refine(zQ C4.out 130 (by omega) (by omega)).mono ?_;rintro e' w5 ⟨u,s5,hx,lu,rfl,hc,hgb⟩;have C5:=Hm hc;have Qu:=Hm hx;have O_y_5:=Hm (Cu.own C4.out O_y_4.out hgb);have Kbox_5:=Hm (Cu.blk C4.out (by omega) Kbox_4.out hgb);have Kres_5:=Hm (Cu.blk C4.out (by omega) Kres_4.out hgb);have Kit_5:=Hm (Cu.blk C4.out (by omega) Kit_4.out hgb);have E5:=Hm (zp.cur E4.out C4.out hgb);clear O_y_4 Kbox_4 Kres_4 Kit_4 E4 hx hc hgb;have ew:IntKind.i64.wrap (50+(u:Int))=50+(u:Int):=by rw[IntKind.wrap_i64];omega
 go_wp2_with fail;refine(Yw (50+(u:Int)) _).mono ?_;rintro e' w6 ⟨vz,rfl,ho,hb⟩;have O_y_6:=Hm (OwnO.below O_y_5.out hb);have Kbox_6:=Hm (ze Kbox_5.out hb);have Kres_6:=Hm (ze Kres_5.out hb);have Kit_6:=Hm (ze Kit_5.out hb);have E6:=Hm (zp.below E5.out hb);have C6:=Hm (Cu.below C5.out hb);have O_z_6:=Hm (ho.low (Cu.size C5.out));obtain⟨az,nz,cz,rfl⟩:∃a n c,vz=.slice a n c:=by obtain⟨a,c,e,-⟩:=zj ho;exact⟨_,_,_,e⟩
 clear O_y_5 Kbox_5 Kres_5 Kit_5 E5 ho hb;go_wp2_with fail;refine(Zv (4) _ O_y_6.out O_z_6.out (by first|omega|(simp;done)|(simp;omega)) (by first|omega|(simp;done)|(simp;omega)) (by first|omega|(simp;done)|(simp;omega)) (by first|omega|(simp;done)|(simp;omega))).mono ?_;rintro e' w7 ⟨vq,rfl,ho,hb⟩;have O_y_7:=Hm (OwnO.below O_y_6.out hb);have O_z_7:=Hm (OwnO.below O_z_6.out hb);have Kbox_7:=Hm (ze Kbox_6.out hb);have Kres_7:=Hm (ze Kres_6.out hb);have Kit_7:=Hm (ze Kit_6.out hb);have E7:=Hm (zp.below E6.out hb);have C7:=Hm (Cu.below C6.out hb);have O_q_7:=Hm (ho.low (Cu.size C6.out));obtain⟨aq,nq,cq,rfl⟩:∃a n c,vq=.slice a n c:=by obtain⟨a,c,e,-⟩:=zj ho;exact⟨_,_,_,e⟩
 clear O_y_6 O_z_6 Kbox_6 Kres_6 Kit_6 E6 ho hb;have a0:=cl2 Kit_7.out;have f0:=zb Kit_7.out 2;go_wp2_with fail;clear a0 f0;obtain⟨w8,hw⟩:∃W,W=w7.setCell ⟨gi,2,none⟩ (.slice aq nq cq):=⟨_,rfl⟩;have Kit_8:=Hm (zk Kit_7.out 2 (.slice aq nq cq));simp only[qa,qb,qc]at Kit_8;have O_q_8:=Hm (OwnO.far (i:=2) (v:=.slice aq nq cq) O_q_7.out Kit_7.out (by decide));have Kbox_8:=Hm (zn Kbox_7.out (show w.heap.size≠gi by omega) 2 (.slice aq nq cq));have Kres_8:=Hm (zn Kres_7.out (show w.heap.size+1≠gi by omega) 2 (.slice aq nq cq));have E8:=Hm (zp.far (i:=2) (v:=.slice aq nq cq) E7.out Kit_7.out (by decide) (by decide));have C8:=Hm (Cu.set (r:=gi) (i:=2) (v:=.slice aq nq cq) C7.out (by omega))
 rw[←hw]at Kit_8 C8 O_q_8 Kbox_8 Kres_8 E8 ⊢;clear O_q_7 Kbox_7 Kres_7 Kit_7 E7 hw;refine hA.out _ _ _ _ _ s5 (⟨3,[],[⟨3,3,[]⟩]++[⟨1,50+(u:Int),[]⟩]++[⟨9,4,[]⟩],[],0,0,0⟩) (.slice aq nq cq) (.slice none 0 0) ?_ ⟨C8.out,hgi,Kit_8.out,Kres_8.out,O_q_8.out,yk _ _,(by first|omega|(simp;done)|(simp;omega)),(by first|omega|(simp;done)|(simp;omega)),yX _⟩ ?_
 ·rfl
 ·rw[←hm.out]
  simp[z8,Xe,QL.out,Qu.out]
theorem rule1f {w1:World} {C n ca cb gi:Nat} {pa pb:Option Addr} {ev:Ev} {A:Code} {m:Im×DS} {v1 v3 v5:Value} {r:List Value} (hr:r.length=136) (C1:Hid (Cu B g w w1 bs D s)) (Kbox_1:Hid (w1.heap[w.heap.size]? =some (.cells #[.slice pa n ca,.slice pb n cb] 102))) (Kres_1:Hid (w1.heap[w.heap.size+1]? =some (.cells #[.int .i64 0,.string ⟨#[]⟩,.slice none 0 0,.slice none 0 0,.int .i64 0,.int .i64 0,.int .i64 0] 77))) (hgi:w.heap.size+2≤gi) (Kit_1:Hid (w1.heap[gi]? =some (.cells #[.int .i64 3,.string ⟨#[]⟩,.slice none 0 0,.slice none 0 0,.int .i64 0,.int .i64 0,.int .i64 0] 77))) (E1:Hid (zp C w1 (.slice pa n ca) (.slice pb n cb) ev)) (hn1:ev.length≤100) (hm:Hid (z8 D ev 1 s false 40=m))
  (hA:Hid (∀v1 v3 v5 r' wx s' im vE vF,r'.length=136→Rz B g w wx bs D s' gi im vE vF→m=(im,s')→Code.wp Tryd.prog A (bodyPost Tryd.prog Tryd.f67 (RI B g w bs D m)) (Fr g w gi false 3 40 v1 v3 v5 r') wx)):
  Code.wp Tryd.prog (.seq (sL r5) (.seq (sL (sR r5)) (.seq (sL (sR (sR r5))) (.seq (sL (sR (sR (sR r5)))) (.seq (sL (sR (sR (sR (sR r5))))) (.seq (sL (sR (sR (sR (sR (sR r5)))))) (.seq (sL (sR (sR (sR (sR (sR (sR r5))))))) A))))))) (bodyPost Tryd.prog Tryd.f67 (RI B g w bs D m)) (Fr g w gi false 3 40 v1 v3 v5 r) w1:=by
 obtain⟨i0,hi,hz0,hz1,hz2⟩:=info_parts yF;revert r;refine @zE 136 _ ?_
 iterate 136 (intro _)
 show Code.wp _ _ _ _ _
 conv=>arg 2;dsimp only[r5,r0,Tryd.f67,Option.getD,sR,sL,cT,cF,bk,lpo]
 conv=>arg 4;dsimp only[Fr]
 have y0:=cl0 Kbox_1.out;have y1:=cl1 Kbox_1.out;go_wp2_with fail;clear y0 y1;obtain⟨L,s2,hx⟩:=two (y7 D ev 3 s 2);have hcl:=Xc hn1 3 (by omega) s 2 _ (by omega) (Cu.self C1.out) E1.out;rw[hx]at hcl;refine hcl.mono ?_;rintro e' w2 ⟨vx,rfl,ho,hc,hpx,hqx⟩;have hgb:=hc.gb;have C2:=Hm (Cu.in' C1.out hc);have QL:=Hm hx;have Kbox_2:=Hm (Cu.blk C1.out (by omega) Kbox_1.out hgb);have Kres_2:=Hm (Cu.blk C1.out (by omega) Kres_1.out hgb);have Kit_2:=Hm (Cu.blk C1.out (by omega) Kit_1.out hgb);have E2:=Hm (zp.cur E1.out C1.out hgb);have O_x_2:=Hm (ho.low (Cu.size C1.out));obtain⟨ax,nx,cx,rfl⟩:∃a n c,vx=.slice a n c:=by obtain⟨a,c,e,-⟩:=zj ho;exact⟨_,_,_,e⟩
 dsimp only at hpx hqx;clear Kbox_1 Kres_1 Kit_1 E1 hx hcl ho hc hgb;have a0:=cl2 Kit_2.out;have f0:=zb Kit_2.out 2;go_wp2_with fail;clear a0 f0;obtain⟨w3,hw⟩:∃W,W=w2.setCell ⟨gi,2,none⟩ (.slice ax nx cx):=⟨_,rfl⟩;have Kit_3:=Hm (zk Kit_2.out 2 (.slice ax nx cx));simp only[qa,qb,qc]at Kit_3;have O_x_3:=Hm (OwnO.far (i:=2) (v:=.slice ax nx cx) O_x_2.out Kit_2.out (by decide));have Kbox_3:=Hm (zn Kbox_2.out (show w.heap.size≠gi by omega) 2 (.slice ax nx cx));have Kres_3:=Hm (zn Kres_2.out (show w.heap.size+1≠gi by omega) 2 (.slice ax nx cx));have E3:=Hm (zp.far (i:=2) (v:=.slice ax nx cx) E2.out Kit_2.out (by decide) (by decide));have C3:=Hm (Cu.set (r:=gi) (i:=2) (v:=.slice ax nx cx) C2.out (by omega))
 rw[←hw]at Kit_3 C3 O_x_3 Kbox_3 Kres_3 E3 ⊢;clear O_x_2 Kbox_2 Kres_2 Kit_2 E2 hw;refine hA.out _ _ _ _ _ s2 (⟨3,[],L,[],0,0,0⟩) (.slice ax nx cx) (.slice none 0 0) ?_ ⟨C3.out,hgi,Kit_3.out,Kres_3.out,O_x_3.out,yk _ _,(by first|omega|(simp;done)|(simp;omega)),(by first|omega|(simp;done)|(simp;omega)),yX _⟩ ?_
 ·rfl
 ·rw[←hm.out]
  simp[z8,Xe,QL.out]
end Go.Proofs.YtbdldkpifanaiaaDoor.Dq
