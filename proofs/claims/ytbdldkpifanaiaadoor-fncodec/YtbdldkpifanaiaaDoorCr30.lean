import Derived.Test.YtbdldkpifanaiaaDoorCr29
set_option maxHeartbeats 6400000
set_option maxRecDepth 1000000
set_option linter.unusedVariables false
set_option linter.unusedSimpArgs false
open Nat renaming le_refl → qn, le_trans → qo, lt_of_lt_of_le → qp, le_of_lt → qq
namespace Go.Proofs.YtbdldkpifanaiaaDoor.Dq
open Go Go.RowKit Mem Syn Parse Par Draw
attribute [local go_sem ↓] Go.wp_at_zero Go.wp_at_succ
def sL:Code→Code
 |.seq a _=>a
 |c=>c
def sR:Code→Code
 |.seq _ b=>b
 |c=>c
def cT:Code→Code
 |.cond _ a _=>a
 |c=>c
def cF:Code→Code
 |.cond _ _ b=>b
 |c=>c
def bk:Code→Code
 |.block _ a=>a
 |c=>c
def lpo:Code→Code
 |.loop a=>a
 |c=>c
def elim:Nat→(List Value→Prop)→Prop
 |0,m=>m []
 |n+1,m=>∀u,elim n (fun l=>m (u::l))
theorem zE:∀(n:Nat) (m:List Value→Prop),elim n m→∀l:List Value,l.length=n→m l
 |0,m,h,[],_=>h
 |n+1,m,h,u::l,e=>zE n _ (h u) l (by simpa using e)
theorem two {α β:Type} (x:α×β):∃a b,x=(a,b):=⟨x.1,x.2,rfl⟩
structure Sr where
 bel:DS→Nat→Nat×DS
 once:DS→Nat→Bool×DS
structure Cu (B g:Nat) (w0 w:World) (bs:List UInt8) (D:Sr) (s:DS):Prop where
 d:DC B g w bs s
 gb:w0.grownBy w (some g)
 lB:B≤g
 lg:g<w0.heap.size
 len:bs.length≤1048576
 hb:∀s n,D.bel s n=yf bs s n
 ho:∀s n,D.once s n=Zb bs s n
variable {B g:Nat} {w0 w w':World} {bs:List UInt8} {D:Sr} {s s':DS}
theorem Cu.size (h:Cu B g w0 w bs D s):w0.heap.size≤w.heap.size:=h.gb.size
theorem Cu.call (h:Cu B g w0 w bs D s) (d:DC B g w' bs s') (hg:w.grownBy w' (some g)):Cu B g w0 w' bs D s':=⟨d,xe h.gb hg,h.lB,h.lg,h.len,h.hb,h.ho⟩
theorem Cu.below (h:Cu B g w0 w bs D s) (hb:Below w.heap.size w w'):Cu B g w0 w' bs D s:=⟨h.d.keep (qo h.lB (qq h.d.lt)) hb,xe h.gb (xA hb),h.lB,h.lg,h.len,h.hb,h.ho⟩
theorem Cu.al (h:Cu B g w0 w bs D s) (o:Obj):Cu B g w0 (w.alloc o) bs D s:=h.below (zf (Below.refl _ _) _)
theorem Cu.own {B':Nat} {v:Value} {L:List Po} (h:Cu B g w0 w bs D s) (ho:OwnO B' w v L) (hg:w.grownBy w' (some g)):OwnO B' w' v L:=ho.cur h.d hg
theorem Cu.blk {r:Nat} {o:Obj} (h:Cu B g w0 w bs D s) (hr:w0.heap.size≤r) (hx:w.heap[r]? =some o) (hg:w.grownBy w' (some g)):w'.heap[r]? =some o:=by
 rw[hg.block r (zu hx) (by have:=h.lg;intro e;injection e with e;omega)];exact hx
theorem Cu.self (h:Cu B g w0 w bs D s):Cu B g w w bs D s:=⟨h.d,World.grownBy.refl _ _,h.lB,qp h.lg h.size,h.len,h.hb,h.ho⟩
theorem Cu.in' {w1:World} (h:Cu B g w0 w bs D s) (k:Cu B g w w1 bs D s'):Cu B g w0 w1 bs D s':=⟨k.d,xe h.gb k.gb,h.lB,h.lg,h.len,h.hb,h.ho⟩
theorem zQ (h:Cu B g w0 w bs D s) (n:Nat) (h0:0<n) (h1:n≤1000000):Calls Tryd.prog 22 #[.pointer (some ⟨g,0,none⟩),.int .i64 (n:Int)] w fun e w'=>∃x s',D.bel s n=(x,s')∧x<n∧e=.returned (.int .i64 (x:Int))∧Cu B g w0 w' bs D s'∧w.grownBy w' (some g):=by
 refine(Wx B g bs s n w h.lB h.d h.len h0 h1).mono ?_;rintro e w' ⟨rfl,d,hg⟩;exact⟨_,_,(h.hb s n).trans (Prod.ext rfl rfl),ZK _ _ h0,rfl,h.call d hg,hg⟩
theorem Zo (h:Cu B g w0 w bs D s) (n:Nat) (h0:0<n) (h1:n≤1000000):Calls Tryd.prog 28 #[.pointer (some ⟨g,0,none⟩),.int .i64 (n:Int)] w fun e w'=>∃x s',D.once s n=(x,s')∧e=.returned (.bool x)∧Cu B g w0 w' bs D s'∧w.grownBy w' (some g):=by
 refine(onceD B g bs s n w h.lB h.d h.len h0 h1).mono ?_;rintro e w' ⟨rfl,d,hg⟩;exact⟨_,_,(h.ho s n).trans (Prod.ext rfl rfl),rfl,h.call d hg,hg⟩
def RO (B g:Nat) (w:World) (bs:List UInt8) (D:Sr) (r:List Po×DS) (m:Nat) (e:Ending) (w':World):Prop:=∃v,e=.returned v∧OwnO w.heap.size w' v r.1∧Cu B g w w' bs D r.2∧0<r.1.length∧r.1.length≤m
theorem RO.mk' {L:List Po} {m:Nat} {r:List Po×DS} {v:Value} (hr:r=(L,s')) (ho:OwnO w.heap.size w' v L) (hc:Cu B g w w' bs D s') (h0:0<L.length) (h1:L.length≤m):RO B g w bs D r m (.returned v) w':=by
 subst hr;exact⟨v,rfl,ho,hc,h0,h1⟩
abbrev Ev:=List (List UInt8×Nat)
structure zp (C:Nat) (w:World) (a b:Value) (ev:Ev):Prop where
 n:w.ownsRow C 9 1 a ev.length (ev.map fun x=>.string ⟨x.1.toArray⟩)
 t:w.ownsRow C 2 1 b ev.length (ev.map fun x=>.int .i64 (x.2:Int))
theorem zp.below {C:Nat} {a b:Value} {ev:Ev} (h:zp C w a b ev) (hb:Below w.heap.size w w'):zp C w' a b ev:=⟨z9 h.n hb,z9 h.t hb⟩
theorem zp.cur {C:Nat} {a b:Value} {ev:Ev} (h:zp C w a b ev) (c:Cu B g w0 w bs D s) (hg:w.grownBy w' (some g)):zp C w' a b ev:=⟨xq h.n (by decide) c.d hg,xq h.t (by decide) c.d hg⟩
def xd (D:Sr) (s:DS) (t:Nat):List Po×DS:=
 if t=1 then
  match D.bel s 4 with
  |(k,s1)=>
   if k=0 then
    match D.bel s1 40 with
    |(x,s2)=>([⟨1,(x:Int),[]⟩],s2)
   else
    match (if k=1 then D.once s1 6 else (false,s1))with
    |(o,s2)=>
     if o=true then
      match D.bel s2 2 with
      |(x,s3)=>([⟨1,999999999- (x:Int),[]⟩],s3)
     else
      match D.bel s2 11 with
      |(x,s3)=>([⟨3,(x:Int),[]⟩],s3)
 else
  match D.bel s 8 with
  |(k,s1)=>
   if k=0 then
    match D.bel s1 2 with
    |(x,s2)=>([⟨6,(x:Int),[]⟩],s2)
   else if k<4 then
    match D.bel s1 5 with
    |(x,s2)=>([⟨4,(x:Int),[]⟩],s2)
   else if k<6 then
    match D.bel s1 5 with
    |(x,s2)=>([⟨5,(x:Int),[]⟩],s2)
   else
    match D.bel s1 2 with
    |(x,s2)=>([⟨3,11+(x:Int),[]⟩],s2)
def yW (D:Sr) (s:DS) (t:Nat) (ev:Ev):List Po×DS:=
 match (if 0<ev.length then D.once s 3 else (false,s))with
 |(o,s1)=>
  if o=true then
   match D.bel s1 ev.length with
   |(j,s2)=>if (ev.getD j ([],0)).2=t then ([⟨2,0,(ev.getD j ([],0)).1⟩],s2)else xd D s2 t
  else xd D s1 t
noncomputable def lf0:Code:=Tryd.f73.body.getD .skip
def Fl (g t:Nat) (v2 v3 v4 v5 v6 v7 v8 v9:Value) (r:List Value):Act:={tmps:=(.pointer (some ⟨g,0,none⟩)::.int .i64 (t:Int)::v2::v3::v4::v5::v6::v7::v8::v9::r).toArray,defers:=[]}
theorem leafR1 {W:World} {v2 v3 v4 v5 v6 v7 v8 v9:Value} {r:List Value} (hr:r.length=73) (C0:Hid (Cu B g w W bs D s)) {m:List Po×DS} (hm:Hid (xd D s 1=m)):Code.wp Tryd.prog (sR (sR lf0)) (bodyPost Tryd.prog Tryd.f73 (RO B g w bs D m 1)) (Fl g 1 v2 v3 v4 v5 v6 v7 v8 v9 r) W:=by
 obtain⟨i0,hi,hz0,hz1,hz2⟩:=info_parts yF;revert r;refine @zE 73 _ ?_
 iterate 73 (intro _)
 show Code.wp _ _ _ _ _
 conv=>arg 2;dsimp only[lf0,Tryd.f73,Option.getD,sR,sL,cT,cF,bk,lpo]
 conv=>arg 4;dsimp only[Fl]
 go_wp2_with fail;refine(zQ C0.out 4 (by omega) (by omega)).mono ?_;rintro e wC1 ⟨k,s1,hk,lk,rfl,hc,hgb⟩;have C1:=Hm hc;have Qk:=Hm hk;clear hc hgb hk;by_cases h0:k=0
 ·subst h0
  have k00:((0:Nat):Int)=0:=rfl;go_wp2_with fail;refine(zQ C1.out 40 (by omega) (by omega)).mono ?_;rintro e wC2 ⟨x,s2,hx,lx,rfl,hc,hgb⟩;have C2:=Hm hc;have Qx:=Hm hx;clear hc hgb hx;go_wp2_with fail;refine(Yw (x:Int) _).mono ?_;rintro e wz ⟨v,rfl,ho,hb⟩;have OZ:=Hm (ho.low (Cu.size C2.out));have CZ:=Hm (Cu.below C2.out hb);obtain⟨az,bz,rfl,-⟩:=zj ho;clear ho hb;go_wp2;go_ret;refine RO.mk' (L:=[⟨1,(x:Int),[]⟩]) (s':=s2) ?_ OZ.out CZ.out (by simp) (by simp);rw[←hm.out];simp[xd,Qk.out,Qx.out]
 have kk0:((k:Int)==0)=false:=by simp;omega
 by_cases h1:k=1
 ·subst h1
  go_wp2_with fail;refine(Zo C1.out 6 (by omega) (by omega)).mono ?_;rintro e wC2 ⟨b,s2,hb,rfl,hc,hgb⟩;have C2:=Hm hc;have Qb:=Hm hb;clear hc hgb hb
  cases b with
  |true=>
   go_wp2_with fail;refine(zQ C2.out 2 (by omega) (by omega)).mono ?_;rintro e wC3 ⟨x,s3,hx,lx,rfl,hc,hgb⟩;have C3:=Hm hc;have Qx:=Hm hx;clear hc hgb hx;have ew:IntKind.i64.wrap (999999999- (x:Int))=999999999- (x:Int):=by rw[IntKind.wrap_i64];omega
   go_wp2_with fail;refine(Yw (999999999- (x:Int)) _).mono ?_;rintro e wz ⟨v,rfl,ho,hb⟩;have OZ:=Hm (ho.low (Cu.size C3.out));have CZ:=Hm (Cu.below C3.out hb);obtain⟨az,bz,rfl,-⟩:=zj ho;clear ho hb;go_wp2;go_ret;refine RO.mk' (L:=[⟨1,999999999- (x:Int),[]⟩]) (s':=s3) ?_ OZ.out CZ.out (by simp) (by simp);rw[←hm.out];simp[xd,Qk.out,Qb.out,Qx.out]
  |false=>
   go_wp2_with fail;refine(zQ C2.out 11 (by omega) (by omega)).mono ?_;rintro e wC3 ⟨x,s3,hx,lx,rfl,hc,hgb⟩;have C3:=Hm hc;have Qx:=Hm hx;clear hc hgb hx;go_wp2_with fail;refine(yz (x:Int) _).mono ?_;rintro e wz ⟨v,rfl,ho,hb⟩;have OZ:=Hm (ho.low (Cu.size C3.out));have CZ:=Hm (Cu.below C3.out hb);obtain⟨az,bz,rfl,-⟩:=zj ho;clear ho hb;go_wp2;go_ret;refine RO.mk' (L:=[⟨3,(x:Int),[]⟩]) (s':=s3) ?_ OZ.out CZ.out (by simp) (by simp);rw[←hm.out];simp[xd,Qk.out,Qb.out,Qx.out]
 have kk1:((k:Int)==1)=false:=by simp;omega
 go_wp2_with fail;refine(zQ C1.out 11 (by omega) (by omega)).mono ?_;rintro e wC3 ⟨x,s3,hx,lx,rfl,hc,hgb⟩;have C3:=Hm hc;have Qx:=Hm hx;clear hc hgb hx;go_wp2_with fail;refine(yz (x:Int) _).mono ?_;rintro e wz ⟨v,rfl,ho,hb⟩;have OZ:=Hm (ho.low (Cu.size C3.out));have CZ:=Hm (Cu.below C3.out hb);obtain⟨az,bz,rfl,-⟩:=zj ho;clear ho hb;go_wp2;go_ret;refine RO.mk' (L:=[⟨3,(x:Int),[]⟩]) (s':=s3) ?_ OZ.out CZ.out (by simp) (by simp);rw[←hm.out];simp[xd,Qk.out,h0,h1,Qx.out]
theorem leafR2 {W:World} {v2 v3 v4 v5 v6 v7 v8 v9:Value} {r:List Value} (hr:r.length=73) (C0:Hid (Cu B g w W bs D s)) {m:List Po×DS} (hm:Hid (xd D s 2=m)):Code.wp Tryd.prog (sR (sR lf0)) (bodyPost Tryd.prog Tryd.f73 (RO B g w bs D m 1)) (Fl g 2 v2 v3 v4 v5 v6 v7 v8 v9 r) W:=by
 obtain⟨i0,hi,hz0,hz1,hz2⟩:=info_parts yF;revert r;refine @zE 73 _ ?_
 iterate 73 (intro _)
 show Code.wp _ _ _ _ _
 conv=>arg 2;dsimp only[lf0,Tryd.f73,Option.getD,sR,sL,cT,cF,bk,lpo]
 conv=>arg 4;dsimp only[Fl]
 go_wp2_with fail;refine(zQ C0.out 8 (by omega) (by omega)).mono ?_;rintro e wC1 ⟨k,s1,hk,lk,rfl,hc,hgb⟩;have C1:=Hm hc;have Qk:=Hm hk;clear hc hgb hk;by_cases h0:k=0
 ·subst h0
  go_wp2_with fail;refine(zQ C1.out 2 (by omega) (by omega)).mono ?_;rintro e wC2 ⟨x,s2,hx,lx,rfl,hc,hgb⟩;have C2:=Hm hc;have Qx:=Hm hx;clear hc hgb hx;go_wp2_with (refine zv rfl 75 97 _ rfl i0 _ Tryd.underlying75 hi hz0 3 hz1 (Po.cells ⟨6,(x:Int),[]⟩) rfl (yK _ _ _) (by decide) (by decide) ?_);go_ret;refine RO.mk' (L:=[⟨6,(x:Int),[]⟩]) (s':=s2) ?_ ((xY _ ⟨6,(x:Int),[]⟩).low (Cu.size C2.out)) (Cu.al C2.out _) (by simp) (by simp);rw[←hm.out];simp[xd,Qk.out,Qx.out]
 have kk0:((k:Int)==0)=false:=by simp;omega
 by_cases h1:k<4
 ·have mk4:(k:Int)<4:=by omega
  go_wp2_with fail;refine(zQ C1.out 5 (by omega) (by omega)).mono ?_;rintro e wC2 ⟨x,s2,hx,lx,rfl,hc,hgb⟩;have C2:=Hm hc;have Qx:=Hm hx;clear hc hgb hx;go_wp2_with (refine zv rfl 75 97 _ rfl i0 _ Tryd.underlying75 hi hz0 3 hz1 (Po.cells ⟨4,(x:Int),[]⟩) rfl (yK _ _ _) (by decide) (by decide) ?_);go_ret;refine RO.mk' (L:=[⟨4,(x:Int),[]⟩]) (s':=s2) ?_ ((xY _ ⟨4,(x:Int),[]⟩).low (Cu.size C2.out)) (Cu.al C2.out _) (by simp) (by simp);rw[←hm.out];simp[xd,Qk.out,Qx.out,h0,h1]
 have mk4:decide ((k:Int)<4)=false:=by simp;omega
 by_cases h2:k<6
 ·have mk6:(k:Int)<6:=by omega
  go_wp2_with fail;refine(zQ C1.out 5 (by omega) (by omega)).mono ?_;rintro e wC2 ⟨x,s2,hx,lx,rfl,hc,hgb⟩;have C2:=Hm hc;have Qx:=Hm hx;clear hc hgb hx;go_wp2_with (refine zv rfl 75 97 _ rfl i0 _ Tryd.underlying75 hi hz0 3 hz1 (Po.cells ⟨5,(x:Int),[]⟩) rfl (yK _ _ _) (by decide) (by decide) ?_);go_ret;refine RO.mk' (L:=[⟨5,(x:Int),[]⟩]) (s':=s2) ?_ ((xY _ ⟨5,(x:Int),[]⟩).low (Cu.size C2.out)) (Cu.al C2.out _) (by simp) (by simp);rw[←hm.out];simp[xd,Qk.out,Qx.out,h0,h1,h2]
 have mk6:decide ((k:Int)<6)=false:=by simp;omega
 go_wp2_with fail;refine(zQ C1.out 2 (by omega) (by omega)).mono ?_;rintro e wC2 ⟨x,s2,hx,lx,rfl,hc,hgb⟩;have C2:=Hm hc;have Qx:=Hm hx;clear hc hgb hx;have ew:IntKind.i64.wrap (11+(x:Int))=11+(x:Int):=by rw[IntKind.wrap_i64];omega
 go_wp2_with fail;refine(yz (11+(x:Int)) _).mono ?_;rintro e wz ⟨v,rfl,ho,hb⟩;have OZ:=Hm (ho.low (Cu.size C2.out));have CZ:=Hm (Cu.below C2.out hb);obtain⟨az,bz,rfl,-⟩:=zj ho;clear ho hb;go_wp2;go_ret;refine RO.mk' (L:=[⟨3,11+(x:Int),[]⟩]) (s':=s2) ?_ OZ.out CZ.out (by simp) (by simp);rw[←hm.out];simp[xd,Qk.out,h0,h1,h2,Qx.out]
end Go.Proofs.YtbdldkpifanaiaaDoor.Dq
namespace Go.Proofs.YtbdldkpifanaiaaDoor.Dq
open Go Go.RowKit Mem Syn Parse Par Draw
attribute [local go_sem ↓] Go.wp_at_zero Go.wp_at_succ
variable {B g:Nat} {w0 w w':World} {bs:List UInt8} {D:Sr} {s s':DS}
theorem Xt (v u x:Value) (n:Nat):#[v,u,x]++Array.replicate n undef=(v::u::x::List.replicate n undef).toArray:=by
 apply Array.ext';simp
theorem WQ (v u x y:Value) (n:Nat):#[v,u,x,y]++Array.replicate n undef=(v::u::x::y::List.replicate n undef).toArray:=by
 apply Array.ext';simp
theorem lf0_eq:lf0=.seq (sL lf0) (.seq (sL (sR lf0)) (sR (sR lf0))):=rfl
theorem VN {B n j:Nat} {T:TypeId} {w:World} {v u:Value} {xs:List Value} (h:w.ownsRow B T 1 v n xs) (hj:xs[j]? =some u):∃g c,v=.slice (some ⟨g,0,none⟩) n c∧w.cell? ⟨g,j,none⟩=some u:=by
 have hl:=(List.getElem?_eq_some_iff.1 hj).1;have hn:=h.1;rcases h.2 with⟨_,h0⟩|⟨g,cap,cur,h1,h2,h3,h4⟩
 ·omega
 ·subst h1
  refine⟨g,cap,rfl,?_⟩;rw[World.ownsRow.cellAt h j (by omega)];exact hj
theorem Td {t:Nat} {a b:Value} {ev:Ev} {C:Nat} {A:Code} {m:List Po×DS} {r:List Value} (hr:r.length=73) (C0:Hid (Cu B g w w bs D s)) (hE:Hid (zp C w a b ev)) (hn1:ev.length≤100) (hm:Hid (yW D s t ev=m))
  (hA:Hid (∀v2 v3 v4 v5 v6 v7 v8 v9 r' wx s',r'.length=73→Cu B g w wx bs D s'→xd D s' t=m→Code.wp Tryd.prog A (bodyPost Tryd.prog Tryd.f73 (RO B g w bs D m 1)) (Fl g t v2 v3 v4 v5 v6 v7 v8 v9 r') wx)):
  Code.wp Tryd.prog (.seq (sL lf0) (.seq (sL (sR lf0)) A)) (bodyPost Tryd.prog Tryd.f73 (RO B g w bs D m 1)) (Fl g t (.agg #[a,b]) undef undef undef undef undef undef undef r) w:=by
 obtain⟨i0,hi,hz0,hz1,hz2⟩:=info_parts yF;obtain⟨pa,ca,rfl,-⟩:=zj hE.out.n;obtain⟨pb,cb,rfl,-⟩:=zj hE.out.t;obtain⟨n,hn⟩:∃n,n=ev.length:=⟨_,rfl⟩;rw[←hn]at hE hn1 ⊢;have HN:=Hm hn;clear hn;obtain⟨W1,hW1⟩:∃W,W=w.alloc (.cells #[.slice pa n ca,.slice pb n cb] 102):=⟨_,rfl⟩;have C1:Hid (Cu B g w W1 bs D s):=by rw[hW1];exact C0.out.al _
 have E1:Hid (zp C W1 (.slice pa n ca) (.slice pb n cb) ev):=by rw[hW1];exact hE.out.below (zf (Below.refl _ _) _)
 have X1:Hid (W1.heap[w.heap.size]? =some (.cells #[.slice pa n ca,.slice pb n cb] 102)):=by rw[hW1];exact zi _ _
 revert r;refine @zE 73 _ ?_
 iterate 73 (intro _)
 show Code.wp _ _ _ _ _
 conv=>arg 2;dsimp only[lf0,Tryd.f73,Option.getD,sR,sL,cT,cF,bk,lpo]
 conv=>arg 4;dsimp only[Fl]
 by_cases hn0:0<n
 ·have k0:(0:Int)<(n:Int):=by omega
  have y0:=cl0 X1.out;have y1:=cl1 X1.out;rw[hW1]at y0 y1;go_wp2_with fail;rw[←hW1]at y0 y1 ⊢;clear hW1 hE;refine(Zo C1.out 3 (by omega) (by omega)).mono ?_;rintro e wC2 ⟨b,s1,hb,rfl,hc,hgb⟩;have C2:=Hm hc;have X2:=Hm (Cu.blk C1.out (qn _) X1.out hgb);have E2:=Hm (zp.cur E1.out C1.out hgb);have Qb:=Hm hb;clear hc hgb hb;clear y0 y1 X1 E1
  cases b with
  |true=>
   have y0:=cl0 X2.out;have y1:=cl1 X2.out;go_wp2_with fail;refine(zQ C2.out n hn0 (by omega)).mono ?_;rintro e w3 ⟨j,s2,hj,lj,rfl,hc,hgb⟩;have C3:=Hm hc;have X3:=Hm (Cu.blk C2.out (qn _) X2.out hgb);have E3:=Hm (zp.cur E2.out C2.out hgb);have Qj:=Hm hj;clear hc hgb hj y0 y1 X2 E2;have z0:=cl0 X3.out;have z1:=cl1 X3.out;have hjl:j<ev.length:=by rw[←HN.out];exact lj
   obtain⟨x,hx⟩:∃x,x=ev.getD j ([],0):=⟨_,rfl⟩;have hxe:ev[j]? =some x:=by rw[hx];simp[List.getD,hjl]
   obtain⟨gn,cn,hvn,q0⟩:=VN (j:=j) (u:=.string ⟨x.1.toArray⟩) E3.out.n (by rw[List.getElem?_map,hxe];rfl);obtain⟨gt,ct,hvt,q1⟩:=VN (j:=j) (u:=.int .i64 (x.2:Int)) E3.out.t (by rw[List.getElem?_map,hxe];rfl);injection hvn with hpa _ hca;injection hvt with hpb _ hcb;subst hpa hpb hca hcb;have HX:=Hm hx;clear hx hxe hjl;obtain⟨xn,xt⟩:=x;dsimp only at q0 q1;have jl:(j:Int)<(n:Int):=by omega
   have j0:(0:Int)≤(j:Int):=by omega
   by_cases ht:xt=t
   ·subst ht
    go_wp2_with (refine zv rfl 75 97 _ rfl i0 _ Tryd.underlying75 hi hz0 3 hz1 (Po.cells ⟨2,0,xn⟩) rfl (yK _ _ _) (by decide) (by decide) ?_);go_ret;refine RO.mk' (L:=[⟨2,0,xn⟩]) (s':=s2) ?_ ((xY _ ⟨2,0,xn⟩).low (Cu.size C3.out)) (Cu.al C3.out _) (by simp) (by simp);rw[←hm.out,yW,←HN.out];simp only[hn0,if_true,Qb.out,Qj.out,←HX.out]
   ·have kt:((xt:Int)==(t:Int))=false:=by simp;omega
    go_wp2_with fail;refine hA.out _ _ _ _ _ _ _ _ _ _ s2 ?_ C3.out ?_
    ·rfl
    ·rw[←hm.out,yW,←HN.out]
     simp only[hn0,if_true,Qb.out,Qj.out,←HX.out,if_neg ht]
  |false=>
   go_wp2_with fail;refine hA.out _ _ _ _ _ _ _ _ _ _ s1 ?_ C2.out ?_
   ·rfl
   ·rw[←hm.out,yW,if_pos (by rw[←HN.out];exact hn0),Qb.out]
    dsimp only;rw[if_neg (by simp)]
 ·have k0:decide ((0:Int)<(n:Int))=false:=by simp;omega
  have y0:=cl0 X1.out;rw[hW1]at y0;go_wp2_with fail;rw[←hW1];refine hA.out _ _ _ _ _ _ _ _ _ _ s ?_ C1.out ?_
  ·rfl
  ·rw[←hm.out,yW,if_neg (by rw[←HN.out];exact hn0)]
   dsimp only;rw[if_neg (by simp)]
theorem Z7 {t:Nat} (ht:t=1∨t=2) {a b:Value} {ev:Ev} {C:Nat} (C0:Cu B g w w bs D s) (hE:zp C w a b ev) (hn:ev.length≤100):Calls Tryd.prog 73 #[.pointer (some ⟨g,0,none⟩),.int .i64 (t:Int),.agg #[a,b]] w (RO B g w bs D (yW D s t ev) 1):=by
 refine calls_of_wp Tryd.func73 (c:=lf0) rfl ?_;rw[show(#[.pointer (some ⟨g,0,none⟩),.int .i64 (t:Int),.agg #[a,b]]++Array.replicate (Tryd.f73.ntmps- (#[.pointer (some ⟨g,0,none⟩),.int .i64 (t:Int),.agg #[a,b]]:Array Value).size) undef)=(.pointer (some ⟨g,0,none⟩)::.int .i64 (t:Int)::.agg #[a,b]::List.replicate 80 undef).toArray from Xt _ _ _ 80,lf0_eq];refine Td (r:=List.replicate 73 undef) List.length_replicate (Hm C0) (Hm hE) hn (Hm rfl) (Hm fun v2 v3 v4 v5 v6 v7 v8 v9 r' wx s' hr hc hd=>?_);rcases ht with rfl|rfl
 ·exact leafR1 hr (Hm hc) (Hm hd)
 ·exact leafR2 hr (Hm hc) (Hm hd)
end Go.Proofs.YtbdldkpifanaiaaDoor.Dq
