import Derived.Test.YtbkajklninmhiaaGreatDoorPm34
import Derived.Test.YtbkajklninmhiaaGreatDoorPm33
set_option maxHeartbeats 6400000
set_option maxRecDepth 1000000
set_option linter.unusedVariables false
set_option linter.unusedSimpArgs false
open List renaming setIfInBounds_toArray → qa, set_cons_zero → qb, set_cons_succ → qc
open Nat renaming le_refl → qp, le_trans → qq
namespace Go.Proofs.YtbkajklninmhiaaGreatDoor.Dq
open Go Go.RowKit Mem Syn Parse Par Draw
attribute [local go_sem ↓] Go.wp_at_zero Go.wp_at_succ
variable {B g:Nat} {w0 w w':World} {bs:List UInt8} {D:Sr} {s s':DS}
variable {iv:Value} {X:List Xi}
def Fs1 (g n:Nat) (w:World) (G l:Bool) (v3 v4 v5 v10 v11 v12 v13 v14:Value) (r:List Value):Act:={tmps:=(.pointer (some ⟨g,0,none⟩)::.int .i64 (n:Int)::.bool G::v3::v4::v5::.pointer (some ⟨w.heap.size,0,none⟩)::.pointer (some ⟨w.heap.size+1,0,none⟩)::.pointer (some ⟨w.heap.size+2,0,none⟩)::.bool l::v10::v11::v12::v13::v14::r).toArray,defers:=[]}
def Fs0 (g n:Nat) (G:Bool) (r:List Value):Act:={tmps:=(.pointer (some ⟨g,0,none⟩)::.int .i64 (n:Int)::.bool G::r).toArray,defers:=[]}
theorem Ry {n:Nat} {G:Bool} {A:Code} {Q:Exit→Act→World→Prop} {r:List Value} (hr:r.length=81) (C0:Hid (Cu B g w w bs D s))
  (hA:Hid (∀v3 v4 v5 v10 v11 v12 v13 v14 r' wx,r'.length=69→Sq B g w wx bs D ⟨s,[],[],false⟩ (.slice none 0 0) (.slice none 0 0) (.slice none 0 0) []→Code.wp Tryz.prog A Q (Fs1 g n w G false v3 v4 v5 v10 v11 v12 v13 v14 r') wx)):
  Code.wp Tryz.prog (.seq (sL q0) (.seq (sL (sR q0)) (.seq (sL (sR (sR q0))) (.seq (sL (sR (sR (sR q0)))) A)))) Q (Fs0 g n G r) w:=by
 obtain⟨w1,hw1⟩:∃W,W=((w.alloc (.cells #[.slice none 0 0] 25)).alloc (.cells #[.slice none 0 0] 25)).alloc (.cells #[.slice none 0 0,.slice none 0 0] 112):=⟨_,rfl⟩
 have Z:Hid (Sq B g w w1 bs D ⟨s,[],[],false⟩ (.slice none 0 0) (.slice none 0 0) (.slice none 0 0) []):=by
  rw[hw1];refine⟨((C0.out.al _).al _).al _,PgO.nil _ _,rfl,⟨World.ownsRow_nil _ _ _ _,World.ownsRow_nil _ _ _ _⟩,zv (zv (zo _ _) _) _,zv (yb _ _ _) _,?_,by simp⟩;have:=zo ((w.alloc (.cells #[.slice none 0 0] 25)).alloc (.cells #[.slice none 0 0] 25)) (.cells #[.slice none 0 0,.slice none 0 0] 112);simpa using this
 revert r;refine @zp 81 _ ?_
 iterate 81 (intro _)
 show Code.wp _ _ _ _ _
 conv=>arg 2;dsimp only[q0,Tryz.f31,Option.getD,sR,sL,cT,cF,bk,lpo]
 conv=>arg 4;dsimp only[Fs0]
 go_wp2_with fail;rw[←hw1];refine hA.out _ _ _ _ _ _ _ _ _ _ ?_ Z.out;rfl
theorem Rw {W:World} {n:Nat} {G l:Bool} {v3 v4 v5 v10 v11 v12 v13 v14:Value} {Q:Exit→Act→World→Prop} {r:List Value} (hr:r.length=69) (hn:Hid (∀r',r'.length=69→Q .normal (Fs g n w G l 0 v3 v4 v5 v11 v12 v13 v14 r') W)):
  Code.wp Tryz.prog (sL (sL (sR (sR (sR (sR q0)))))) Q (Fs1 g n w G l v3 v4 v5 v10 v11 v12 v13 v14 r) W:=by
 revert r;refine @zp 69 _ ?_
 iterate 69 (intro _)
 show Code.wp _ _ _ _ _
 conv=>arg 2;dsimp only[q0,Tryz.f31,Option.getD,sR,sL,cT,cF,bk,lpo]
 conv=>arg 4;dsimp only[Fs1]
 go_wp2_with fail;refine hn.out _ ?_;rfl
theorem TJ {i:Nat} {W:World} {n:Nat} {G l:Bool} {v3 v4 v5 v11 v12 v13 v14:Value} {Q:Exit→Act→World→Prop} {r:List Value} (hr:r.length=69) (hi:i<n) (hn:Hid (∀r',r'.length=69→Q .normal (Fs g n w G l (i:Int) v3 v4 v5 v11 v12 v13 v14 r') W)):
  Code.wp Tryz.prog (sL qL) Q (Fs g n w G l (i:Int) v3 v4 v5 v11 v12 v13 v14 r) W:=by
 have k0:(i:Int)<(n:Int):=by omega
 revert r;refine @zp 69 _ ?_
 iterate 69 (intro _)
 show Code.wp _ _ _ _ _
 conv=>arg 2;dsimp only[qL,q0,Tryz.f31,Option.getD,sR,sL,cT,cF,bk,lpo]
 conv=>arg 4;dsimp only[Fs]
 go_wp2_with fail;refine hn.out _ ?_;rfl
theorem TI {i:Nat} {W:World} {n:Nat} {G l:Bool} {v3 v4 v5 v11 v12 v13 v14:Value} {Q:Exit→Act→World→Prop} {r:List Value} (hr:r.length=69) (hi:n≤i) (hn:Hid (∀r',r'.length=69→Q (.exit 0) (Fs g n w G l (i:Int) v3 v4 v5 v11 v12 v13 v14 r') W)):
  Code.wp Tryz.prog (sL qL) Q (Fs g n w G l (i:Int) v3 v4 v5 v11 v12 v13 v14 r) W:=by
 have k0:decide ((i:Int)<(n:Int))=false:=by simp;omega
 revert r;refine @zp 69 _ ?_
 iterate 69 (intro _)
 show Code.wp _ _ _ _ _
 conv=>arg 2;dsimp only[qL,q0,Tryz.f31,Option.getD,sR,sL,cT,cF,bk,lpo]
 conv=>arg 4;dsimp only[Fs]
 go_wp2_with fail;refine hn.out _ ?_;rfl
theorem sndInc {i:Nat} {W:World} {n:Nat} {G l:Bool} {v3 v4 v5 v11 v12 v13 v14:Value} {Q:Exit→Act→World→Prop} {r:List Value} (hr:r.length=69) (hi:i≤100000) (hn:Hid (∀r',r'.length=69→Q .normal (Fs g n w G l ((i+1:Nat):Int) v3 v4 v5 v11 v12 v13 v14 r') W)):
  Code.wp Tryz.prog (sR (sR qL)) Q (Fs g n w G l (i:Int) v3 v4 v5 v11 v12 v13 v14 r) W:=by
 have e1:IntKind.i64.wrap ((i:Int)+1)=((i+1:Nat):Int):=by rw[IntKind.wrap_i64];omega
 revert r;refine @zp 69 _ ?_
 iterate 69 (intro _)
 show Code.wp _ _ _ _ _
 conv=>arg 2;dsimp only[qL,q0,Tryz.f31,Option.getD,sR,sL,cT,cF,bk,lpo]
 conv=>arg 4;dsimp only[Fs]
 go_wp2_with fail;refine hn.out _ ?_;rfl
theorem sndEnd {i:Int} {W:World} {n:Nat} {G l:Bool} {v3 v4 v5 v11 v12 v13 v14:Value} {r:List Value} (hr:r.length=69) {S:Sn} {a b:Value} (Z:Hid (Sq B g w W bs D S iv a b X)) {m:List Im×DS} {k:Nat} (hm:Hid (m=(S.L,S.s))) (hk:X.length≤k):
  Code.wp Tryz.prog (sR (sR (sR (sR (sR q0))))) (bodyPost Tryz.prog Tryz.f31 (RP B g w bs D m k)) (Fs g n w G l i v3 v4 v5 v11 v12 v13 v14 r) W:=by
 obtain⟨pi,ni,ci,rfl⟩:∃a n c,iv=.slice a n c:=by obtain⟨a,c,e,-⟩:=zh Z.out.pg.row;exact⟨_,_,_,e⟩
 have x0:=(zb Z.out.bp 0).trans (show _=some (.slice pi ni ci)from rfl);have z0:=(zb Z.out.br 0).trans (show _=some (.slice none 0 0)from rfl);have f0:=zc Z.out.br 0;revert r;refine @zp 69 _ ?_
 iterate 69 (intro _)
 show Code.wp _ _ _ _ _
 conv=>arg 2;dsimp only[q0,Tryz.f31,Option.getD,sR,sL,cT,cF,bk,lpo]
 conv=>arg 4;dsimp only[Fs]
 go_wp2;clear x0 z0 f0;have P1:=PgO.far (i:=0) (v:=.slice pi ni ci) Z.out.pg Z.out.br (by decide) (by decide);have C1:=Cu.set (r:=w.heap.size) (i:=0) (v:=.slice pi ni ci) Z.out.c (qp _);have b1:=zq Z.out.br 0 (.slice pi ni ci);simp only[qa,qb,qc]at b1;obtain⟨Y,hY⟩:∃Y,Y=W.setCell ⟨w.heap.size,0,none⟩ (.slice pi ni ci):=⟨_,rfl⟩;rw[←hY]at P1 C1 b1 ⊢;clear hY;have t0:=cL0 b1;refine bodyPost_ret (v:=.agg #[.slice pi ni ci]) (by simp[results,Tryz.results31,go_sem,t0];try rfl) rfl ?_;rw[hm.out];refine⟨_,X,rfl,Z.out.im,P1,C1,?_⟩;show S.L.length≤k;rw[←Z.out.im,List.length_map];exact hk
theorem q0_eq:q0=.seq (sL q0) (.seq (sL (sR q0)) (.seq (sL (sR (sR q0))) (.seq (sL (sR (sR (sR q0)))) (.seq (.seq (sL (sL (sR (sR (sR (sR q0)))))) (.block 0 (.loop qL))) (sR (sR (sR (sR (sR q0))))))))):=rfl
theorem qL_eq:qL=.seq (sL qL) (.seq (.block 1 qB) (sR (sR qL))):=rfl
theorem Wa (D:Sr) (G:Bool):∀(i:Nat) (S:Sn),Ya D G (i+1) S=zO D G (Ya D G i S)
 |0,S=>rfl
 |i+1,S=>by rw[Ya,Wa D G i (zO D G S)];rfl
theorem soundD {n:Nat} {G:Bool} (C0:Cu B g w w bs D s) (hn:n≤100):Calls Tryz.prog 31 #[.pointer (some ⟨g,0,none⟩),.int .i64 (n:Int),.bool G] w (RP B g w bs D (Yq D s n G) n):=by
 refine calls_of_wp Tryz.func31 (c:=q0) rfl ?_;rw[show(#[.pointer (some ⟨g,0,none⟩),.int .i64 (n:Int),.bool G]++Array.replicate (Tryz.f31.ntmps- (#[.pointer (some ⟨g,0,none⟩),.int .i64 (n:Int),.bool G]:Array Value).size) undef)=(.pointer (some ⟨g,0,none⟩)::.int .i64 (n:Int)::.bool G::List.replicate 81 undef).toArray from WR _ _ _ 81,q0_eq];refine Ry (r:=List.replicate 81 undef) List.length_replicate (Hm C0) (Hm fun v3 v4 v5 v10 v11 v12 v13 v14 r' wx hr Z0=>?_);refine wp_seq (wp_seq (Rw hr (Hm fun r1 hr1=>?_)));show Code.wp _ (.block 0 (.loop qL)) _ _ _;refine wp_block ?_
 refine wp_loop_ghost (fun k a' wx=>∃(i:Nat) (l:Bool) (v3 v4 v5 v11 v12 v13 v14:Value) (r:List Value) (iv a b:Value) (X:List Xi),a'=Fs g n w G l (i:Int) v3 v4 v5 v11 v12 v13 v14 r∧r.length=69∧k=n-i∧i≤n∧X.length≤i∧(Ya D G i ⟨s,[],[],false⟩).l=l∧Sq B g w wx bs D (Ya D G i ⟨s,[],[],false⟩) iv a b X) n ⟨0,false,v3,v4,v5,v11,v12,v13,v14,r1,_,_,_,[],rfl,hr1,by omega,by omega,by simp,rfl,Z0⟩ ?_;rintro k a' wx ⟨i,l,v3,v4,v5,v11,v12,v13,v14,r,iv,a,b,X,rfl,hr,rfl,hi,hX,hl,Z⟩;rw[qL_eq];refine wp_seq ?_;by_cases hlt:i<n
 ·refine TJ hr hlt (Hm fun r2 hr2=>?_)
  show Code.wp _ (.seq (.block 1 qB) (sR (sR qL))) _ _ _;refine wp_seq (wp_block ?_)
  have fin:Hid (∀l' v11 v12 v13 v14 r' iv' a' b' X' wx,r'.length=69→Sq B g w wx bs D (zO D G (Ya D G i ⟨s,[],[],false⟩)) iv' a' b' X'→(zO D G (Ya D G i ⟨s,[],[],false⟩)).l=l'→X'.length≤X.length+1→Code.wp Tryz.prog (sR (sR qL)) (Exit.then (fun a' wx=>∃n',n'<n-i∧∃(i:Nat) (l:Bool) (v3 v4 v5 v11 v12 v13 v14:Value) (r:List Value) (iv a b:Value) (X:List Xi),a'=Fs g n w G l (i:Int) v3 v4 v5 v11 v12 v13 v14 r∧r.length=69∧n'=n-i∧i≤n∧X.length≤i∧(Ya D G i ⟨s,[],[],false⟩).l=l∧Sq B g w wx bs D (Ya D G i ⟨s,[],[],false⟩) iv a b X) (Exit.inBlock 0 (Exit.then (Code.wp Tryz.prog (sR (sR (sR (sR (sR q0))))) (bodyPost Tryz.prog Tryz.f31 (RP B g w bs D (Yq D s n G) n))) (bodyPost Tryz.prog Tryz.f31 (RP B g w bs D (Yq D s n G) n))))) (Fs g n w G l' (i:Int) v3 v4 v5 v11 v12 v13 v14 r') wx):=Hm fun l' v11 v12 v13 v14 r' iv' a' b' X' wx hr' Z' hl' hX'=>by
   refine sndInc hr' (by omega) (Hm fun r3 hr3=>?_);rw[←Wa]at Z' hl';exact⟨n- (i+1),by omega,i+1,l',v3,v4,v5,v11,v12,v13,v14,r3,iv',a',b',X',rfl,hr3,rfl,by omega,by omega,hl',Z'⟩
  obtain⟨b0,s1,hb⟩:=two (D.once (Ya D G i ⟨s,[],[],false⟩).s 4);by_cases h6:b0=true∧(Ya D G i ⟨s,[],[],false⟩).ev.length<6
  ·obtain⟨rfl,h6⟩:=h6
   exact sndLet hr2 (Hm Z) hl (by omega) (Hm hb) h6 fin
  ·exact Rx hr2 (Hm Z) hl (by omega) (Hm hb) h6 fin
 ·refine TI hr (by omega) (Hm fun r2 hr2=>?_)
  obtain rfl:i=n:=by omega
  show Code.wp _ (sR (sR (sR (sR (sR q0))))) _ _ _;exact sndEnd hr2 (Hm Z) (Hm rfl) hX
end Go.Proofs.YtbkajklninmhiaaGreatDoor.Dq
namespace Go.Proofs.YtbkajklninmhiaaGreatDoor.Dq
open Go Go.RowKit Mem Syn Parse Par Draw
attribute [local go_sem ↓] Go.wp_at_zero Go.wp_at_succ
variable {B g:Nat} {w0 w w':World} {bs:List UInt8} {D:Sr} {s s':DS}
variable {iv:Value} {X:List Xi}
def Dof (bs:List UInt8):Sr:=⟨yv bs,Wt bs⟩
def WV (D:Sr) (s:DS) (z:Nat):List Im×DS:=
 match D.once s 14 with
 |(o,s1)=>
  if o=true then yZ D s1
  else match D.bel s1 z with
   |(x,s2)=>match D.once s2 3 with
    |(G,s3)=>match Yq D s3 (1+x) G with
     |(L1,s4)=>match D.once s4 4 with
      |(u,s5)=>match (if u=true then V9 D L1 s5 else (L1,s5))with
       |(L2,s6)=>match D.once s6 5 with
        |(v,s7)=>if v=true then ZQ D L2 s7 else (L2,s7)
def Y8 (bs:List UInt8):List Im:=(WV (Dof bs) ⟨0,x8 bs.length bs⟩ (Yh bs.length 8)).1
theorem PgR.low {B' C:Nat} (h:PgR B' w iv X) (hc:C≤B'):PgR C w iv X:=⟨Joins.ownsRow_le h.row hc,fun x hx=>(h.e x hx).low hc,fun x hx=>(h.f x hx).low hc,h.le⟩
theorem PgR.far {B' r i:Nat} {T':TypeId} {v:Value} {C:Array Value} {fr:Nat×Nat} (h:PgR B' w iv X) (hr:w.heap[r]? =some (.cells C T' fr)) (h1:38≠T') (h2:88≠T'):PgR B' (w.setCell ⟨r,i,none⟩ v) iv X:=⟨zW h.row hr h1,fun x hx=>(h.e x hx).far hr h2,fun x hx=>(h.f x hx).far hr h2,h.le⟩
theorem PgR.cur {B':Nat} (h:PgR B' w iv X) (c:Cu B g w0 w bs D s) (hg:w.grownBy w' (some g)):PgR B' w' iv X:=⟨YA h.row (by decide) c.d hg,fun x hx=>(h.e x hx).cur c.d hg,fun x hx=>(h.f x hx).cur c.d hg,h.le⟩
def RD (w:World) (L:List Im) (e:Ending) (w':World):Prop:=∃iv X,e=.returned (.agg #[iv])∧X.map Xi.im=L∧PgR w.heap.size w' iv X∧Below w.heap.size w w'
theorem TM (n:Nat):0<Yh n 8∧Yh n 8≤8:=by unfold Yh;split<;>omega
theorem Wq {w2 W:World} {L:List Im} (hb:Below w.heap.size w w2) (hg:w2.grownBy W (some g)) (hgw:w.heap.size≤g) (hX:X.map Xi.im=L) (hp:PgR w.heap.size W iv X) (hr:W.heap[w.heap.size]? =some (.cells #[.slice none 0 0] 25)):(W.setCell ⟨w.heap.size,0,none⟩ iv).cell? ⟨w.heap.size,0,none⟩=some iv∧RD w L (.returned (.agg #[iv])) (W.setCell ⟨w.heap.size,0,none⟩ iv):=by
 have b1:=zq hr 0 iv;simp only[qa,qb]at b1;refine⟨(zb b1 0).trans rfl,iv,X,rfl,hX,hp.far hr (by decide) (by decide),?_⟩;have h1:Below w.heap.size w W:=hb.grown hg hb.size (fun k hk=>by injection hk with hk;omega);exact h1.setCell (p:=⟨w.heap.size,0,none⟩) (qp _) iv
theorem anyD (v:Value) (w:World) (hBs:B≤w.heap.size) (ht:Txt B w v bs) (hl:bs.length≤1048576):Calls Tryz.prog 13 #[v] w (RD w (Y8 bs)):=by
 obtain⟨D,hD⟩:∃D,D=Dof bs:=⟨_,rfl⟩;have hDb:∀s n,D.bel s n=yv bs s n:=fun s n=>by rw[hD];rfl
 have hDo:∀s n,D.once s n=Wt bs s n:=fun s n=>by rw[hD];rfl
 obtain⟨s0,hs0⟩:∃s0:DS,s0=⟨0,x8 bs.length bs⟩:=⟨_,rfl⟩;obtain⟨z,hz⟩:∃z,z=Yh bs.length 8:=⟨_,rfl⟩;obtain⟨m,hm⟩:∃m,Hid ((WV D s0 z).1=m):=⟨_,Hm rfl⟩;have hmm:Y8 bs=m:=by rw[←hm.out,hD,hs0,hz];rfl
 rw[hmm];have hz1:0<z∧z≤8:=by rw[hz];exact TM _
 obtain⟨p,c,hv,-,-,-⟩:=ht.rd;subst hv;obtain⟨nb,hnb⟩:∃n,n=bs.length:=⟨_,rfl⟩;obtain⟨w1,hW1⟩:∃W,W=w.alloc (.cells #[.slice none 0 0] 25):=⟨_,rfl⟩;have hz2:w1.heap.size=w.heap.size+1:=by rw[hW1];simp
 have A1:Hid (Below w.heap.size w w1):=by rw[hW1];exact zd (Below.refl _ _) _
 have K1:Hid (w1.heap[w.heap.size]? =some (.cells #[.slice none 0 0] 25)):=by rw[hW1];exact zo _ _
 have CN:Hid (Calls Tryz.prog 24 #[.slice p nb c] w1 fun e w'=>∃g,e=.returned (.pointer (some ⟨g,0,none⟩))∧w1.heap.size≤g∧DC B g w' bs s0∧Below w1.heap.size w1 w'):=by
  rw[hs0,hnb];exact newD B _ bs w1 (by omega) (ht.below (A1.out.mono hBs)) hl
 have CS:Hid (∀w,Calls Tryz.prog 30 #[.slice p nb c,.int .i64 8] w fun e w'=>e=.returned (.int .i64 (z:Int))∧w'=w):=fun w=>by rw[hz,←hnb];exact sizeD p nb c 8 w (by omega) (by omega)
 have HDD:=Hm (And.intro hDb hDo);rw[←hnb];have HL:Hid (bs.length≤1048576):=hl;clear hD hDb hDo hs0 hz hmm ht hnb hl;go_enter Tryz.func13,Tryz.ntmps13;go_wp2_with fail;rw[←hW1];clear hW1;refine CN.out.mono ?_;rintro e' w2 ⟨g,rfl,hg,d2,b2⟩;have C2:Hid (Cu B g w2 w2 bs D s0):=⟨d2,World.grownBy.refl _ _,by omega,d2.lt,HL.out,HDD.out.1,HDD.out.2⟩;have K2:=Hm (zg K1.out b2);have B2:=Hm (A1.out.trans (b2.mono (by omega)));have hg1:w.heap.size≤g:=by omega
 have hg2:w.heap.size≠g:=by omega
 have hs2:w.heap.size≤w2.heap.size:=by have:=b2.size;omega
 clear d2 b2 CN A1 K1;go_wp2_with fail;refine(xl C2.out 14 (by omega) (by omega)).mono ?_;rintro e' w3 ⟨o1,s1,hx,rfl,hc,hgb⟩;have Q1:=Hm hx;have C3:=Hm hc;clear hx hc hgb
 have kres:Hid (∀{W:World},w2.grownBy W (some g)→W.heap[w.heap.size]? =some (.cells #[.slice none 0 0] 25)):=fun {W} hg=>by
  rw[hg.block _ (zN K2.out) (fun e=>by injection e with e;omega)];exact K2.out
 cases o1 with
 |true=>
  go_wp2_with fail;refine(limitD (Cu.self C3.out)).mono ?_;obtain⟨L,s9,hL⟩:=two (yZ D s1);rw[hL];rintro e' w4 ⟨iv,X,rfl,hX,hP,hc,-⟩;dsimp only at hX;have C4:=Hm (Cu.in' C3.out hc);have P4:=Hm (hP.lowB (qq hs2 C3.out.size)).r;have QL:=Hm hL;have HX:=Hm hX;obtain⟨pi,ni,ci,rfl⟩:∃a n c,iv=.slice a n c:=by obtain⟨a,c,e,-⟩:=zh hP.row;exact⟨_,_,_,e⟩
  clear hL hX hP hc;have K4:=Hm (kres.out C4.out.gb);have z0:=cL0 K4.out;have f0:=zc K4.out 0;go_wp2;clear z0 f0;obtain⟨t0,hR⟩:=Wq (L:=m) B2.out C4.out.gb hg1 (by rw[HX.out,←hm.out];simp[WV,Q1.out,QL.out]) P4.out K4.out;obtain⟨Y,hY⟩:∃Y,Y=w4.setCell ⟨w.heap.size,0,none⟩ (.slice pi ni ci):=⟨_,rfl⟩;rw[←hY]at t0 hR ⊢;refine bodyPost_ret (v:=.agg #[.slice pi ni ci]) (by simp[results,Tryz.results13,go_sem,t0];try rfl) rfl hR
 |false=>
  go_wp2_with fail;refine(CS.out _).mono ?_;rintro e' wx ⟨rfl,rfl⟩;go_wp2_with fail;refine(yq C3.out z hz1.1 (by omega)).mono ?_;rintro e' w4 ⟨x,s2,hx,lx,rfl,hc,hgb⟩;have Q2:=Hm hx;have C4:=Hm hc;clear hx hc hgb;have e1:IntKind.i64.wrap (1+(x:Int))=((1+x:Nat):Int):=by rw[IntKind.wrap_i64];omega
  go_wp2_with fail;refine(xl C4.out 3 (by omega) (by omega)).mono ?_;rintro e' w5 ⟨G,s3,hx,rfl,hc,hgb⟩;have Q3:=Hm hx;have C5:=Hm hc;clear hx hc hgb;go_wp2_with fail;refine(show Calls Tryz.prog 31 #[.pointer (some ⟨g,0,none⟩),.int .i64 (1+(x:Int)),.bool G] w5 _ from soundD (n:=1+x) (G:=G) (Cu.self C5.out) (by omega)).mono ?_;obtain⟨L1,s4,hL⟩:=two (Yq D s3 (1+x) G);rw[hL];rintro e' w6 ⟨iv,X,rfl,hX,hP,hc,hlen⟩;dsimp only at hX hlen;have C6:=Hm (Cu.in' C5.out hc);have P6:=Hm (hP.lowB C5.out.size);have Q4:=Hm hL;have HX:=Hm hX;have hXl:X.length≤9:=by rw[←List.length_map (f:=Xi.im),hX];omega
  obtain⟨pi,ni,ci,rfl⟩:∃a n c,iv=.slice a n c:=by obtain⟨a,c,e,-⟩:=zh hP.row;exact⟨_,_,_,e⟩
  clear hL hX hP hc;obtain⟨w7,hw7⟩:∃W,W=w6.alloc (.cells #[.slice pi ni ci] 25):=⟨_,rfl⟩;have hb7:Below w6.heap.size w6 w7:=by rw[hw7];exact zd (Below.refl _ _) _
  have C7:=Hm (Cu.below C6.out hb7);have P7:=Hm (P6.out.below hb7);have Kp7:Hid (w7.heap[w6.heap.size]? =some (.cells #[.slice pi ni ci] 25)):=by rw[hw7];exact zo _ _
  have hs6:=C6.out.size;clear hb7 C6 P6;go_upto_region 6 with fail;rw[←hw7];clear hw7;go_wp2_with fail;refine(xl C7.out 4 (by omega) (by omega)).mono ?_;rintro e' w8 ⟨u,s5,hx,rfl,hc,hgb⟩;have Q5:=Hm hx;have C8:=Hm hc;have P8:=Hm (P7.out.cur C7.out hgb);have Kp8:=Hm (Cu.blk C7.out hs6 Kp7.out hgb);clear hx hc hgb C7 P7 Kp7
  cases u with
  |true=>
   have y0:=cL0 Kp8.out;go_wp2_with fail;clear y0;refine(unsD C8.out P8.out (by omega)).mono ?_;rw[HX.out];obtain⟨L2,s6,hL⟩:=two (V9 D L1 s5);rw[hL];rintro e' w9 ⟨iv2,X2,rfl,hX2,hP,hc,hod,hl2⟩;dsimp only at hX2 hl2;have Q6:=Hm hL;have C9:=Hm hc;have P9:=Hm hP;have Kp9:=Hm (hod _ _ _ (zN Kp8.out) Kp8.out);have HX2:=Hm hX2;have hXl2:X2.length≤200:=by rw[←List.length_map (f:=Xi.im),hX2];exact hl2
   obtain⟨pj,nj,cj,rfl⟩:∃a n c,iv2=.slice a n c:=by obtain⟨a,c,e,-⟩:=zh hP.row;exact⟨_,_,_,e⟩
   clear hL hX2 hP hc hod C8 P8 Kp8;obtain⟨w10,hw⟩:∃W,W=w9.setCell ⟨w6.heap.size,0,none⟩ (.slice pj nj cj):=⟨_,rfl⟩;have C10:=Hm (Cu.set (r:=w6.heap.size) (i:=0) (v:=.slice pj nj cj) C9.out hs6);have P10:=Hm (PgO.far (i:=0) (v:=.slice pj nj cj) P9.out Kp9.out (by decide) (by decide));have Kp10:=Hm (zq Kp9.out 0 (.slice pj nj cj));simp only[qa,qb]at Kp10;rw[←hw]at C10 P10 Kp10;have y0:=cL0 Kp9.out;have f0:=zc Kp9.out 0;go_upto_region 8 with fail;rw[←hw];clear hw y0 f0 C9 P9 Kp9;go_wp2_with fail;refine(xl C10.out 5 (by omega) (by omega)).mono ?_;rintro e' w20 ⟨vv,s20,hx,rfl,hc,hgb⟩;have Q9:=Hm hx;have C20:=Hm hc;have P20:=Hm (P10.out.cur C10.out hgb);have Kp20:=Hm (Cu.blk C10.out hs6 Kp10.out hgb);clear hx hc hgb C10 P10 Kp10
   have y0:=cL0 Kp20.out
   cases vv with
   |true=>
    go_wp2_with fail;clear y0;refine(TF C20.out P20.out (by omega)).mono ?_;rw[HX2.out];obtain⟨L9,s9,hL⟩:=two (ZQ D L2 s20);rw[hL];rintro e' w21 ⟨iv9,X9,rfl,hX9,hP,hc,hod⟩;dsimp only at hX9;have Q10:=Hm hL;have C21:=Hm hc;have P21:=Hm hP;have Kp21:=Hm (hod _ _ _ (zN Kp20.out) Kp20.out);have HX9:=Hm hX9;obtain⟨pk,nk,ck,rfl⟩:∃a n c,iv9=.slice a n c:=by obtain⟨a,c,e,-⟩:=zh hP.row;exact⟨_,_,_,e⟩
    clear hL hX9 hP hc hod C20 P20 Kp20;obtain⟨w22,hw⟩:∃W,W=w21.setCell ⟨w6.heap.size,0,none⟩ (.slice pk nk ck):=⟨_,rfl⟩;have C22:=Hm (Cu.set (r:=w6.heap.size) (i:=0) (v:=.slice pk nk ck) C21.out hs6);have P22:=Hm (PgR.far (i:=0) (v:=.slice pk nk ck) P21.out Kp21.out (by decide) (by decide));have Kp22:=Hm (zq Kp21.out 0 (.slice pk nk ck));simp only[qa,qb]at Kp22;rw[←hw]at C22 P22 Kp22;have y0:=cL0 Kp21.out;have f0:=zc Kp21.out 0;go_upto_region 10 with fail;rw[←hw];clear hw y0 f0 C21 P21 Kp21;have y0:=cL0 Kp22.out;have KR:=Hm (kres.out C22.out.gb);have z0:=cL0 KR.out;have f0:=zc KR.out 0;go_wp2;clear z0 f0 y0
    obtain⟨t0,hR⟩:=Wq (L:=m) B2.out C22.out.gb hg1 (by rw[HX9.out,←hm.out];simp[WV,Q1.out,Q2.out,Q3.out,Q4.out,Q5.out,Q6.out,Q9.out,Q10.out]) (P22.out.low hs2) KR.out;obtain⟨Y,hY⟩:∃Y,Y=w22.setCell ⟨w.heap.size,0,none⟩ (.slice pk nk ck):=⟨_,rfl⟩;rw[←hY]at t0 hR ⊢;refine bodyPost_ret (v:=.agg #[.slice pk nk ck]) (by simp[results,Tryz.results13,go_sem,t0];try rfl) rfl hR
   |false=>
    clear y0;have y0:=cL0 Kp20.out;have KR:=Hm (kres.out C20.out.gb);have z0:=cL0 KR.out;have f0:=zc KR.out 0;go_wp2;clear z0 f0 y0;obtain⟨t0,hR⟩:=Wq (L:=m) B2.out C20.out.gb hg1 (by rw[HX2.out,←hm.out];simp[WV,Q1.out,Q2.out,Q3.out,Q4.out,Q5.out,Q6.out,Q9.out]) ((P20.out.lowB hs2).r) KR.out;obtain⟨Y,hY⟩:∃Y,Y=w20.setCell ⟨w.heap.size,0,none⟩ (.slice pj nj cj):=⟨_,rfl⟩;rw[←hY]at t0 hR ⊢;refine bodyPost_ret (v:=.agg #[.slice pj nj cj]) (by simp[results,Tryz.results13,go_sem,t0];try rfl) rfl hR
  |false=>
   go_wp2_with fail;refine(xl C8.out 5 (by omega) (by omega)).mono ?_;rintro e' w20 ⟨vv,s20,hx,rfl,hc,hgb⟩;have Q9:=Hm hx;have C20:=Hm hc;have P20:=Hm (P8.out.cur C8.out hgb);have Kp20:=Hm (Cu.blk C8.out hs6 Kp8.out hgb);clear hx hc hgb C8 P8 Kp8;have y0:=cL0 Kp20.out
   cases vv with
   |true=>
    go_wp2_with fail;clear y0;refine(TF C20.out P20.out (by omega)).mono ?_;rw[HX.out];obtain⟨L9,s9,hL⟩:=two (ZQ D L1 s20);rw[hL];rintro e' w21 ⟨iv9,X9,rfl,hX9,hP,hc,hod⟩;dsimp only at hX9;have Q10:=Hm hL;have C21:=Hm hc;have P21:=Hm hP;have Kp21:=Hm (hod _ _ _ (zN Kp20.out) Kp20.out);have HX9:=Hm hX9;obtain⟨pk,nk,ck,rfl⟩:∃a n c,iv9=.slice a n c:=by obtain⟨a,c,e,-⟩:=zh hP.row;exact⟨_,_,_,e⟩
    clear hL hX9 hP hc hod C20 P20 Kp20;obtain⟨w22,hw⟩:∃W,W=w21.setCell ⟨w6.heap.size,0,none⟩ (.slice pk nk ck):=⟨_,rfl⟩;have C22:=Hm (Cu.set (r:=w6.heap.size) (i:=0) (v:=.slice pk nk ck) C21.out hs6);have P22:=Hm (PgR.far (i:=0) (v:=.slice pk nk ck) P21.out Kp21.out (by decide) (by decide));have Kp22:=Hm (zq Kp21.out 0 (.slice pk nk ck));simp only[qa,qb]at Kp22;rw[←hw]at C22 P22 Kp22;have y0:=cL0 Kp21.out;have f0:=zc Kp21.out 0;go_upto_region 10 with fail;rw[←hw];clear hw y0 f0 C21 P21 Kp21;have y0:=cL0 Kp22.out;have KR:=Hm (kres.out C22.out.gb);have z0:=cL0 KR.out;have f0:=zc KR.out 0;go_wp2;clear z0 f0 y0
    obtain⟨t0,hR⟩:=Wq (L:=m) B2.out C22.out.gb hg1 (by rw[HX9.out,←hm.out];simp[WV,Q1.out,Q2.out,Q3.out,Q4.out,Q5.out,Q9.out,Q10.out]) (P22.out.low hs2) KR.out;obtain⟨Y,hY⟩:∃Y,Y=w22.setCell ⟨w.heap.size,0,none⟩ (.slice pk nk ck):=⟨_,rfl⟩;rw[←hY]at t0 hR ⊢;refine bodyPost_ret (v:=.agg #[.slice pk nk ck]) (by simp[results,Tryz.results13,go_sem,t0];try rfl) rfl hR
   |false=>
    clear y0;have y0:=cL0 Kp20.out;have KR:=Hm (kres.out C20.out.gb);have z0:=cL0 KR.out;have f0:=zc KR.out 0;go_wp2;clear z0 f0 y0;obtain⟨t0,hR⟩:=Wq (L:=m) B2.out C20.out.gb hg1 (by rw[HX.out,←hm.out];simp[WV,Q1.out,Q2.out,Q3.out,Q4.out,Q5.out,Q9.out]) ((P20.out.lowB hs2).r) KR.out;obtain⟨Y,hY⟩:∃Y,Y=w20.setCell ⟨w.heap.size,0,none⟩ (.slice pi ni ci):=⟨_,rfl⟩;rw[←hY]at t0 hR ⊢;refine bodyPost_ret (v:=.agg #[.slice pi ni ci]) (by simp[results,Tryz.results13,go_sem,t0];try rfl) rfl hR
theorem Td (v:Value) (w:World) (hBs:B≤w.heap.size) (ht:Txt B w v bs) (hl:bs.length≤1048576):Calls Tryz.prog 5 #[v] w (RD w (Y8 bs)):=by
 obtain⟨m,hm⟩:∃m,m=Y8 bs:=⟨_,rfl⟩;rw[←hm];obtain⟨w1,hW1⟩:∃W,W=w.alloc (.cells #[.slice none 0 0] 25):=⟨_,rfl⟩;have hz2:w1.heap.size=w.heap.size+1:=by rw[hW1];simp
 have A1:Hid (Below w.heap.size w w1):=by rw[hW1];exact zd (Below.refl _ _) _
 have K1:Hid (w1.heap[w.heap.size]? =some (.cells #[.slice none 0 0] 25)):=by rw[hW1];exact zo _ _
 have CN:=Hm (anyD v w1 (by omega) (ht.below (A1.out.mono hBs)) hl);rw[←hm]at CN;obtain⟨p,c,hv,-,-,-⟩:=ht.rd;subst hv;clear hm ht;go_enter Tryz.func5,Tryz.ntmps5;go_wp2_with fail;rw[←hW1];clear hW1;refine CN.out.mono ?_;rintro e' w2 ⟨iv,X,rfl,hX,hP,hb⟩;have P2:Hid (PgR w.heap.size w2 iv X):=Hm (hP.low (by omega));have K2:=Hm (zg K1.out hb);have B2:=Hm (A1.out.trans (hb.mono (by omega)));have HX:=Hm hX;obtain⟨pi,ni,ci,rfl⟩:∃a n c,iv=.slice a n c:=by obtain⟨a,c,e,-⟩:=zh hP.row;exact⟨_,_,_,e⟩
 clear hX hP hb;have z0:=cL0 K2.out;have f0:=zc K2.out 0;go_wp2;clear z0 f0;obtain⟨t0,hR⟩:=Wq (g:=w.heap.size) (L:=m) B2.out (World.grownBy.refl _ _) (qp _) HX.out P2.out K2.out;obtain⟨Y,hY⟩:∃Y,Y=w2.setCell ⟨w.heap.size,0,none⟩ (.slice pi ni ci):=⟨_,rfl⟩;rw[←hY]at t0 hR ⊢;refine bodyPost_ret (v:=.agg #[.slice pi ni ci]) (by simp[results,Tryz.results5,go_sem,t0];try rfl) rfl hR
end Go.Proofs.YtbkajklninmhiaaGreatDoor.Dq
