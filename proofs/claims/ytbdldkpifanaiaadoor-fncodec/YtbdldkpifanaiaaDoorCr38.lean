import Derived.Test.YtbdldkpifanaiaaDoorCr37
set_option maxHeartbeats 6400000
set_option maxRecDepth 1000000
set_option linter.unusedVariables false
set_option linter.unusedSimpArgs false
open List renaming setIfInBounds_toArray → qa, set_cons_zero → qb, set_cons_succ → qc
open Nat renaming le_refl → qn
namespace Go.Proofs.YtbdldkpifanaiaaDoor.Dq
open Go Go.RowKit Mem Syn Parse Par Draw
attribute [local go_sem ↓] Go.wp_at_zero Go.wp_at_succ
variable {B g:Nat} {w0 w w':World} {bs:List UInt8} {D:Sr} {s s':DS}
variable {iv:Value} {X:List Xi}
def Fs1 (g n:Nat) (w:World) (G l:Bool) (v3 v4 v5 v10 v11 v12 v13 v14:Value) (r:List Value):Act:={tmps:=(.pointer (some ⟨g,0,none⟩)::.int .i64 (n:Int)::.bool G::v3::v4::v5::.pointer (some ⟨w.heap.size,0,none⟩)::.pointer (some ⟨w.heap.size+1,0,none⟩)::.pointer (some ⟨w.heap.size+2,0,none⟩)::.bool l::v10::v11::v12::v13::v14::r).toArray,defers:=[]}
def Fs0 (g n:Nat) (G:Bool) (r:List Value):Act:={tmps:=(.pointer (some ⟨g,0,none⟩)::.int .i64 (n:Int)::.bool G::r).toArray,defers:=[]}
theorem UW {n:Nat} {G:Bool} {A:Code} {Q:Exit→Act→World→Prop} {r:List Value} (hr:r.length=81) (C0:Hid (Cu B g w w bs D s))
  (hA:Hid (∀v3 v4 v5 v10 v11 v12 v13 v14 r' wx,r'.length=69→Sq B g w wx bs D ⟨s,[],[],false⟩ (.slice none 0 0) (.slice none 0 0) (.slice none 0 0) []→Code.wp Tryd.prog A Q (Fs1 g n w G false v3 v4 v5 v10 v11 v12 v13 v14 r') wx)):
  Code.wp Tryd.prog (.seq (sL q0) (.seq (sL (sR q0)) (.seq (sL (sR (sR q0))) (.seq (sL (sR (sR (sR q0)))) A)))) Q (Fs0 g n G r) w:=by
 obtain⟨w1,hw1⟩:∃W,W=((w.alloc (.cells #[.slice none 0 0] 54)).alloc (.cells #[.slice none 0 0] 54)).alloc (.cells #[.slice none 0 0,.slice none 0 0] 102):=⟨_,rfl⟩
 have Z:Hid (Sq B g w w1 bs D ⟨s,[],[],false⟩ (.slice none 0 0) (.slice none 0 0) (.slice none 0 0) []):=by
  rw[hw1];refine⟨((C0.out.al _).al _).al _,PgO.nil _ _,rfl,⟨World.ownsRow_nil _ _ _ _,World.ownsRow_nil _ _ _ _⟩,zh (zh (zi _ _) _) _,zh (zx _ _ _) _,?_,by simp⟩;have:=zi ((w.alloc (.cells #[.slice none 0 0] 54)).alloc (.cells #[.slice none 0 0] 54)) (.cells #[.slice none 0 0,.slice none 0 0] 102);simpa using this
 revert r;refine @zE 81 _ ?_
 iterate 81 (intro _)
 show Code.wp _ _ _ _ _
 conv=>arg 2;dsimp only[q0,Tryd.f50,Option.getD,sR,sL,cT,cF,bk,lpo]
 conv=>arg 4;dsimp only[Fs0]
 go_wp2_with fail;rw[←hw1];refine hA.out _ _ _ _ _ _ _ _ _ _ ?_ Z.out;rfl
theorem UT {W:World} {n:Nat} {G l:Bool} {v3 v4 v5 v10 v11 v12 v13 v14:Value} {Q:Exit→Act→World→Prop} {r:List Value} (hr:r.length=69) (hn:Hid (∀r',r'.length=69→Q .normal (Fs g n w G l 0 v3 v4 v5 v11 v12 v13 v14 r') W)):
  Code.wp Tryd.prog (sL (sL (sR (sR (sR (sR q0)))))) Q (Fs1 g n w G l v3 v4 v5 v10 v11 v12 v13 v14 r) W:=by
 revert r;refine @zE 69 _ ?_
 iterate 69 (intro _)
 show Code.wp _ _ _ _ _
 conv=>arg 2;dsimp only[q0,Tryd.f50,Option.getD,sR,sL,cT,cF,bk,lpo]
 conv=>arg 4;dsimp only[Fs1]
 go_wp2_with fail;refine hn.out _ ?_;rfl
theorem VG {i:Nat} {W:World} {n:Nat} {G l:Bool} {v3 v4 v5 v11 v12 v13 v14:Value} {Q:Exit→Act→World→Prop} {r:List Value} (hr:r.length=69) (hi:i<n) (hn:Hid (∀r',r'.length=69→Q .normal (Fs g n w G l (i:Int) v3 v4 v5 v11 v12 v13 v14 r') W)):
  Code.wp Tryd.prog (sL qL) Q (Fs g n w G l (i:Int) v3 v4 v5 v11 v12 v13 v14 r) W:=by
 have k0:(i:Int)<(n:Int):=by omega
 revert r;refine @zE 69 _ ?_
 iterate 69 (intro _)
 show Code.wp _ _ _ _ _
 conv=>arg 2;dsimp only[qL,q0,Tryd.f50,Option.getD,sR,sL,cT,cF,bk,lpo]
 conv=>arg 4;dsimp only[Fs]
 go_wp2_with fail;refine hn.out _ ?_;rfl
theorem VF {i:Nat} {W:World} {n:Nat} {G l:Bool} {v3 v4 v5 v11 v12 v13 v14:Value} {Q:Exit→Act→World→Prop} {r:List Value} (hr:r.length=69) (hi:n≤i) (hn:Hid (∀r',r'.length=69→Q (.exit 0) (Fs g n w G l (i:Int) v3 v4 v5 v11 v12 v13 v14 r') W)):
  Code.wp Tryd.prog (sL qL) Q (Fs g n w G l (i:Int) v3 v4 v5 v11 v12 v13 v14 r) W:=by
 have k0:decide ((i:Int)<(n:Int))=false:=by simp;omega
 revert r;refine @zE 69 _ ?_
 iterate 69 (intro _)
 show Code.wp _ _ _ _ _
 conv=>arg 2;dsimp only[qL,q0,Tryd.f50,Option.getD,sR,sL,cT,cF,bk,lpo]
 conv=>arg 4;dsimp only[Fs]
 go_wp2_with fail;refine hn.out _ ?_;rfl
theorem sndInc {i:Nat} {W:World} {n:Nat} {G l:Bool} {v3 v4 v5 v11 v12 v13 v14:Value} {Q:Exit→Act→World→Prop} {r:List Value} (hr:r.length=69) (hi:i≤100000) (hn:Hid (∀r',r'.length=69→Q .normal (Fs g n w G l ((i+1:Nat):Int) v3 v4 v5 v11 v12 v13 v14 r') W)):
  Code.wp Tryd.prog (sR (sR qL)) Q (Fs g n w G l (i:Int) v3 v4 v5 v11 v12 v13 v14 r) W:=by
 have e1:IntKind.i64.wrap ((i:Int)+1)=((i+1:Nat):Int):=by rw[IntKind.wrap_i64];omega
 revert r;refine @zE 69 _ ?_
 iterate 69 (intro _)
 show Code.wp _ _ _ _ _
 conv=>arg 2;dsimp only[qL,q0,Tryd.f50,Option.getD,sR,sL,cT,cF,bk,lpo]
 conv=>arg 4;dsimp only[Fs]
 go_wp2_with fail;refine hn.out _ ?_;rfl
theorem sndEnd {i:Int} {W:World} {n:Nat} {G l:Bool} {v3 v4 v5 v11 v12 v13 v14:Value} {r:List Value} (hr:r.length=69) {S:Sn} {a b:Value} (Z:Hid (Sq B g w W bs D S iv a b X)) {m:List Im×DS} {k:Nat} (hm:Hid (m=(S.L,S.s))) (hk:X.length≤k):
  Code.wp Tryd.prog (sR (sR (sR (sR (sR q0))))) (bodyPost Tryd.prog Tryd.f50 (RP B g w bs D m k)) (Fs g n w G l i v3 v4 v5 v11 v12 v13 v14 r) W:=by
 obtain⟨pi,ni,ci,rfl⟩:∃a n c,iv=.slice a n c:=by obtain⟨a,c,e,-⟩:=zj Z.out.pg.row;exact⟨_,_,_,e⟩
 have x0:=(za Z.out.bp 0).trans (show _=some (.slice pi ni ci)from rfl);have z0:=(za Z.out.br 0).trans (show _=some (.slice none 0 0)from rfl);have f0:=zb Z.out.br 0;revert r;refine @zE 69 _ ?_
 iterate 69 (intro _)
 show Code.wp _ _ _ _ _
 conv=>arg 2;dsimp only[q0,Tryd.f50,Option.getD,sR,sL,cT,cF,bk,lpo]
 conv=>arg 4;dsimp only[Fs]
 go_wp2;clear x0 z0 f0;have P1:=PgO.far (i:=0) (v:=.slice pi ni ci) Z.out.pg Z.out.br (by decide) (by decide);have C1:=Cu.set (r:=w.heap.size) (i:=0) (v:=.slice pi ni ci) Z.out.c (qn _);have b1:=zk Z.out.br 0 (.slice pi ni ci);simp only[qa,qb,qc]at b1;obtain⟨Y,hY⟩:∃Y,Y=W.setCell ⟨w.heap.size,0,none⟩ (.slice pi ni ci):=⟨_,rfl⟩;rw[←hY]at P1 C1 b1 ⊢;clear hY;have t0:=cl0 b1;refine bodyPost_ret (v:=.agg #[.slice pi ni ci]) (by simp[results,Tryd.results50,go_sem,t0];try rfl) rfl ?_;rw[hm.out];refine⟨_,X,rfl,Z.out.im,P1,C1,?_⟩;show S.L.length≤k;rw[←Z.out.im,List.length_map];exact hk
theorem q0_eq:q0=.seq (sL q0) (.seq (sL (sR q0)) (.seq (sL (sR (sR q0))) (.seq (sL (sR (sR (sR q0)))) (.seq (.seq (sL (sL (sR (sR (sR (sR q0)))))) (.block 0 (.loop qL))) (sR (sR (sR (sR (sR q0))))))))):=rfl
theorem qL_eq:qL=.seq (sL qL) (.seq (.block 1 qB) (sR (sR qL))):=rfl
theorem YX (D:Sr) (G:Bool):∀(i:Nat) (S:Sn),Zy D G (i+1) S=zL D G (Zy D G i S)
 |0,S=>rfl
 |i+1,S=>by rw[Zy,YX D G i (zL D G S)];rfl
theorem VD {n:Nat} {G:Bool} (C0:Cu B g w w bs D s) (hn:n≤100):Calls Tryd.prog 50 #[.pointer (some ⟨g,0,none⟩),.int .i64 (n:Int),.bool G] w (RP B g w bs D (Za D s n G) n):=by
 refine calls_of_wp Tryd.func50 (c:=q0) rfl ?_;rw[show(#[.pointer (some ⟨g,0,none⟩),.int .i64 (n:Int),.bool G]++Array.replicate (Tryd.f50.ntmps- (#[.pointer (some ⟨g,0,none⟩),.int .i64 (n:Int),.bool G]:Array Value).size) undef)=(.pointer (some ⟨g,0,none⟩)::.int .i64 (n:Int)::.bool G::List.replicate 81 undef).toArray from Xt _ _ _ 81,q0_eq];refine UW (r:=List.replicate 81 undef) List.length_replicate (Hm C0) (Hm fun v3 v4 v5 v10 v11 v12 v13 v14 r' wx hr Z0=>?_);refine wp_seq (wp_seq (UT hr (Hm fun r1 hr1=>?_)));show Code.wp _ (.block 0 (.loop qL)) _ _ _;refine wp_block ?_
 refine wp_loop_ghost (fun k a' wx=>∃(i:Nat) (l:Bool) (v3 v4 v5 v11 v12 v13 v14:Value) (r:List Value) (iv a b:Value) (X:List Xi),a'=Fs g n w G l (i:Int) v3 v4 v5 v11 v12 v13 v14 r∧r.length=69∧k=n-i∧i≤n∧X.length≤i∧(Zy D G i ⟨s,[],[],false⟩).l=l∧Sq B g w wx bs D (Zy D G i ⟨s,[],[],false⟩) iv a b X) n ⟨0,false,v3,v4,v5,v11,v12,v13,v14,r1,_,_,_,[],rfl,hr1,by omega,by omega,by simp,rfl,Z0⟩ ?_;rintro k a' wx ⟨i,l,v3,v4,v5,v11,v12,v13,v14,r,iv,a,b,X,rfl,hr,rfl,hi,hX,hl,Z⟩;rw[qL_eq];refine wp_seq ?_;by_cases hlt:i<n
 ·refine VG hr hlt (Hm fun r2 hr2=>?_)
  show Code.wp _ (.seq (.block 1 qB) (sR (sR qL))) _ _ _;refine wp_seq (wp_block ?_)
  have fin:Hid (∀l' v11 v12 v13 v14 r' iv' a' b' X' wx,r'.length=69→Sq B g w wx bs D (zL D G (Zy D G i ⟨s,[],[],false⟩)) iv' a' b' X'→(zL D G (Zy D G i ⟨s,[],[],false⟩)).l=l'→X'.length≤X.length+1→Code.wp Tryd.prog (sR (sR qL)) (Exit.then (fun a' wx=>∃n',n'<n-i∧∃(i:Nat) (l:Bool) (v3 v4 v5 v11 v12 v13 v14:Value) (r:List Value) (iv a b:Value) (X:List Xi),a'=Fs g n w G l (i:Int) v3 v4 v5 v11 v12 v13 v14 r∧r.length=69∧n'=n-i∧i≤n∧X.length≤i∧(Zy D G i ⟨s,[],[],false⟩).l=l∧Sq B g w wx bs D (Zy D G i ⟨s,[],[],false⟩) iv a b X) (Exit.inBlock 0 (Exit.then (Code.wp Tryd.prog (sR (sR (sR (sR (sR q0))))) (bodyPost Tryd.prog Tryd.f50 (RP B g w bs D (Za D s n G) n))) (bodyPost Tryd.prog Tryd.f50 (RP B g w bs D (Za D s n G) n))))) (Fs g n w G l' (i:Int) v3 v4 v5 v11 v12 v13 v14 r') wx):=Hm fun l' v11 v12 v13 v14 r' iv' a' b' X' wx hr' Z' hl' hX'=>by
   refine sndInc hr' (by omega) (Hm fun r3 hr3=>?_);rw[←YX]at Z' hl';exact⟨n- (i+1),by omega,i+1,l',v3,v4,v5,v11,v12,v13,v14,r3,iv',a',b',X',rfl,hr3,rfl,by omega,by omega,hl',Z'⟩
  obtain⟨b0,s1,hb⟩:=two (D.once (Zy D G i ⟨s,[],[],false⟩).s 4);by_cases h6:b0=true∧(Zy D G i ⟨s,[],[],false⟩).ev.length<6
  ·obtain⟨rfl,h6⟩:=h6
   exact sndLet hr2 (Hm Z) hl (by omega) (Hm hb) h6 fin
  ·exact UU hr2 (Hm Z) hl (by omega) (Hm hb) h6 fin
 ·refine VF hr (by omega) (Hm fun r2 hr2=>?_)
  obtain rfl:i=n:=by omega
  show Code.wp _ (sR (sR (sR (sR (sR q0))))) _ _ _;exact sndEnd hr2 (Hm Z) (Hm rfl) hX
end Go.Proofs.YtbdldkpifanaiaaDoor.Dq
namespace Go.Proofs.YtbdldkpifanaiaaDoor.Cd
open Go Go.RowKit Mem Syn Par Dq
attribute [local go_sem ↓] Go.wp_at_zero Go.wp_at_succ
def imZ:Im:=⟨0,[],[],[],0,0,0⟩
def xiZ:Xi:=⟨imZ,.slice none 0 0,.slice none 0 0⟩
def itK (im:Im):It:=⟨im.k,im.n,im.E.length,im.F.length,fun j=>im.E.getD j ⟨0,0,[]⟩,fun j=>im.F.getD j ⟨0,0,[]⟩,im.K,im.lo,im.hi⟩
def prK (L:List Im):Pr:=⟨L.length,fun i=>itK (L.getD i imZ)⟩
def vA:Value→Option Addr
 |.slice a _ _=>a
 |_=>none
def vC:Value→Nat
 |.slice _ _ c=>c
 |_=>0
def loX (x:Xi):Lo:=⟨vA x.e,vA x.f,vC x.e,vC x.f⟩
theorem Yc {B:Nat} {w:World} {v:Value} {L:List Po} (h:OwnO B w v L):v=.slice (vA v) L.length (vC v)∧L.length≤vC v:=by
 obtain⟨a,c,e,hc⟩:=ya h;subst e;exact⟨rfl,hc⟩
theorem TJ:∀(X:List Xi) (i j:Nat),i<X.length→j<7→(X.flatMap Xi.cs)[i*7+j]? =(X.getD i xiZ).cs[j]?
 |[],i,j,h,_=>absurd h (Nat.not_lt_zero _)
 |x::r,0,j,_,hj=>by
  rw[List.flatMap_cons,List.getElem?_append_left (by rw[Xi.len];omega)];simp
 |x::r,i+1,j,h,hj=>by
  have:=TJ r i j (by simpa using h) hj;rw[List.flatMap_cons,List.getElem?_append_right (by rw[Xi.len];omega),Xi.len];rw[show(i+1)*7+j-7=i*7+j by omega,this];simp
theorem flat3:∀(L:List Po) (i j:Nat),i<L.length→j<3→(zW L)[i*3+j]? =(L.getD i ⟨0,0,[]⟩).cells[j]?
 |[],i,j,h,_=>absurd h (Nat.not_lt_zero _)
 |x::r,0,j,_,hj=>by
  unfold zW;rw[List.flatMap_cons,List.getElem?_append_left (by rw[Po.len];omega)];simp
 |x::r,i+1,j,h,hj=>by
  have:=flat3 r i j (by simpa using h) hj;unfold zW at*;rw[List.flatMap_cons,List.getElem?_append_right (by rw[Po.len];omega),Po.len];rw[show(i+1)*3+j-3=i*3+j by omega,this];simp
theorem VW {B:Nat} {w:World} {v:Value} {L:List Po} (h:OwnO B w v L):zq w (vA v) L.length 3 (fun j=>(L.getD j ⟨0,0,[]⟩).cells):=by
 rcases h.2 with⟨h1,h2⟩|⟨g,cap,cur,h1,h2,h3,h4,h5,h6,h7⟩
 ·exact Or.inl h2
 ·refine Or.inr ⟨g,0,by rw[h1];rfl,fun i hi j u hu=>?_⟩
  have hj:j<3:=by
   have:=(List.getElem?_eq_some_iff.1 hu).1;rw[Po.len]at this;exact this
  have:=flat3 L i j hi hj;rw[hu,←h7,List.getElem?_take,if_pos (by omega)]at this;rw[za h3,Nat.zero_add,←this];simp
theorem pgo_at {B:Nat} {w:World} {iv:Value} {X:List Xi} (h:PgO B w iv X):∃a c,iv=.slice a X.length c∧yr w a (prK (X.map Xi.im)) (fun i=>loX (X.getD i xiZ))∧YQ (prK (X.map Xi.im)) (fun i=>loX (X.getD i xiZ)):=by
 obtain⟨a,c,he,hc⟩:=ya h.row;subst he
 have hg:∀i,i<X.length→(X.map Xi.im).getD i imZ=(X.getD i xiZ).im∧X.getD i xiZ∈X:=fun i hi=>by
  simp[List.getD_eq_getElem?_getD,List.getElem?_eq_getElem hi]
 have hl:(prK (X.map Xi.im)).n=X.length:=by simp[prK]
 refine⟨a,c,rfl,⟨?_,?_,?_⟩,?_⟩
 ·rw[hl]
  rcases h.row.2 with⟨h1,h2⟩|⟨g,cap,cur,h1,h2,h3,h4,h5,h6,h7⟩
  ·exact Or.inl h2
  ·injection h1 with h1
   refine Or.inr ⟨g,0,h1,fun i hi j u hu=>?_⟩;obtain⟨e1,e2⟩:=hg i hi
   have hj:j<7:=by
    have:=(List.getElem?_eq_some_iff.1 hu).1;rw[It.len]at this;exact this
   have:=TJ X i j hi hj
   have hcs:(X.getD i xiZ).cs=(itK (X.getD i xiZ).im).cells (loX (X.getD i xiZ)):=by
    have q1:=(Yc (h.e _ e2)).1;have q2:=(Yc (h.f _ e2)).1;simp only[Xi.cs,itC,It.cells,itK,loX];rw[←q1,←q2]
   rw[hcs]at this;simp only[prK]at hu;rw[e1]at hu;rw[hu,←h7,List.getElem?_take,if_pos (by omega)]at this;rw[za h3,Nat.zero_add,←this];simp
 ·intro i hi
  rw[hl]at hi;obtain⟨e1,e2⟩:=hg i hi;simp only[prK];rw[e1];exact VW (h.e _ e2)
 ·intro i hi
  rw[hl]at hi;obtain⟨e1,e2⟩:=hg i hi;simp only[prK];rw[e1];exact VW (h.f _ e2)
 ·intro i hi
  rw[hl]at hi;obtain⟨e1,e2⟩:=hg i hi;simp only[prK];rw[e1];exact⟨(Yc (h.e _ e2)).2,(Yc (h.f _ e2)).2⟩
theorem WC {B:Nat} {w:World} {iv:Value} {X:List Xi} (h:PgO B w iv X):∀k,k≤X.length→Syn.cnt (prK (X.map Xi.im)) k≤6000*k
 |0,_=>Nat.zero_le _
 |k+1,hk=>by
  have ih:=WC h k (by omega);have e1:(X.map Xi.im).getD k imZ=(X.getD k xiZ).im∧X.getD k xiZ∈X:=by simp[List.getD_eq_getElem?_getD,List.getElem?_eq_getElem (show k<X.length by omega)]
  have h3:=h.le _ e1.2
  have e:((prK (X.map Xi.im)).I k).nE+((prK (X.map Xi.im)).I k).nF≤6000:=by
   show(itK ((X.map Xi.im).getD k imZ)).nE+(itK ((X.map Xi.im).getD k imZ)).nF≤6000;rw[e1.1];simp only[itK];omega
  show Syn.cnt (prK (X.map Xi.im)) k+(((prK (X.map Xi.im)).I k).nE+((prK (X.map Xi.im)).I k).nF)≤6000*(k+1);omega
end Go.Proofs.YtbdldkpifanaiaaDoor.Cd
namespace Go.Proofs.YtbdldkpifanaiaaDoor.Cd
open Go Go.RowKit Mem Syn Par Dq Draw
attribute [local go_sem ↓] Go.wp_at_zero Go.wp_at_succ
variable {B g:Nat} {w0 w w':World} {bs:List UInt8} {D:Sr} {s s':DS}
theorem Yb {B' C:Nat} {iv:Value} {X:List Xi} (h:PgO B' w iv X) (hc:C≤B'):PgO C w iv X:=⟨Joins.ownsRow_le h.row hc,fun x hx=>Joins.ownsRow_le (h.e x hx) hc,fun x hx=>Joins.ownsRow_le (h.f x hx) hc,h.ee,h.ef,h.ff,h.le⟩
def dSP (D:Sr) (s:DS) (z:Nat):List Im×DS:=
 match D.bel s z with
 |(x,s1)=>match D.once s1 8 with
  |(o,s2)=>match D.bel s2 6 with
   |(y,s3)=>Za D s3 (if o=true then 1+x+5 else 1+x) (decide (0<y))
theorem size5 (n:Nat):0<xp n 5∧xp n 5≤5:=by unfold xp;split<;>omega
def RPs (B g:Nat) (w:World) (bs:List UInt8) (D:Sr) (r:List Im×DS) (e:Ending) (w':World):Prop:=∃iv X,e=.returned (.agg #[iv])∧X.map Xi.im=r.1∧PgO w.heap.size w' iv X∧Cu B g w w' bs D r.2∧X.length≤100
theorem Wj (p:Option Addr) (n c:Nat) (hn:n≤1048576) (C0:Cu B g w w bs D s):Calls Tryd.prog 27 #[.pointer (some ⟨g,0,none⟩),.slice p n c] w (RPs B g w bs D (dSP D s (xp n 5))):=by
 obtain⟨z,hz⟩:∃z,z=xp n 5:=⟨_,rfl⟩;have hz1:0<z∧z≤5:=by rw[hz];exact size5 _
 have CS:Hid (∀w,Calls Tryd.prog 49 #[.slice p n c,.int .i64 5] w fun e w'=>e=.returned (.int .i64 (z:Int))∧w'=w):=fun w=>by rw[hz];exact sizeD p n c 5 w hn (by omega)
 rw[←hz];clear hz hn;obtain⟨R,hR⟩:∃R,R=dSP D s z:=⟨_,rfl⟩;rw[←hR];have HR:=Hm hR;clear hR;obtain⟨W1,hW1⟩:∃W,W=w.alloc (.cells #[.slice none 0 0] 54):=⟨_,rfl⟩;have K1:Hid (W1.heap[w.heap.size]? =some (.cells #[.slice none 0 0] 54)):=by rw[hW1];exact zi _ _
 have C1:Hid (Cu B g w W1 bs D s):=by rw[hW1];exact C0.al _
 have hgw:=C0.lg;clear C0;go_enter Tryd.func27,Tryd.ntmps27;go_upto_region 1 with fail;rw[←hW1];clear hW1;go_wp2_with (go_at_call 49;refine(CS.out _).mono ?_);rintro e w2 ⟨rfl,hw⟩;rw[hw];clear hw;refine Hid.out ?_;refine Lib.hid ?_;go_wp2_with (go_at_call 22;refine(zQ C1.out z (by omega) (by omega)).mono ?_);rintro e w3 ⟨x,s1,hx,hxz,rfl,hc,hgb⟩;have K3:=Hm (Cu.blk C1.out (by omega) K1.out hgb);have C3:=Hm hc;have HX:=Hm hx;clear hc hgb hx C1 K1;have u1:IntKind.i64.wrap (1+(x:Int))=1+(x:Int):=by rw[IntKind.wrap_i64];omega
 refine Hid.out ?_;refine Lib.hid ?_;go_wp2_with (go_at_call 28;refine(Zo C3.out 8 (by omega) (by omega)).mono ?_);rintro e w4 ⟨o,s2,ho,rfl,hc,hgb⟩;have K4:=Hm (Cu.blk C3.out (by omega) K3.out hgb);have C4:=Hm hc;have HO:=Hm ho;clear hc hgb ho C3 K3;refine Hid.out ?_;refine Lib.hid ?_
 cases o with
 |true=>
  have u2:IntKind.i64.wrap (1+(x:Int)+5)=1+(x:Int)+5:=by rw[IntKind.wrap_i64];omega
  have SD:Hid (∀W s (G:Bool),Cu B g W W bs D s→Calls Tryd.prog 50 #[.pointer (some ⟨g,0,none⟩),.int .i64 (1+(x:Int)+5),.bool G] W (RP B g W bs D (Za D s (1+x+5) G) (1+x+5))):=fun W s G hC=>by
   have:=VD (n:=1+x+5) (G:=G) hC (by omega);rw[show((1+x+5:Nat):Int)=1+(x:Int)+5 by omega]at this;exact this
  go_wp2_with (go_at_call 22;refine(zQ C4.out 6 (by omega) (by omega)).mono ?_);rintro e w5 ⟨y,s3,hy,hy6,rfl,hc,hgb⟩;have K5:=Hm (Cu.blk C4.out (by omega) K4.out hgb);have C5:=Hm hc;have HY:=Hm hy;clear hc hgb hy C4 K4
  have HRR:Hid (R=Za D s3 (1+x+5) (decide (0<y))):=by
   unfold Hid;rw[HR.out];simp only[dSP,HX.out,HO.out,HY.out];simp
  refine Hid.out ?_;refine Lib.hid ?_;by_cases hy0:0<y
  ·have hyi:(0:Int)<(y:Int):=by omega
   rw[decide_eq_true hy0]at HRR;go_wp2_with (go_at_call 50;refine(SD.out _ _ _ C5.out.self).mono ?_);rintro e w6 ⟨iv,X,rfl,hX,hp,hc,hlen⟩;obtain⟨pi,ci,rfl,-⟩:=ya hp.row;have K6:=Hm (Cu.blk C5.out (by omega) K5.out hc.gb);have C6:=Hm (C5.out.in' hc);have hP:=Hm (Yb hp C5.out.size);obtain⟨ni,hni⟩:∃n,n=X.length:=⟨_,rfl⟩;have hXl:ni≤100:=by rw[hni,←List.length_map (f:=Xi.im),hX];omega
   rw[←hni]at hP ⊢;have HNI:=Hm hni;have HX6:=Hm hX;clear hp hc hX hlen hni C5 K5;have z0:=cl0 K6.out;have f0:=zb K6.out 0;refine Hid.out ?_;refine Lib.hid ?_;go_wp2;clear z0 f0;have P1:=PgO.far (i:=0) (v:=.slice pi ni ci) hP.out K6.out (by decide) (by decide);have C1:=Cu.set (r:=w.heap.size) (i:=0) (v:=.slice pi ni ci) C6.out (qn _);have b1:=zk K6.out 0 (.slice pi ni ci);simp only[qa,qb,qc]at b1;obtain⟨Y,hY⟩:∃Y,Y=w6.setCell ⟨w.heap.size,0,none⟩ (.slice pi ni ci):=⟨_,rfl⟩;rw[←hY]at P1 C1 b1 ⊢;clear hY;have t0:=cl0 b1;refine bodyPost_ret (v:=.agg #[.slice pi ni ci]) (by simp[results,Tryd.results27,go_sem,t0];try rfl) rfl ?_;rw[HRR.out];exact⟨_,X,rfl,HX6.out,P1,C1,by rw[←HNI.out];exact hXl⟩
  ·have hyi:decide ((0:Int)<(y:Int))=false:=by simp;omega
   rw[decide_eq_false hy0]at HRR;go_wp2_with (go_at_call 50;refine(SD.out _ _ _ C5.out.self).mono ?_);rintro e w6 ⟨iv,X,rfl,hX,hp,hc,hlen⟩;obtain⟨pi,ci,rfl,-⟩:=ya hp.row;have K6:=Hm (Cu.blk C5.out (by omega) K5.out hc.gb);have C6:=Hm (C5.out.in' hc);have hP:=Hm (Yb hp C5.out.size);obtain⟨ni,hni⟩:∃n,n=X.length:=⟨_,rfl⟩;have hXl:ni≤100:=by rw[hni,←List.length_map (f:=Xi.im),hX];omega
   rw[←hni]at hP ⊢;have HNI:=Hm hni;have HX6:=Hm hX;clear hp hc hX hlen hni C5 K5;have z0:=cl0 K6.out;have f0:=zb K6.out 0;refine Hid.out ?_;refine Lib.hid ?_;go_wp2;clear z0 f0;have P1:=PgO.far (i:=0) (v:=.slice pi ni ci) hP.out K6.out (by decide) (by decide);have C1:=Cu.set (r:=w.heap.size) (i:=0) (v:=.slice pi ni ci) C6.out (qn _);have b1:=zk K6.out 0 (.slice pi ni ci);simp only[qa,qb,qc]at b1;obtain⟨Y,hY⟩:∃Y,Y=w6.setCell ⟨w.heap.size,0,none⟩ (.slice pi ni ci):=⟨_,rfl⟩;rw[←hY]at P1 C1 b1 ⊢;clear hY;have t0:=cl0 b1;refine bodyPost_ret (v:=.agg #[.slice pi ni ci]) (by simp[results,Tryd.results27,go_sem,t0];try rfl) rfl ?_;rw[HRR.out];exact⟨_,X,rfl,HX6.out,P1,C1,by rw[←HNI.out];exact hXl⟩
 |false=>
  have SD:Hid (∀W s (G:Bool),Cu B g W W bs D s→Calls Tryd.prog 50 #[.pointer (some ⟨g,0,none⟩),.int .i64 (1+(x:Int)),.bool G] W (RP B g W bs D (Za D s (1+x) G) (1+x))):=fun W s G hC=>by
   have:=VD (n:=1+x) (G:=G) hC (by omega);rw[show((1+x:Nat):Int)=1+(x:Int) by omega]at this;exact this
  go_wp2_with (go_at_call 22;refine(zQ C4.out 6 (by omega) (by omega)).mono ?_);rintro e w5 ⟨y,s3,hy,hy6,rfl,hc,hgb⟩;have K5:=Hm (Cu.blk C4.out (by omega) K4.out hgb);have C5:=Hm hc;have HY:=Hm hy;clear hc hgb hy C4 K4
  have HRR:Hid (R=Za D s3 (1+x) (decide (0<y))):=by
   unfold Hid;rw[HR.out];simp only[dSP,HX.out,HO.out,HY.out];simp
  refine Hid.out ?_;refine Lib.hid ?_;by_cases hy0:0<y
  ·have hyi:(0:Int)<(y:Int):=by omega
   rw[decide_eq_true hy0]at HRR;go_wp2_with (go_at_call 50;refine(SD.out _ _ _ C5.out.self).mono ?_);rintro e w6 ⟨iv,X,rfl,hX,hp,hc,hlen⟩;obtain⟨pi,ci,rfl,-⟩:=ya hp.row;have K6:=Hm (Cu.blk C5.out (by omega) K5.out hc.gb);have C6:=Hm (C5.out.in' hc);have hP:=Hm (Yb hp C5.out.size);obtain⟨ni,hni⟩:∃n,n=X.length:=⟨_,rfl⟩;have hXl:ni≤100:=by rw[hni,←List.length_map (f:=Xi.im),hX];omega
   rw[←hni]at hP ⊢;have HNI:=Hm hni;have HX6:=Hm hX;clear hp hc hX hlen hni C5 K5;have z0:=cl0 K6.out;have f0:=zb K6.out 0;refine Hid.out ?_;refine Lib.hid ?_;go_wp2;clear z0 f0;have P1:=PgO.far (i:=0) (v:=.slice pi ni ci) hP.out K6.out (by decide) (by decide);have C1:=Cu.set (r:=w.heap.size) (i:=0) (v:=.slice pi ni ci) C6.out (qn _);have b1:=zk K6.out 0 (.slice pi ni ci);simp only[qa,qb,qc]at b1;obtain⟨Y,hY⟩:∃Y,Y=w6.setCell ⟨w.heap.size,0,none⟩ (.slice pi ni ci):=⟨_,rfl⟩;rw[←hY]at P1 C1 b1 ⊢;clear hY;have t0:=cl0 b1;refine bodyPost_ret (v:=.agg #[.slice pi ni ci]) (by simp[results,Tryd.results27,go_sem,t0];try rfl) rfl ?_;rw[HRR.out];exact⟨_,X,rfl,HX6.out,P1,C1,by rw[←HNI.out];exact hXl⟩
  ·have hyi:decide ((0:Int)<(y:Int))=false:=by simp;omega
   rw[decide_eq_false hy0]at HRR;go_wp2_with (go_at_call 50;refine(SD.out _ _ _ C5.out.self).mono ?_);rintro e w6 ⟨iv,X,rfl,hX,hp,hc,hlen⟩;obtain⟨pi,ci,rfl,-⟩:=ya hp.row;have K6:=Hm (Cu.blk C5.out (by omega) K5.out hc.gb);have C6:=Hm (C5.out.in' hc);have hP:=Hm (Yb hp C5.out.size);obtain⟨ni,hni⟩:∃n,n=X.length:=⟨_,rfl⟩;have hXl:ni≤100:=by rw[hni,←List.length_map (f:=Xi.im),hX];omega
   rw[←hni]at hP ⊢;have HNI:=Hm hni;have HX6:=Hm hX;clear hp hc hX hlen hni C5 K5;have z0:=cl0 K6.out;have f0:=zb K6.out 0;refine Hid.out ?_;refine Lib.hid ?_;go_wp2;clear z0 f0;have P1:=PgO.far (i:=0) (v:=.slice pi ni ci) hP.out K6.out (by decide) (by decide);have C1:=Cu.set (r:=w.heap.size) (i:=0) (v:=.slice pi ni ci) C6.out (qn _);have b1:=zk K6.out 0 (.slice pi ni ci);simp only[qa,qb,qc]at b1;obtain⟨Y,hY⟩:∃Y,Y=w6.setCell ⟨w.heap.size,0,none⟩ (.slice pi ni ci):=⟨_,rfl⟩;rw[←hY]at P1 C1 b1 ⊢;clear hY;have t0:=cl0 b1;refine bodyPost_ret (v:=.agg #[.slice pi ni ci]) (by simp[results,Tryd.results27,go_sem,t0];try rfl) rfl ?_;rw[HRR.out];exact⟨_,X,rfl,HX6.out,P1,C1,by rw[←HNI.out];exact hXl⟩
end Go.Proofs.YtbdldkpifanaiaaDoor.Cd
