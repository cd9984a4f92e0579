import Derived.Test.YtbkajklninmhiaaGreatDoorPm27
set_option maxHeartbeats 6400000
set_option maxRecDepth 1000000
set_option linter.unusedVariables false
set_option linter.unusedSimpArgs false
open List renaming setIfInBounds_toArray → qa, set_cons_zero → qb, set_cons_succ → qc, length_append → qg
open Nat renaming le_refl → qp
namespace Go.Proofs.YtbkajklninmhiaaGreatDoor.Dq
open Go Go.RowKit Mem Syn Parse Par Draw
attribute [local go_sem ↓] Go.wp_at_zero Go.wp_at_succ
variable {B g:Nat} {w0 w w':World} {bs:List UInt8} {D:Sr} {s s':DS}
variable {iv:Value} {X:List Xi}
noncomputable def u10:Code:=sR (sR (sR (sR (sR u5))))
structure Ue (B g:Nat) (w0 w W:World) (bs:List UInt8) (D:Sr) (s:DS) (iv:Value) (X:List Xi):Prop where
 c:Cu B g w0 W bs D s
 p:PgO w0.heap.size W iv X
 l0:w0.heap.size≤w.heap.size
 box:W.heap[w.heap.size]? =some (.cells #[iv] 25)
 res:W.heap[w.heap.size+1]? =some (.cells #[.slice none 0 0] 25)
 od:Old w W
 ln:X.length≤200
theorem Sz.ue {W:World} {gi:Nat} {x:Xi} (h:Sz B g w0 w W bs D s iv X gi x) (hl:X.length≤200):Ue B g w0 w W bs D s iv X:=⟨h.c,h.p,h.l0,h.box,h.res,h.od,hl⟩
theorem PgO.snoc2 {B':Nat} {y z:Xi} {v':Value} (h:PgO B' w iv X) (hy:y.e=.slice none 0 0∧y.f=.slice none 0 0∧y.im.E=[]∧y.im.F=[]) (hz:z.e=.slice none 0 0∧z.f=.slice none 0 0∧z.im.E=[]∧z.im.F=[]) (row:w'.ownsRow B' 38 7 v' (X.length+2) (X.flatMap Xi.cs++(y.cs++z.cs))) (hg:w.grownBy w' iv.ownBlock):PgO B' w' v' (X++[y,z]):=by
 have kO:∀{v:Value} {L:List Po},OwnO B' w v L→OwnO B' w' v L:=fun ho=>yY ho hg h.row (by decide)
 have sp:∀{p:Xi→Prop},(∀x∈X,p x)→p y→p z→∀x∈X++[y,z],p x:=fun {p} h1 h2 h3 x hx=>by
  rcases List.mem_append.1 hx with hx|hx
  ·exact h1 x hx
  ·simp only[List.mem_cons,List.not_mem_nil,or_false]at hx
   rcases hx with rfl|rfl
   ·exact h2
   ·exact h3
 have nl:∀{v:Value},Ap v (.slice none 0 0):=fun {v}=>zS v
 obtain⟨ye,yf,yE,yF⟩:=hy;obtain⟨ze,zf,zE,zF⟩:=hz;refine⟨?_,sp (fun x hx=>kO (h.e x hx)) (by rw[ye,yE];exact zP _ _) (by rw[ze,zE];exact zP _ _),sp (fun x hx=>kO (h.f x hx)) (by rw[yf,yF];exact zP _ _) (by rw[zf,zF];exact zP _ _),?_,?_,?_,sp h.le (by rw[yE,yF];simp) (by rw[zE,zF];simp)⟩
 ·rw[qg,List.flatMap_append]
  simpa using row
 ·exact sp (fun x hx=>sp (h.ee x hx) (by rw[ye];exact nl) (by rw[ze];exact nl)) (sp (fun x hx=>by rw[ye];exact nl.symm) (by rw[ye];exact nl) (by rw[ze];exact nl)) (sp (fun x hx=>by rw[ze];exact nl.symm) (by rw[ye];exact nl) (by rw[ze];exact nl))
 ·exact sp (fun x hx=>sp (h.ef x hx) (by rw[yf];exact nl) (by rw[zf];exact nl)) (sp (fun x hx=>by rw[ye];exact nl.symm) (by rw[yf];exact nl) (by rw[zf];exact nl)) (sp (fun x hx=>by rw[ze];exact nl.symm) (by rw[yf];exact nl) (by rw[zf];exact nl))
 ·exact sp (fun x hx=>sp (h.ff x hx) (by rw[yf];exact nl) (by rw[zf];exact nl)) (sp (fun x hx=>by rw[yf];exact nl.symm) (by rw[yf];exact nl) (by rw[zf];exact nl)) (sp (fun x hx=>by rw[zf];exact nl.symm) (by rw[yf];exact nl) (by rw[zf];exact nl))
theorem fillL2 (k k':Int):Instr.fill (fun i=>some (i*7,7)) ((Array.range (2*7)).map ((Value.agg #[.int .i64 0,.string ⟨#[]⟩,.slice none 0 0,.slice none 0 0,.int .i64 0,.int .i64 0,.int .i64 0]).cells[·% (Value.agg #[.int .i64 0,.string ⟨#[]⟩,.slice none 0 0,.slice none 0 0,.int .i64 0,.int .i64 0,.int .i64 0]).cells.size]!)) [(0,.agg [Value.int .i64 7,.string ⟨#[]⟩,.slice none 0 0,.slice none 0 0,.int .i64 k,.int .i64 0,.int .i64 0].toArray),(1,.agg [Value.int .i64 7,.string ⟨#[]⟩,.slice none 0 0,.slice none 0 0,.int .i64 k',.int .i64 0,.int .i64 0].toArray)]=some [Value.int .i64 7,.string ⟨#[]⟩,.slice none 0 0,.slice none 0 0,.int .i64 k,.int .i64 0,.int .i64 0,.int .i64 7,.string ⟨#[]⟩,.slice none 0 0,.slice none 0 0,.int .i64 k',.int .i64 0,.int .i64 0].toArray:=by kernel_rfl
theorem unEnd {W:World} {gi:Nat} {j k:Int} {m:List Im×DS} {v1 v2 v8 v9 v10 v11 v12:Value} {r:List Value} (hr:r.length=188) (Z:Hid (Ue B g w0 w W bs D s iv X)) (hm:Hid (m=(X.map Xi.im,s))):
  Code.wp Tryz.prog u10 (bodyPost Tryz.prog Tryz.f32 (RU B g w0 w bs D m)) (Fu g w gi j k v1 v2 v8 v9 v10 v11 v12 r) W:=by
 obtain⟨pi,ni,ci,rfl⟩:∃a n c,iv=.slice a n c:=by obtain⟨a,c,e,-⟩:=zh Z.out.p.row;exact⟨_,_,_,e⟩
 have x0:=(zb Z.out.box 0).trans (show _=some (.slice pi ni ci)from rfl);have z0:=(zb Z.out.res 0).trans (show _=some (.slice none 0 0)from rfl);have f0:=zc Z.out.res 0;revert r;refine @zp 188 _ ?_
 iterate 188 (intro _)
 show Code.wp _ _ _ _ _
 conv=>arg 2;dsimp only[u10,u5,u0,Tryz.f32,Option.getD,sR,sL,cT,cF,bk,lpo]
 conv=>arg 4;dsimp only[Fu]
 go_wp2;clear x0 z0 f0;have P1:=PgO.far (i:=0) (v:=.slice pi ni ci) Z.out.p Z.out.res (by decide) (by decide);have C1:=Cu.set (r:=w.heap.size+1) (i:=0) (v:=.slice pi ni ci) Z.out.c (by have:=Z.out.l0;omega);have b1:=zq Z.out.res 0 (.slice pi ni ci);simp only[qa,qb,qc]at b1;obtain⟨Y,hY⟩:∃Y,Y=W.setCell ⟨w.heap.size+1,0,none⟩ (.slice pi ni ci):=⟨_,rfl⟩;have q9:=Old.new (b:=w.heap.size+1) (i:=0) (v:=.slice pi ni ci) Z.out.od (Nat.le_succ _);rw[←hY]at P1 C1 b1 q9 ⊢;clear hY;have t0':=cL0 b1;refine bodyPost_ret (v:=.agg #[.slice pi ni ci]) (by simp[results,Tryz.results32,go_sem,t0'];try rfl) rfl ?_;rw[hm.out];exact⟨_,X,rfl,rfl,P1,C1,q9,by rw[List.length_map];exact Z.out.ln⟩
theorem unK0 {W:World} {gi j n cI bI nE qE nF qF:Nat} {aE aF:Option Addr} {im:Im} {A:Code} {Q:Exit→Act→World→Prop} {v1 v2 v8 v9 v10 v11 v12:Value} {r:List Value} (hr:r.length=188) (Z:Hid (Sz B g w0 w W bs D s (.slice (some ⟨bI,0,none⟩) n cI) X gi ⟨im,.slice aE nE qE,.slice aF nF qF⟩)) (hmem:Hid (X[j]? =some ⟨im,.slice aE nE qE,.slice aF nF qF⟩)) (hn:n=X.length) (hn1:n≤190)
  (hA:Hid (∀v8 v9 v10 v11 v12 r' wx s' iv' X',r'.length=188→Ue B g w0 w wx bs D s' iv' X'→ya D (X.map Xi.im) j 0 s=(X'.map Xi.im,s')→Code.wp Tryz.prog A Q (Fu g w gi (j:Int) 0 v1 v2 v8 v9 v10 v11 v12 r') wx)):Code.wp Tryz.prog (.seq (sL u5) (.seq (sL (sR u5)) (.seq (sL (sR (sR u5))) (.seq (sL (sR (sR (sR u5)))) (.seq (sL (sR (sR (sR (sR u5))))) (A)))))) Q (Fu g w gi (j:Int) 0 v1 v2 v8 v9 v10 v11 v12 r) W:=by
 obtain⟨i0,hi,hz0,hz1,hz2⟩:=info_parts Wo;have HN:=Hm hn;have hb:Below W.heap.size W (W.alloc (.cells ((itC ⟨7,[],[],[],2,0,0⟩ (.slice none 0 0) (.slice none 0 0))++(itC ⟨7,[],[],[],3,0,0⟩ (.slice none 0 0) (.slice none 0 0))).toArray 38)):=zd (Below.refl _ _) _;have ZA:Hid (Ue B g w0 w (W.alloc (.cells ((itC ⟨7,[],[],[],2,0,0⟩ (.slice none 0 0) (.slice none 0 0))++(itC ⟨7,[],[],[],3,0,0⟩ (.slice none 0 0) (.slice none 0 0))).toArray 38)) bs D s (.slice (some ⟨bI,0,none⟩) n cI) X):=⟨Z.out.c.below hb,Z.out.p.below hb,Z.out.l0,zg Z.out.box hb,zg Z.out.res hb,Z.out.od.below hb,by omega⟩
 have RA:Hid ((W.alloc (.cells ((itC ⟨7,[],[],[],2,0,0⟩ (.slice none 0 0) (.slice none 0 0))++(itC ⟨7,[],[],[],3,0,0⟩ (.slice none 0 0) (.slice none 0 0))).toArray 38)).ownsRow w0.heap.size 38 7 (.slice (some ⟨bI,0,none⟩) n cI) n (X.flatMap Xi.cs)):=by
  have:=ZA.out.p.row;rw[←HN.out]at this;exact this
 have hzA:=ZA.out.c.size
 have newsA:∀q u,((itC ⟨7,[],[],[],2,0,0⟩ (.slice none 0 0) (.slice none 0 0))++(itC ⟨7,[],[],[],3,0,0⟩ (.slice none 0 0) (.slice none 0 0)))[q]? =some u→(W.alloc (.cells ((itC ⟨7,[],[],[],2,0,0⟩ (.slice none 0 0) (.slice none 0 0))++(itC ⟨7,[],[],[],3,0,0⟩ (.slice none 0 0) (.slice none 0 0))).toArray 38)).cell? ((⟨W.heap.size,0,none⟩:Addr).add q)=some u:=fun q u hu=>by
  rw[Addr.add_lit,Nat.zero_add,zb (zo W _) q];simpa using hu
 have oneA:∀u∈(itC ⟨7,[],[],[],2,0,0⟩ (.slice none 0 0) (.slice none 0 0))++(itC ⟨7,[],[],[],3,0,0⟩ (.slice none 0 0) (.slice none 0 0)),u.oneCell'=true:=fun u hu=>by
  rcases List.mem_append.1 hu with h|h
  ·exact Yd _ none 0 0 none 0 0 u h
  ·exact Yd _ none 0 0 none 0 0 u h
 have fillA:=fillL2 2 3;have b0:=(zb Z.out.box 0).trans (show _=some ((.slice (some ⟨bI,0,none⟩) n cI))from rfl);clear hb hn;revert r;refine @zp 188 _ ?_
 iterate 188 (intro _)
 show Code.wp _ _ _ _ _
 conv=>arg 2;dsimp only[u5,u0,Tryz.f32,Option.getD,sR,sL,cT,cF,bk,lpo]
 conv=>arg 4;dsimp only[Fu]
 go_wp2_with (first|(at_builtin;go_must (refine wpList_append_own_at _ rfl _ _ 23 rfl w0.heap.size 38 i0 (.agg #[.int .i64 0,.string ⟨#[]⟩,.slice none 0 0,.slice none 0 0,.int .i64 0,.int .i64 0,.int .i64 0]) 7 96 Tryz.underlying23 hi hz0 hz1 hz2 rfl (by decide) _ _ _ rfl RA.out ⟨W.heap.size,0,none⟩ 2 2 ((itC ⟨7,[],[],[],2,0,0⟩ (.slice none 0 0) (.slice none 0 0))++(itC ⟨7,[],[],[],3,0,0⟩ (.slice none 0 0) (.slice none 0 0))) rfl rfl newsA oneA (by unfold maxLen;omega) (by omega) hzA ?_))|(refine Zj rfl 23 38 _ _ rfl i0 _ Tryz.underlying23 hi hz0 7 hz1 (itC ⟨7,[],[],[],2,0,0⟩ (.slice none 0 0) (.slice none 0 0)) (itC ⟨7,[],[],[],3,0,0⟩ (.slice none 0 0) (.slice none 0 0)) rfl rfl fillA (by decide) (by decide) ?_));clear b0;intro vi w1 hov hgr _ _
 have P1:Hid (PgO w0.heap.size w1 vi (X++[⟨⟨7,[],[],[],2,0,0⟩,.slice none 0 0,.slice none 0 0⟩,⟨⟨7,[],[],[],3,0,0⟩,.slice none 0 0,.slice none 0 0⟩])):=by
  refine PgO.snoc2 (y:=⟨⟨7,[],[],[],2,0,0⟩,.slice none 0 0,.slice none 0 0⟩) (z:=⟨⟨7,[],[],[],3,0,0⟩,.slice none 0 0,.slice none 0 0⟩) ZA.out.p ⟨rfl,rfl,rfl,rfl⟩ ⟨rfl,rfl,rfl,rfl⟩ ?_ hgr;rw[HN.out]at hov;exact hov
 have C1:=Hm (Cu.app ZA.out.c RA.out (by decide) hgr);have bx1:=Hm (zz hgr RA.out ZA.out.box (by decide));have rs1:=Hm (zz hgr RA.out ZA.out.res (by decide));obtain⟨pj,nj,cj,rfl⟩:∃a n c,vi=.slice a n c:=by obtain⟨a,c,e,-⟩:=zh hov;exact⟨_,_,_,e⟩
 have OD1:=Hm (ZA.out.od.app RA.out (by decide) hgr);clear hov hgr RA ZA newsA oneA fillA;have y0:=cL0 bx1.out;have f0:=zc bx1.out 0;have hl0:=Z.out.l0
 have Z2:Hid (Ue B g w0 w (w1.setCell ⟨w.heap.size,0,none⟩ (.slice pj nj cj)) bs D s (.slice pj nj cj) (X++[⟨⟨7,[],[],[],2,0,0⟩,.slice none 0 0,.slice none 0 0⟩,⟨⟨7,[],[],[],3,0,0⟩,.slice none 0 0,.slice none 0 0⟩])):=by
  refine⟨Cu.set C1.out hl0,PgO.far P1.out bx1.out (by decide) (by decide),hl0,?_,zu rs1.out (by omega) 0 _,OD1.out.new (qp _),by rw[qg];have:=HN.out;simp;omega⟩;have b1:=zq bx1.out 0 (.slice pj nj cj);simp only[qa,qb,qc]at b1;exact b1
 refine Hid.out ?_;refine Lib.hid ?_;go_wp2_with fail;refine hA.out _ _ _ _ _ _ _ s _ (X++[⟨⟨7,[],[],[],2,0,0⟩,.slice none 0 0,.slice none 0 0⟩,⟨⟨7,[],[],[],3,0,0⟩,.slice none 0 0,.slice none 0 0⟩]) ?_ Z2.out ?_
 ·rfl
 ·simp[ya]
theorem unK2n {W:World} {gi j n cI bI nE qE nF qF:Nat} {aE aF:Option Addr} {im:Im} {A:Code} {Q:Exit→Act→World→Prop} {v1 v2 v8 v9 v10 v11 v12:Value} {r:List Value} (hr:r.length=188) (Z:Hid (Sz B g w0 w W bs D s (.slice (some ⟨bI,0,none⟩) n cI) X gi ⟨im,.slice aE nE qE,.slice aF nF qF⟩)) (hmem:Hid (X[j]? =some ⟨im,.slice aE nE qE,.slice aF nF qF⟩)) (hn:n=X.length) (hn1:n≤190) (hj:¬j+1<n)
  (hA:Hid (∀v8 v9 v10 v11 v12 r' wx s' iv' X',r'.length=188→Ue B g w0 w wx bs D s' iv' X'→ya D (X.map Xi.im) j 2 s=(X'.map Xi.im,s')→Code.wp Tryz.prog A Q (Fu g w gi (j:Int) 2 v1 v2 v8 v9 v10 v11 v12 r') wx)):Code.wp Tryz.prog (.seq (sL u5) (.seq (sL (sR u5)) (.seq (sL (sR (sR u5))) (.seq (sL (sR (sR (sR u5)))) (.seq (sL (sR (sR (sR (sR u5))))) (A)))))) Q (Fu g w gi (j:Int) 2 v1 v2 v8 v9 v10 v11 v12 r) W:=by
 have HN9:=Hm (And.intro hn hn1);have hgD:(X.map Xi.im).getD j imZ=im:=by rw[List.getD_eq_getElem?_getD,List.getElem?_map,hmem.out];rfl
 have HGD:=Hm hgD;clear hgD;have e1:IntKind.i64.wrap ((j:Int)+1)=(j:Int)+1:=by rw[IntKind.wrap_i64];have:=(List.getElem?_eq_some_iff.1 hmem.out).1;omega
 have k0:decide ((j:Int)+1<(n:Int))=false:=by simp;omega
 have b0:=(zb Z.out.box 0).trans (show _=some ((.slice (some ⟨bI,0,none⟩) n cI))from rfl);have HN:=Hm hn;clear hn;revert r;refine @zp 188 _ ?_
 iterate 188 (intro _)
 show Code.wp _ _ _ _ _
 conv=>arg 2;dsimp only[u5,u0,Tryz.f32,Option.getD,sR,sL,cT,cF,bk,lpo]
 conv=>arg 4;dsimp only[Fu]
 go_wp2_with fail;refine hA.out _ _ _ _ _ _ _ s _ X ?_ (Z.out.ue (by have:=HN9.out;omega)) ?_
 ·rfl
 ·unfold ya
  simp only[Nat.reduceEqDiff,if_false,Nat.reduceLT,false_and,if_true,List.length_map];rw[if_neg (by rw[←HN.out];exact hj)]
theorem unN3 {W:World} {gi j n cI bI nE qE nF qF:Nat} {aE aF:Option Addr} {im:Im} {A:Code} {Q:Exit→Act→World→Prop} {v1 v2 v8 v9 v10 v11 v12:Value} {r:List Value} (hr:r.length=188) (Z:Hid (Sz B g w0 w W bs D s (.slice (some ⟨bI,0,none⟩) n cI) X gi ⟨im,.slice aE nE qE,.slice aF nF qF⟩)) (hmem:Hid (X[j]? =some ⟨im,.slice aE nE qE,.slice aF nF qF⟩)) (hn:n=X.length) (hn1:n≤190) (hE:im.E.length=0)
  (hA:Hid (∀v8 v9 v10 v11 v12 r' wx s' iv' X',r'.length=188→Ue B g w0 w wx bs D s' iv' X'→ya D (X.map Xi.im) j 3 s=(X'.map Xi.im,s')→Code.wp Tryz.prog A Q (Fu g w gi (j:Int) 3 v1 v2 v8 v9 v10 v11 v12 r') wx)):Code.wp Tryz.prog (.seq (sL u5) (.seq (sL (sR u5)) (.seq (sL (sR (sR u5))) (.seq (sL (sR (sR (sR u5)))) (.seq (sL (sR (sR (sR (sR u5))))) (A)))))) Q (Fu g w gi (j:Int) 3 v1 v2 v8 v9 v10 v11 v12 r) W:=by
 have HN9:=Hm (And.intro hn hn1);have hgD:(X.map Xi.im).getD j imZ=im:=by rw[List.getD_eq_getElem?_getD,List.getElem?_map,hmem.out];rfl
 have HGD:=Hm hgD;clear hgD;have hnE:nE=0:=by obtain⟨a',c',e,-⟩:=zh Z.out.e;injection e with _ e _;rw[e];exact hE
 have k0:decide ((0:Int)<(nE:Int))=false:=by simp;omega
 have k1:¬0<nE:=by omega
 have k2:decide (0<nE)=false:=by simp;omega
 have y0:=(zb Z.out.it 2).trans (show _=some (.slice aE nE qE)from rfl);clear hnE;revert r;refine @zp 188 _ ?_
 iterate 188 (intro _)
 show Code.wp _ _ _ _ _
 conv=>arg 2;dsimp only[u5,u0,Tryz.f32,Option.getD,sR,sL,cT,cF,bk,lpo]
 conv=>arg 4;dsimp only[Fu]
 go_wp2_with fail;refine hA.out _ _ _ _ _ _ _ s _ X ?_ (Z.out.ue (by have:=HN9.out;omega)) ?_
 ·rfl
 ·unfold ya
  rw[HGD.out];simp[hE]
theorem unN4 {W:World} {gi j n cI bI nE qE nF qF:Nat} {aE aF:Option Addr} {im:Im} {A:Code} {Q:Exit→Act→World→Prop} {v1 v2 v8 v9 v10 v11 v12:Value} {r:List Value} (hr:r.length=188) (Z:Hid (Sz B g w0 w W bs D s (.slice (some ⟨bI,0,none⟩) n cI) X gi ⟨im,.slice aE nE qE,.slice aF nF qF⟩)) (hmem:Hid (X[j]? =some ⟨im,.slice aE nE qE,.slice aF nF qF⟩)) (hn:n=X.length) (hn1:n≤190) (hE:im.E.length=0)
  (hA:Hid (∀v8 v9 v10 v11 v12 r' wx s' iv' X',r'.length=188→Ue B g w0 w wx bs D s' iv' X'→ya D (X.map Xi.im) j 4 s=(X'.map Xi.im,s')→Code.wp Tryz.prog A Q (Fu g w gi (j:Int) 4 v1 v2 v8 v9 v10 v11 v12 r') wx)):Code.wp Tryz.prog (.seq (sL u5) (.seq (sL (sR u5)) (.seq (sL (sR (sR u5))) (.seq (sL (sR (sR (sR u5)))) (.seq (sL (sR (sR (sR (sR u5))))) (A)))))) Q (Fu g w gi (j:Int) 4 v1 v2 v8 v9 v10 v11 v12 r) W:=by
 have HN9:=Hm (And.intro hn hn1);have hgD:(X.map Xi.im).getD j imZ=im:=by rw[List.getD_eq_getElem?_getD,List.getElem?_map,hmem.out];rfl
 have HGD:=Hm hgD;clear hgD;have hnE:nE=0:=by obtain⟨a',c',e,-⟩:=zh Z.out.e;injection e with _ e _;rw[e];exact hE
 have k0:decide ((0:Int)<(nE:Int))=false:=by simp;omega
 have k1:¬0<nE:=by omega
 have k2:decide (0<nE)=false:=by simp;omega
 have y0:=(zb Z.out.it 2).trans (show _=some (.slice aE nE qE)from rfl);clear hnE;revert r;refine @zp 188 _ ?_
 iterate 188 (intro _)
 show Code.wp _ _ _ _ _
 conv=>arg 2;dsimp only[u5,u0,Tryz.f32,Option.getD,sR,sL,cT,cF,bk,lpo]
 conv=>arg 4;dsimp only[Fu]
 go_wp2_with fail;refine hA.out _ _ _ _ _ _ _ s _ X ?_ (Z.out.ue (by have:=HN9.out;omega)) ?_
 ·rfl
 ·unfold ya
  rw[HGD.out];simp[hE]
theorem unN5 {W:World} {gi j n cI bI nE qE nF qF:Nat} {aE aF:Option Addr} {im:Im} {A:Code} {Q:Exit→Act→World→Prop} {v1 v2 v8 v9 v10 v11 v12:Value} {r:List Value} (hr:r.length=188) (Z:Hid (Sz B g w0 w W bs D s (.slice (some ⟨bI,0,none⟩) n cI) X gi ⟨im,.slice aE nE qE,.slice aF nF qF⟩)) (hmem:Hid (X[j]? =some ⟨im,.slice aE nE qE,.slice aF nF qF⟩)) (hn:n=X.length) (hn1:n≤190) (hE:im.E.length=0)
  (hA:Hid (∀v8 v9 v10 v11 v12 r' wx s' iv' X',r'.length=188→Ue B g w0 w wx bs D s' iv' X'→ya D (X.map Xi.im) j 5 s=(X'.map Xi.im,s')→Code.wp Tryz.prog A Q (Fu g w gi (j:Int) 5 v1 v2 v8 v9 v10 v11 v12 r') wx)):Code.wp Tryz.prog (.seq (sL u5) (.seq (sL (sR u5)) (.seq (sL (sR (sR u5))) (.seq (sL (sR (sR (sR u5)))) (.seq (sL (sR (sR (sR (sR u5))))) (A)))))) Q (Fu g w gi (j:Int) 5 v1 v2 v8 v9 v10 v11 v12 r) W:=by
 have HN9:=Hm (And.intro hn hn1);have hgD:(X.map Xi.im).getD j imZ=im:=by rw[List.getD_eq_getElem?_getD,List.getElem?_map,hmem.out];rfl
 have HGD:=Hm hgD;clear hgD;have hnE:nE=0:=by obtain⟨a',c',e,-⟩:=zh Z.out.e;injection e with _ e _;rw[e];exact hE
 have k0:decide ((0:Int)<(nE:Int))=false:=by simp;omega
 have k1:¬0<nE:=by omega
 have k2:decide (0<nE)=false:=by simp;omega
 have y0:=(zb Z.out.it 2).trans (show _=some (.slice aE nE qE)from rfl);clear hnE;revert r;refine @zp 188 _ ?_
 iterate 188 (intro _)
 show Code.wp _ _ _ _ _
 conv=>arg 2;dsimp only[u5,u0,Tryz.f32,Option.getD,sR,sL,cT,cF,bk,lpo]
 conv=>arg 4;dsimp only[Fu]
 go_wp2_with fail;refine hA.out _ _ _ _ _ _ _ s _ X ?_ (Z.out.ue (by have:=HN9.out;omega)) ?_
 ·rfl
 ·unfold ya
  rw[HGD.out];simp[hE]
theorem unN6 {W:World} {gi j n cI bI nE qE nF qF:Nat} {aE aF:Option Addr} {im:Im} {A:Code} {Q:Exit→Act→World→Prop} {v1 v2 v8 v9 v10 v11 v12:Value} {r:List Value} (hr:r.length=188) (Z:Hid (Sz B g w0 w W bs D s (.slice (some ⟨bI,0,none⟩) n cI) X gi ⟨im,.slice aE nE qE,.slice aF nF qF⟩)) (hmem:Hid (X[j]? =some ⟨im,.slice aE nE qE,.slice aF nF qF⟩)) (hn:n=X.length) (hn1:n≤190) (hE:im.E.length=0) (hhE:Hid (xS im.k=false))
  (hA:Hid (∀v8 v9 v10 v11 v12 r' wx s' iv' X',r'.length=188→Ue B g w0 w wx bs D s' iv' X'→ya D (X.map Xi.im) j 6 s=(X'.map Xi.im,s')→Code.wp Tryz.prog A Q (Fu g w gi (j:Int) 6 v1 v2 v8 v9 v10 v11 v12 r') wx)):Code.wp Tryz.prog (.seq (sL u5) (.seq (sL (sR u5)) (.seq (sL (sR (sR u5))) (.seq (sL (sR (sR (sR u5)))) (.seq (sL (sR (sR (sR (sR u5))))) (A)))))) Q (Fu g w gi (j:Int) 6 v1 v2 v8 v9 v10 v11 v12 r) W:=by
 have HN9:=Hm (And.intro hn hn1);have hgD:(X.map Xi.im).getD j imZ=im:=by rw[List.getD_eq_getElem?_getD,List.getElem?_map,hmem.out];rfl
 have HGD:=Hm hgD;clear hgD;have hnE:nE=0:=by obtain⟨a',c',e,-⟩:=zh Z.out.e;injection e with _ e _;rw[e];exact hE
 have k0:decide ((0:Int)<(nE:Int))=false:=by simp;omega
 have k1:¬0<nE:=by omega
 have k2:decide (0<nE)=false:=by simp;omega
 have y0:=(zb Z.out.it 2).trans (show _=some (.slice aE nE qE)from rfl);have y1:=(zb Z.out.it 0).trans (show _=some (.int .i64 im.k)from rfl);have CH:Hid (∀w,Calls Tryz.prog 36 #[.int .i64 im.k] w fun e w'=>e=.returned (.bool false)∧w'=w):=fun w=>by have:=Wp im.k w;rw[hhE.out]at this;exact this
 clear hnE;revert r;refine @zp 188 _ ?_
 iterate 188 (intro _)
 show Code.wp _ _ _ _ _
 conv=>arg 2;dsimp only[u5,u0,Tryz.f32,Option.getD,sR,sL,cT,cF,bk,lpo]
 conv=>arg 4;dsimp only[Fu]
 go_wp2_with (go_at_call 36;go_must (refine(CH.out _).mono ?_;rintro e' w2 ⟨rfl,hww⟩;rw[hww];clear hww));refine hA.out _ _ _ _ _ _ _ s _ X ?_ (Z.out.ue (by have:=HN9.out;omega)) ?_
 ·rfl
 ·unfold ya
  rw[HGD.out];simp[hE,hhE.out]
theorem unN7 {W:World} {gi j n cI bI nE qE nF qF:Nat} {aE aF:Option Addr} {im:Im} {A:Code} {Q:Exit→Act→World→Prop} {v1 v2 v8 v9 v10 v11 v12:Value} {r:List Value} (hr:r.length=188) (Z:Hid (Sz B g w0 w W bs D s (.slice (some ⟨bI,0,none⟩) n cI) X gi ⟨im,.slice aE nE qE,.slice aF nF qF⟩)) (hmem:Hid (X[j]? =some ⟨im,.slice aE nE qE,.slice aF nF qF⟩)) (hn:n=X.length) (hn1:n≤190) (hE:im.E.length=0) (hhE:Hid (xS im.k=false))
  (hA:Hid (∀v8 v9 v10 v11 v12 r' wx s' iv' X',r'.length=188→Ue B g w0 w wx bs D s' iv' X'→ya D (X.map Xi.im) j 7 s=(X'.map Xi.im,s')→Code.wp Tryz.prog A Q (Fu g w gi (j:Int) 7 v1 v2 v8 v9 v10 v11 v12 r') wx)):Code.wp Tryz.prog (.seq (sL u5) (.seq (sL (sR u5)) (.seq (sL (sR (sR u5))) (.seq (sL (sR (sR (sR u5)))) (.seq (sL (sR (sR (sR (sR u5))))) (A)))))) Q (Fu g w gi (j:Int) 7 v1 v2 v8 v9 v10 v11 v12 r) W:=by
 have HN9:=Hm (And.intro hn hn1);have hgD:(X.map Xi.im).getD j imZ=im:=by rw[List.getD_eq_getElem?_getD,List.getElem?_map,hmem.out];rfl
 have HGD:=Hm hgD;clear hgD;have hnE:nE=0:=by obtain⟨a',c',e,-⟩:=zh Z.out.e;injection e with _ e _;rw[e];exact hE
 have k0:decide ((0:Int)<(nE:Int))=false:=by simp;omega
 have k1:¬0<nE:=by omega
 have k2:decide (0<nE)=false:=by simp;omega
 have y0:=(zb Z.out.it 2).trans (show _=some (.slice aE nE qE)from rfl);have y1:=(zb Z.out.it 0).trans (show _=some (.int .i64 im.k)from rfl);have CH:Hid (∀w,Calls Tryz.prog 36 #[.int .i64 im.k] w fun e w'=>e=.returned (.bool false)∧w'=w):=fun w=>by have:=Wp im.k w;rw[hhE.out]at this;exact this
 clear hnE;revert r;refine @zp 188 _ ?_
 iterate 188 (intro _)
 show Code.wp _ _ _ _ _
 conv=>arg 2;dsimp only[u5,u0,Tryz.f32,Option.getD,sR,sL,cT,cF,bk,lpo]
 conv=>arg 4;dsimp only[Fu]
 go_wp2_with (go_at_call 36;go_must (refine(CH.out _).mono ?_;rintro e' w2 ⟨rfl,hww⟩;rw[hww];clear hww));refine hA.out _ _ _ _ _ _ _ s _ X ?_ (Z.out.ue (by have:=HN9.out;omega)) ?_
 ·rfl
 ·unfold ya
  rw[HGD.out];simp[hE,hhE.out]
end Go.Proofs.YtbkajklninmhiaaGreatDoor.Dq
