import Derived.Test.YtbdldkpifanaiaaDoorCr36
set_option maxHeartbeats 6400000
set_option maxRecDepth 1000000
set_option linter.unusedVariables false
set_option linter.unusedSimpArgs false
open List renaming setIfInBounds_toArray → qa, set_cons_zero → qb, set_cons_succ → qc, length_append → qg
open Nat renaming le_refl → qn
namespace Go.Proofs.YtbdldkpifanaiaaDoor.Dq
open Go Go.RowKit Mem Syn Parse Par Draw
attribute [local go_sem ↓] Go.wp_at_zero Go.wp_at_succ
variable {B g:Nat} {w0 w w':World} {bs:List UInt8} {D:Sr} {s s':DS}
variable {iv:Value} {X:List Xi}
theorem infoS:(Tryd.prog.info? 9).map (fun i=>(i.zero,i.size,i.bytes))=some (some (.string ⟨#[]⟩),1,16):=by kernel_rfl
theorem infoN:(Tryd.prog.info? 2).map (fun i=>(i.zero,i.size,i.bytes))=some (some (.int .i64 0),1,8):=by kernel_rfl
structure Sn where
 (s:DS) (L:List Im) (ev:Ev) (l:Bool)
def zL (D:Sr) (G:Bool) (S:Sn):Sn:=
 match D.once S.s 4 with
 |(o,s1)=>
  if o=true∧S.ev.length<6 then
   match D.bel s1 2 with
   |(x,s2)=>match y7 D S.ev 2 s2 (1+x)with
    |(E,s3)=>⟨s3,S.L++[⟨1,Xd S.ev.length,E,[],0,0,0⟩],S.ev++[(Xd S.ev.length,1+x)],S.l⟩
  else
   match ZI D S.ev s1 G with
   |(im,s2)=>⟨s2,if im.k≠7∨S.l=false then S.L++[im]else S.L,S.ev,S.l||im.k==7⟩
def Zy (D:Sr) (G:Bool):Nat→Sn→Sn
 |0,S=>S
 |n+1,S=>Zy D G n (zL D G S)
def Za (D:Sr) (s:DS) (n:Nat) (G:Bool):List Im×DS:=((Zy D G n ⟨s,[],[],false⟩).L,(Zy D G n ⟨s,[],[],false⟩).s)
structure Sq (B g:Nat) (w0 w:World) (bs:List UInt8) (D:Sr) (S:Sn) (iv a b:Value) (X:List Xi):Prop where
 c:Cu B g w0 w bs D S.s
 pg:PgO w0.heap.size w iv X
 im:X.map Xi.im=S.L
 ev:zp w0.heap.size w a b S.ev
 br:w.heap[w0.heap.size]? =some (.cells #[.slice none 0 0] 54)
 bp:w.heap[w0.heap.size+1]? =some (.cells #[iv] 54)
 be:w.heap[w0.heap.size+2]? =some (.cells #[a,b] 102)
 le:S.ev.length≤6
noncomputable def q0:Code:=Tryd.f50.body.getD .skip
noncomputable def qL:Code:=lpo (bk (sR (sL (sR (sR (sR (sR q0)))))))
noncomputable def qB:Code:=bk (sL (sR qL))
def Fs (g n:Nat) (w:World) (G l:Bool) (i:Int) (v3 v4 v5 v11 v12 v13 v14:Value) (r:List Value):Act:={tmps:=(.pointer (some ⟨g,0,none⟩)::.int .i64 (n:Int)::.bool G::v3::v4::v5::.pointer (some ⟨w.heap.size,0,none⟩)::.pointer (some ⟨w.heap.size+1,0,none⟩)::.pointer (some ⟨w.heap.size+2,0,none⟩)::.bool l::.int .i64 i::v11::v12::v13::v14::r).toArray,defers:=[]}
theorem sndLet {W:World} {n:Nat} {G l:Bool} {i:Int} {S:Sn} {a b v3 v4 v5 v11 v12 v13 v14:Value} {Q:Exit→Act→World→Prop} {r:List Value} (hr:r.length=69) (Z:Hid (Sq B g w W bs D S iv a b X)) (hl:S.l=l) (hXL:X.length≤1000) {s1:DS} (ho:Hid (D.once S.s 4=(true,s1))) (h6:S.ev.length<6)
  (hn:Hid (∀l' v11 v12 v13 v14 r' iv' a' b' X' wx,r'.length=69→Sq B g w wx bs D (zL D G S) iv' a' b' X'→(zL D G S).l=l'→X'.length≤X.length+1→Q .normal (Fs g n w G l' i v3 v4 v5 v11 v12 v13 v14 r') wx)):
  Code.wp Tryd.prog qB Q (Fs g n w G l i v3 v4 v5 v11 v12 v13 v14 r) W:=by
 obtain⟨i0,hi,hz0,hz1,hz2⟩:=info_parts TI;obtain⟨i1,hj,hj0,hj1,hj2⟩:=info_parts infoS;obtain⟨i2,hk,hk0,hk1,hk2⟩:=info_parts infoN;obtain⟨pa,ca,rfl,-⟩:=zj Z.out.ev.n;obtain⟨pb,cb,rfl,-⟩:=zj Z.out.ev.t;obtain⟨pi,ci,rfl,-⟩:=zj Z.out.pg.row;obtain⟨ne,hne⟩:∃n,n=S.ev.length:=⟨_,rfl⟩;obtain⟨nx,hnx⟩:∃n,n=X.length:=⟨_,rfl⟩;have H6:ne<6:=by omega
 have HNX:nx≤1000:=by omega
 have HNE:=Hm hne;have HNN:=Hm hnx;rw[←hne,←hnx]at Z;clear hne hnx hXL;revert r;refine @zE 69 _ ?_
 iterate 69 (intro _)
 show Code.wp _ _ _ _ _
 conv=>arg 2;dsimp only[qB,qL,q0,Tryd.f50,Option.getD,sR,sL,cT,cF,bk,lpo]
 conv=>arg 4;dsimp only[Fs]
 have C0:=Hm Z.out.c;have P0:=Hm Z.out.pg;have E0:=Hm Z.out.ev;have br0:=Hm Z.out.br;have bp0:=Hm Z.out.bp;have be0:=Hm Z.out.be;have HIM:=Hm Z.out.im;clear Z;go_wp2_with fail;refine(Zo C0.out 4 (by omega) (by omega)).mono ?_;rintro e' w1 ⟨b1,s1',hx,rfl,hc,hgb⟩;rw[ho.out]at hx;obtain⟨rfl,rfl⟩:=Prod.mk.inj hx;have C1:=Hm hc;have P1:=Hm (PgO.cur P0.out C0.out hgb);have E1:=Hm (zp.cur E0.out C0.out hgb);have br1:=Hm (Cu.blk C0.out (qn _) br0.out hgb);have bp1:=Hm (Cu.blk C0.out (by omega) bp0.out hgb);have be1:=Hm (Cu.blk C0.out (by omega) be0.out hgb);clear hx hc hgb P0 E0 br0 bp0 be0;have y0:=cl0 be1.out;have y1:=cl1 be1.out;have y2:=cl0 bp1.out;have k6:(ne:Int)<6:=by omega
 go_wp2_with fail;clear y0 y1 y2;refine(rngE C1.out 1 2 (by omega) (by omega) (by omega)).mono ?_;rintro e' w2 ⟨x,s2,hx,lx,ux,rfl,hc,hgb⟩;have C2:=Hm hc;have Qx:Hid (D.bel s1 2=(x,s2)):=Hm hx;have P2:=Hm (PgO.cur P1.out C1.out hgb);have E2:=Hm (zp.cur E1.out C1.out hgb);have br2:=Hm (Cu.blk C1.out (qn _) br1.out hgb);have bp2:=Hm (Cu.blk C1.out (by omega) bp1.out hgb);have be2:=Hm (Cu.blk C1.out (by omega) be1.out hgb);clear hx hc hgb P1 E1 br1 bp1 be1;have y0:=cl0 be2.out;have y1:=cl1 be2.out;have y2:=cl0 bp2.out;go_wp2_with fail;clear y0 y1 y2;obtain⟨L,s3,hx⟩:=two (y7 D S.ev 2 s2 (1+x));have hcl:=Xc (by omega) 2 (by omega) s2 (1+x) _ (by omega) (Cu.self C2.out) E2.out;rw[hx]at hcl
 refine(show Calls Tryd.prog 65 #[.pointer (some ⟨g,0,none⟩),.int .i64 (1+(x:Int)),.int .i64 2,.agg #[.slice pa ne ca,.slice pb ne cb]] w2 _ from hcl).mono ?_;rintro e' w3 ⟨vx,rfl,hov,hc,hp,hq⟩;have hgb:=hc.gb;have C3:=Hm (Cu.in' C2.out hc);have QL:=Hm hx;have OX:Hid (OwnO w2.heap.size w3 vx L):=Hm hov;have HPQ:Hid (0<L.length∧L.length≤16):=⟨hp,hq⟩;have AX:Hid (∀x∈X,Ap x.e vx∧Ap x.f vx):=fun x hx=>⟨xG hov (P2.out.e x hx) (qn _),xG hov (P2.out.f x hx) (qn _)⟩
 have hs2:=C2.out.size;obtain⟨ax,nxx,cx,rfl⟩:∃a n c,vx=.slice a n c:=by obtain⟨a,c,e,-⟩:=zj hov;exact⟨_,_,_,e⟩
 have P3:=Hm (PgO.cur P2.out C2.out hgb);have E3:=Hm (zp.cur E2.out C2.out hgb);have br3:=Hm (Cu.blk C2.out (qn _) br2.out hgb);have bp3:=Hm (Cu.blk C2.out (by omega) bp2.out hgb);have be3:=Hm (Cu.blk C2.out (by omega) be2.out hgb);clear hx hcl hov hc hgb hp hq P2 E2 br2 bp2 be2;have y0:=cl0 be3.out;have y1:=cl1 be3.out;have y2:=cl0 bp3.out;go_wp2_with fail;refine(nameD ne w3).mono ?_;rintro e' w4 ⟨rfl,rfl⟩;obtain⟨nm,hnm⟩:∃nm,nm=Xd ne:=⟨_,rfl⟩;rw[←hnm];have HNM:=Hm hnm;clear hnm;have hs3:=C3.out.size;have hzA:w.heap.size≤(w4.alloc (.cells (itC ⟨1,nm,L,[],0,0,0⟩ (.slice ax nxx cx) (.slice none 0 0)).toArray 77)).heap.size:=by simp;omega
 have hbA:Below w4.heap.size w4 (w4.alloc (.cells (itC ⟨1,nm,L,[],0,0,0⟩ (.slice ax nxx cx) (.slice none 0 0)).toArray 77)):=zf (Below.refl _ _) _;have PA:=Hm (PgO.below P3.out hbA);have EA:=Hm (zp.below E3.out hbA);have CA:=Hm (Cu.below C3.out hbA);have OA:=Hm (OwnO.below OX.out hbA);have brA:=Hm (ze br3.out hbA);have bpA:=Hm (ze bp3.out hbA);have beA:=Hm (ze be3.out hbA);clear hbA
 have RA:Hid ((w4.alloc (.cells (itC ⟨1,nm,L,[],0,0,0⟩ (.slice ax nxx cx) (.slice none 0 0)).toArray 77)).ownsRow w.heap.size 77 7 (.slice pi nx ci) nx (X.flatMap Xi.cs)):=by
  have:=PA.out.row;rw[←HNN.out]at this;exact this
 have newsA:=Yy (w:=w4) ⟨1,nm,L,[],0,0,0⟩ (.slice ax nxx cx) (.slice none 0 0) _ rfl;have oneA:=Wr ⟨1,nm,L,[],0,0,0⟩ ax nxx cx none 0 0;have fillA:=YI 1 ⟨nm.toArray⟩ ax nxx cx none 0 0 0 0 0;go_wp2_with (first|(at_builtin;go_must (refine wpList_append_own_at _ rfl _ _ 52 rfl w.heap.size 77 i0 (.agg #[.int .i64 0,.string ⟨#[]⟩,.slice none 0 0,.slice none 0 0,.int .i64 0,.int .i64 0,.int .i64 0]) 7 96 Tryd.underlying52 hi hz0 hz1 hz2 rfl (by decide) _ _ _ rfl RA.out ⟨w4.heap.size,0,none⟩ 1 1 (itC ⟨1,nm,L,[],0,0,0⟩ (.slice ax nxx cx) (.slice none 0 0)) rfl rfl newsA oneA (by unfold maxLen;omega) (by omega) hzA ?_))|(refine zv rfl 52 77 _ rfl i0 _ Tryd.underlying52 hi hz0 7 hz1 (itC ⟨1,nm,L,[],0,0,0⟩ (.slice ax nxx cx) (.slice none 0 0)) rfl fillA (by decide) (by decide) ?_));clear y0 y1 y2
 intro vi w5 hov hgr _ _
 have P5:Hid (PgO w.heap.size w5 vi (X++[⟨⟨1,nm,L,[],0,0,0⟩,.slice ax nxx cx,.slice none 0 0⟩])):=by
  refine PgO.snoc (z:=⟨⟨1,nm,L,[],0,0,0⟩,.slice ax nxx cx,.slice none 0 0⟩) PA.out (OA.out.low hs2) (yk _ _) (yX _) ⟨by have:=HPQ.out.2;show L.length≤3000;omega,by simp⟩ (fun x hx=>⟨(AX.out x hx).1,yX _,(AX.out x hx).2,yX _⟩) ?_ hgr;rw[HNN.out]at hov;exact hov
 have C5:=Hm (Cu.app CA.out RA.out (by decide) hgr);have E5:=Hm (zp.app EA.out RA.out (by decide) (by decide) hgr);have br5:=Hm (zB hgr RA.out brA.out (by decide));have bp5:=Hm (zB hgr RA.out bpA.out (by decide));have be5:=Hm (zB hgr RA.out beA.out (by decide));obtain⟨pj,nj,cj,rfl⟩:∃a n c,vi=.slice a n c:=by obtain⟨a,c,e,-⟩:=zj hov;exact⟨_,_,_,e⟩
 clear hov hgr RA PA EA CA brA bpA beA newsA oneA fillA C3 E3 P3 br3 bp3 be3;have y2:=cl0 bp5.out;have f2:=zb bp5.out 0;have RN5:=Hm E5.out.n;have RT5:=Hm E5.out.t;rw[←HNE.out]at RN5 RT5;clear E5;obtain⟨w6,hw6⟩:∃W,W=w5.setCell ⟨w.heap.size+1,0,none⟩ (.slice pj nj cj):=⟨_,rfl⟩;have P6:=Hm (PgO.far (i:=0) (v:=.slice pj nj cj) P5.out bp5.out (by decide) (by decide));have C6:=Hm (Cu.set (r:=w.heap.size+1) (i:=0) (v:=.slice pj nj cj) C5.out (by omega));have bp6:=Hm (zk bp5.out 0 (.slice pj nj cj));simp only[qa,qb,qc]at bp6;have br6:=Hm (zn br5.out (show w.heap.size≠w.heap.size+1 by omega) 0 (.slice pj nj cj));have be6:=Hm (zn be5.out (show w.heap.size+2≠w.heap.size+1 by omega) 0 (.slice pj nj cj))
 have RN6:=Hm (zo (i:=0) (v:=.slice pj nj cj) RN5.out bp5.out (by decide));have RT6:=Hm (zo (i:=0) (v:=.slice pj nj cj) RT5.out bp5.out (by decide));rw[←hw6]at P6 C6 bp6 br6 be6 RN6 RT6;refine Hid.out ?_;refine Lib.hid ?_;go_upto_region 12 with fail;rw[←hw6];clear hw6 y2 f2;clear P5 C5 br5 bp5 be5 RN5 RT5;have y0:=cl0 be6.out;have hb:Below w6.heap.size w6 (w6.alloc (.cells #[.string ⟨nm.toArray⟩] 9)):=zf (Below.refl _ _) _;have PA:=Hm (PgO.below P6.out hb);have CA:=Hm (Cu.below C6.out hb);have brA:=Hm (ze br6.out hb);have bpA:=Hm (ze bp6.out hb);have beA:=Hm (ze be6.out hb);have RNA:=Hm (z9 RN6.out hb);have RTA:=Hm (z9 RT6.out hb);clear hb;have hzA:w.heap.size≤(w6.alloc (.cells #[.string ⟨nm.toArray⟩] 9)).heap.size:=CA.out.size
 have newsA:=cell_one_new w6 (.string ⟨nm.toArray⟩) 9;go_wp2_with (at_builtin;go_must (refine wpList_append_own_at _ rfl _ _ 100 rfl w.heap.size 9 i1 (.string ⟨#[]⟩) 1 16 Tryd.underlying100 hj hj0 hj1 hj2 rfl (by decide) _ _ _ rfl RNA.out ⟨w6.heap.size,0,none⟩ 1 1 [.string ⟨nm.toArray⟩] rfl rfl newsA (by intro u hu;rw[List.mem_singleton.1 hu];rfl) (by unfold maxLen;omega) (by omega) hzA ?_));clear y0;intro v8 w8 hov hgr _ _;have RN8:=Hm hov;have P8:=Hm (PgO.app PA.out RNA.out (by decide) (by decide) hgr);have C8:=Hm (Cu.app CA.out RNA.out (by decide) hgr);have RT8:=Hm (yu RTA.out hgr RNA.out (by decide));have br8:=Hm (zB hgr RNA.out brA.out (by decide));have bp8:=Hm (zB hgr RNA.out bpA.out (by decide));have be8:=Hm (zB hgr RNA.out beA.out (by decide))
 obtain⟨p8,n8,c8,rfl⟩:∃a n c,v8=.slice a n c:=by obtain⟨a,c,e,-⟩:=zj hov;exact⟨_,_,_,e⟩
 clear hov hgr RNA PA CA brA bpA beA RTA newsA;clear P6 C6 br6 bp6 be6 RN6 RT6;have y0:=cl0 be8.out;have f0:=zb be8.out 0;obtain⟨w9,hw9⟩:∃W,W=w8.setCell ⟨w.heap.size+2,0,none⟩ (.slice p8 n8 c8):=⟨_,rfl⟩;have P9:=Hm (PgO.far (i:=0) (v:=.slice p8 n8 c8) P8.out be8.out (by decide) (by decide));have C9:=Hm (Cu.set (r:=w.heap.size+2) (i:=0) (v:=.slice p8 n8 c8) C8.out (by omega));have be9:=Hm (zk be8.out 0 (.slice p8 n8 c8));simp only[qa,qb,qc]at be9;have br9:=Hm (zn br8.out (show w.heap.size≠w.heap.size+2 by omega) 0 (.slice p8 n8 c8));have bp9:=Hm (zn bp8.out (show w.heap.size+1≠w.heap.size+2 by omega) 0 (.slice p8 n8 c8));have RN9:=Hm (zo (i:=0) (v:=.slice p8 n8 c8) RN8.out be8.out (by decide))
 have RT9:=Hm (zo (i:=0) (v:=.slice p8 n8 c8) RT8.out be8.out (by decide));rw[←hw9]at P9 C9 be9 br9 bp9 RN9 RT9;refine Hid.out ?_;refine Lib.hid ?_;go_upto_region 13 with fail;rw[←hw9];clear hw9 y0 f0;clear P8 C8 br8 bp8 be8 RN8 RT8;have y0:=cl1 be9.out;have hb:Below w9.heap.size w9 (w9.alloc (.cells #[.int .i64 (1+(x:Int))] 2)):=zf (Below.refl _ _) _;have PA:=Hm (PgO.below P9.out hb);have CA:=Hm (Cu.below C9.out hb);have brA:=Hm (ze br9.out hb);have bpA:=Hm (ze bp9.out hb);have beA:=Hm (ze be9.out hb);have RTA:=Hm (z9 RT9.out hb);have RNA:=Hm (z9 RN9.out hb);clear hb;have hzA:w.heap.size≤(w9.alloc (.cells #[.int .i64 (1+(x:Int))] 2)).heap.size:=CA.out.size;have newsA:=cell_one_new w9 (.int .i64 (1+(x:Int))) 2
 go_wp2_with (at_builtin;go_must (refine wpList_append_own_at _ rfl _ _ 45 rfl w.heap.size 2 i2 (.int .i64 0) 1 8 Tryd.underlying45 hk hk0 hk1 hk2 rfl (by decide) _ _ _ rfl RTA.out ⟨w9.heap.size,0,none⟩ 1 1 [.int .i64 (1+(x:Int))] rfl rfl newsA (by intro u hu;rw[List.mem_singleton.1 hu];rfl) (by unfold maxLen;omega) (by omega) hzA ?_));clear y0;intro v11 w11 hov hgr _ _;have RT11:=Hm hov;have P11:=Hm (PgO.app PA.out RTA.out (by decide) (by decide) hgr);have C11:=Hm (Cu.app CA.out RTA.out (by decide) hgr);have RN11:=Hm (yu RNA.out hgr RTA.out (by decide));have br11:=Hm (zB hgr RTA.out brA.out (by decide));have bp11:=Hm (zB hgr RTA.out bpA.out (by decide));have be11:=Hm (zB hgr RTA.out beA.out (by decide))
 obtain⟨p11,n11,c11,rfl⟩:∃a n c,v11=.slice a n c:=by obtain⟨a,c,e,-⟩:=zj hov;exact⟨_,_,_,e⟩
 clear hov hgr RTA PA CA brA bpA beA RNA newsA;clear P9 C9 br9 bp9 be9 RN9 RT9;have y0:=cl1 be11.out;have f0:=zb be11.out 1;obtain⟨w12,hw12⟩:∃W,W=w11.setCell ⟨w.heap.size+2,1,none⟩ (.slice p11 n11 c11):=⟨_,rfl⟩;have P12:=Hm (PgO.far (i:=1) (v:=.slice p11 n11 c11) P11.out be11.out (by decide) (by decide));have C12:=Hm (Cu.set (r:=w.heap.size+2) (i:=1) (v:=.slice p11 n11 c11) C11.out (by omega));have be12:=Hm (zk be11.out 1 (.slice p11 n11 c11));simp only[qa,qb,qc]at be12;have br12:=Hm (zn br11.out (show w.heap.size≠w.heap.size+2 by omega) 1 (.slice p11 n11 c11));have bp12:=Hm (zn bp11.out (show w.heap.size+1≠w.heap.size+2 by omega) 1 (.slice p11 n11 c11))
 have RN12:=Hm (zo (i:=1) (v:=.slice p11 n11 c11) RN11.out be11.out (by decide));have RT12:=Hm (zo (i:=1) (v:=.slice p11 n11 c11) RT11.out be11.out (by decide));rw[←hw12]at P12 C12 be12 br12 bp12 RN12 RT12;refine Hid.out ?_;refine Lib.hid ?_;go_wp2_with fail;rw[←hw12];refine hn.out l _ _ _ _ _ (.slice pj nj cj) (.slice p8 n8 c8) (.slice p11 n11 c11) (X++[⟨⟨1,nm,L,[],0,0,0⟩,.slice ax nxx cx,.slice none 0 0⟩]) _ ?_ ?_ ?_ ?_;rotate_left
 ·have hS:zL D G S=⟨s3,S.L++[⟨1,nm,L,[],0,0,0⟩],S.ev++[(nm,1+x)],S.l⟩:=by
   unfold zL;simp only[ho.out,h6,and_self,if_true,Qx.out,QL.out,HNM.out,HNE.out]
  rw[hS];refine⟨C12.out,P12.out,?_,⟨?_,?_⟩,br12.out,bp12.out,be12.out,?_⟩
  ·rw[List.map_append,HIM.out];rfl
  ·have:=RN12.out
   rw[List.map_append,qg,←HNE.out];exact this
  ·have:=RT12.out
   rw[List.map_append,qg,←HNE.out];simpa using this
  ·rw[qg,←HNE.out];show ne+1≤6;omega
 ·unfold zL
  simp only[ho.out,h6,and_self,if_true,Qx.out,QL.out,HNM.out,HNE.out];exact hl
 ·rw[qg];exact qn _
 ·rfl
theorem UU {W:World} {n:Nat} {G l:Bool} {i:Int} {S:Sn} {a b v3 v4 v5 v11 v12 v13 v14:Value} {Q:Exit→Act→World→Prop} {r:List Value} (hr:r.length=69) (Z:Hid (Sq B g w W bs D S iv a b X)) (hl:S.l=l) (hXL:X.length≤1000) {b0:Bool} {s1:DS} (ho:Hid (D.once S.s 4=(b0,s1))) (h6:¬(b0=true∧S.ev.length<6))
  (hn:Hid (∀l' v11 v12 v13 v14 r' iv' a' b' X' wx,r'.length=69→Sq B g w wx bs D (zL D G S) iv' a' b' X'→(zL D G S).l=l'→X'.length≤X.length+1→Q .normal (Fs g n w G l' i v3 v4 v5 v11 v12 v13 v14 r') wx)):
  Code.wp Tryd.prog qB Q (Fs g n w G l i v3 v4 v5 v11 v12 v13 v14 r) W:=by
 obtain⟨i0,hi,hz0,hz1,hz2⟩:=info_parts TI;obtain⟨pa,ca,rfl,-⟩:=zj Z.out.ev.n;obtain⟨pb,cb,rfl,-⟩:=zj Z.out.ev.t;obtain⟨pi,ci,rfl,-⟩:=zj Z.out.pg.row;have hle:=Z.out.le;obtain⟨ne,hne⟩:∃n,n=S.ev.length:=⟨_,rfl⟩;obtain⟨nx,hnx⟩:∃n,n=X.length:=⟨_,rfl⟩;have HNX:nx≤1000:=by omega
 have HNE:=Hm hne;have HNN:=Hm hnx;have H6:=Hm h6;have HLE:=Hm hle;have HL:=Hm hl;rw[←hne,←hnx]at Z;clear hne hnx hXL h6 hle hl;revert r;refine @zE 69 _ ?_
 iterate 69 (intro _)
 show Code.wp _ _ _ _ _
 conv=>arg 2;dsimp only[qB,qL,q0,Tryd.f50,Option.getD,sR,sL,cT,cF,bk,lpo]
 conv=>arg 4;dsimp only[Fs]
 have C0:=Hm Z.out.c;have P0:=Hm Z.out.pg;have E0:=Hm Z.out.ev;have br0:=Hm Z.out.br;have bp0:=Hm Z.out.bp;have be0:=Hm Z.out.be;have HIM:=Hm Z.out.im;clear Z;go_wp2_with fail;refine(Zo C0.out 4 (by omega) (by omega)).mono ?_;rintro e' w1 ⟨b1,s1',hx,rfl,hc,hgb⟩;rw[ho.out]at hx;obtain⟨rfl,rfl⟩:=Prod.mk.inj hx;have C1:=Hm hc;have P1:=Hm (PgO.cur P0.out C0.out hgb);have E1:=Hm (zp.cur E0.out C0.out hgb);have br1:=Hm (Cu.blk C0.out (qn _) br0.out hgb);have bp1:=Hm (Cu.blk C0.out (by omega) bp0.out hgb);have be1:=Hm (Cu.blk C0.out (by omega) be0.out hgb);clear hx hc hgb P0 E0 br0 bp0 be0;have y0:=cl0 be1.out;have y1:=cl1 be1.out;have y2:=cl0 bp1.out
 have goal:Calls Tryd.prog 67 #[.pointer (some ⟨g,0,none⟩),.agg #[.slice pa ne ca,.slice pb ne cb],.bool G] w1 (RI B g w1 bs D (ZI D S.ev s1 G)):=ruleD (Cu.self C1.out) E1.out (by have:=HLE.out;omega);have HG:=Hm goal;clear goal
 cases b0 with
 |true=>
  have k6:decide ((ne:Int)<6)=false:=by have:=H6.out;have:=HNE.out;simp at*;omega
  go_wp2_with fail;clear y0 y1 y2;refine(HG.out).mono ?_;obtain⟨im,s2,hx⟩:=two (ZI D S.ev s1 G);rw[hx];rintro e' w2 ⟨vE,vF,rfl,hoE,hoF,hc,hlE,hlF,hap⟩;dsimp only at hoE hoF hc hlE hlF;have hgb:=hc.gb;have C2:=Hm (Cu.in' C1.out hc);have QR:=Hm hx;have hs1:=C1.out.size;have OE2:=Hm (hoE.low hs1);have OF2:=Hm (hoF.low hs1);have HLF:Hid (im.E.length≤64∧im.F.length≤64):=⟨hlE,hlF⟩;have AX:Hid (∀x∈X,Ap x.e vE∧Ap x.e vF∧Ap x.f vE∧Ap x.f vF):=fun x hx=>⟨xG hoE (P1.out.e x hx) (qn _),xG hoF (P1.out.e x hx) (qn _),xG hoE (P1.out.f x hx) (qn _),xG hoF (P1.out.f x hx) (qn _)⟩
  have HAP:=Hm hap;obtain⟨aE,nE,qE,rfl⟩:∃a n c,vE=.slice a n c:=by obtain⟨a,c,e,-⟩:=zj hoE;exact⟨_,_,_,e⟩
  obtain⟨aF,nF,qF,rfl⟩:∃a n c,vF=.slice a n c:=by obtain⟨a,c,e,-⟩:=zj hoF;exact⟨_,_,_,e⟩
  have P2:=Hm (PgO.cur P1.out C1.out hgb);have E2:=Hm (zp.cur E1.out C1.out hgb);have br2:=Hm (Cu.blk C1.out (qn _) br1.out hgb);have bp2:=Hm (Cu.blk C1.out (by omega) bp1.out hgb);have be2:=Hm (Cu.blk C1.out (by omega) be1.out hgb);clear hx hoE hoF hc hgb hlE hlF hap P1 E1 br1 bp1 be1 HG;unfold itA;have hs2:=C2.out.size;have hbe2:=zu be2.out;obtain⟨w3,hw3⟩:∃W,W=w2.alloc (.cells #[.int .i64 im.k,.string ⟨im.n.toArray⟩,.slice aE nE qE,.slice aF nF qF,.int .i64 im.K,.int .i64 im.lo,.int .i64 im.hi] 77):=⟨_,rfl⟩;have hb:Below w2.heap.size w2 w3:=by rw[hw3];exact zf (Below.refl _ _) _
  have bi3:Hid (w3.heap[w2.heap.size]? =some (.cells #[.int .i64 im.k,.string ⟨im.n.toArray⟩,.slice aE nE qE,.slice aF nF qF,.int .i64 im.K,.int .i64 im.lo,.int .i64 im.hi] 77)):=by rw[hw3];exact zi _ _
  have C3:=Hm (Cu.below C2.out hb);have P3:=Hm (PgO.below P2.out hb);have E3:=Hm (zp.below E2.out hb);have OE3:=Hm (OwnO.below OE2.out hb);have OF3:=Hm (OwnO.below OF2.out hb);have br3:=Hm (ze br2.out hb);have bp3:=Hm (ze bp2.out hb);have be3:=Hm (ze be2.out hb);have P2R:=Hm P2.out.row;clear hb C2 P2 E2 OE2 OF2 br2 bp2 be2;have hs3:=C3.out.size;go_upto_region 15 with fail;rw[←hw3];clear hw3;have x0:=cl0 bi3.out;have x1:=cl1 bi3.out;have x2:=cl2 bi3.out;have x3:=cl3 bi3.out;have x4:=cl4 bi3.out;have x5:=cl5 bi3.out;have x6:=cl6 bi3.out;have HPI:Hid ((Value.slice pi nx ci).ownBlock≠some w2.heap.size):=fun e=>by have:=(World.ownsRow.lt P2R.out _ e).2;omega
  by_cases k7:im.k=7
  ·have kn:(im.k !=7)=false:=by simp[k7]
   have ke:(im.k==7)=true:=by simp[k7]
   have K7:=Hm k7;clear k7
   cases l with
   |true=>
    go_wp2_with fail;refine hn.out _ _ _ _ _ _ (.slice pi nx ci) (.slice pa ne ca) (.slice pb ne cb) X _ ?_ ?_ ?_ ?_
    ·rfl
    ·have hS:zL D G S=⟨s2,S.L,S.ev,S.l||im.k==7⟩:=by
      unfold zL;simp only[ho.out];rw[if_neg H6.out,QR.out];simp[HL.out,K7.out]
     rw[hS];exact⟨C3.out,P3.out,HIM.out,E3.out,br3.out,bp3.out,be3.out,HLE.out⟩
    ·unfold zL
     simp only[ho.out];rw[if_neg H6.out,QR.out];simp[HL.out]
    ·exact Nat.le_succ _
   |false=>
    have y2:=cl0 bp3.out;have hbA:Below w3.heap.size w3 (w3.alloc (.cells (itC im (.slice aE nE qE) (.slice aF nF qF)).toArray 77)):=zf (Below.refl _ _) _;have PA:=Hm (PgO.below P3.out hbA);have EA:=Hm (zp.below E3.out hbA);have CA:=Hm (Cu.below C3.out hbA);have OEA:=Hm (OwnO.below OE3.out hbA);have OFA:=Hm (OwnO.below OF3.out hbA);have brA:=Hm (ze br3.out hbA);have bpA:=Hm (ze bp3.out hbA);have beA:=Hm (ze be3.out hbA);clear hbA;have hzA:w.heap.size≤(w3.alloc (.cells (itC im (.slice aE nE qE) (.slice aF nF qF)).toArray 77)).heap.size:=CA.out.size
    have RA:Hid ((w3.alloc (.cells (itC im (.slice aE nE qE) (.slice aF nF qF)).toArray 77)).ownsRow w.heap.size 77 7 (.slice pi nx ci) nx (X.flatMap Xi.cs)):=by
     have:=PA.out.row;rw[←HNN.out]at this;exact this
    have newsA:=Yy (w:=w3) im (.slice aE nE qE) (.slice aF nF qF) _ rfl;have oneA:=Wr im aE nE qE aF nF qF;have fillA:=YI im.k ⟨im.n.toArray⟩ aE nE qE aF nF qF im.K im.lo im.hi;go_wp2_with (first|(at_builtin;go_must (refine wpList_append_own_at _ rfl _ _ 52 rfl w.heap.size 77 i0 (.agg #[.int .i64 0,.string ⟨#[]⟩,.slice none 0 0,.slice none 0 0,.int .i64 0,.int .i64 0,.int .i64 0]) 7 96 Tryd.underlying52 hi hz0 hz1 hz2 rfl (by decide) _ _ _ rfl RA.out ⟨w3.heap.size,0,none⟩ 1 1 (itC im (.slice aE nE qE) (.slice aF nF qF)) rfl rfl newsA oneA (by unfold maxLen;omega) (by omega) hzA ?_))|(refine zv rfl 52 77 _ rfl i0 _ Tryd.underlying52 hi hz0 7 hz1 (itC im (.slice aE nE qE) (.slice aF nF qF)) rfl fillA (by decide) (by decide) ?_));clear y2 x0 x1 x2 x3 x4 x5 x6;intro vi w5 hov hgr _ hat
    have P5:Hid (PgO w.heap.size w5 vi (X++[⟨im,.slice aE nE qE,.slice aF nF qF⟩])):=by
     refine PgO.snoc (z:=⟨im,.slice aE nE qE,.slice aF nF qF⟩) PA.out OEA.out OFA.out HAP.out ⟨by have:=HLF.out.1;show im.E.length≤3000;omega,by have:=HLF.out.2;show im.F.length≤3000;omega⟩ AX.out ?_ hgr;rw[HNN.out]at hov;exact hov
    have C5:=Hm (Cu.app CA.out RA.out (by decide) hgr);have E5:=Hm (zp.app EA.out RA.out (by decide) (by decide) hgr);have br5:=Hm (zB hgr RA.out brA.out (by decide));have bp5:=Hm (zB hgr RA.out bpA.out (by decide));have be5:=Hm (zB hgr RA.out beA.out (by decide))
    have bi5:Hid (w5.heap[w2.heap.size]? =some (.cells #[.int .i64 im.k,.string ⟨im.n.toArray⟩,.slice aE nE qE,.slice aF nF qF,.int .i64 im.K,.int .i64 im.lo,.int .i64 im.hi] 77)):=by
     have h0:(w3.alloc (.cells (itC im (.slice aE nE qE) (.slice aF nF qF)).toArray 77)).heap[w2.heap.size]? =some (.cells #[.int .i64 im.k,.string ⟨im.n.toArray⟩,.slice aE nE qE,.slice aF nF qF,.int .i64 im.K,.int .i64 im.lo,.int .i64 im.hi] 77):=zh bi3.out _;unfold Hid;rw[hgr.block _ (zu h0) (fun e=>HPI.out e.symm)];exact h0
    obtain⟨pj,nj,cj,rfl⟩:∃a n c,vi=.slice a n c:=by obtain⟨a,c,e,-⟩:=zj hov;exact⟨_,_,_,e⟩
    clear hov hgr hat RA PA EA CA OEA OFA brA bpA beA newsA oneA fillA C3 E3 P3 br3 bp3 be3 OE3 OF3 bi3;have y2:=cl0 bp5.out;have f2:=zb bp5.out 0;have RN5:=Hm E5.out.n;have RT5:=Hm E5.out.t;obtain⟨w6,hw6⟩:∃W,W=w5.setCell ⟨w.heap.size+1,0,none⟩ (.slice pj nj cj):=⟨_,rfl⟩;have P6:=Hm (PgO.far (i:=0) (v:=.slice pj nj cj) P5.out bp5.out (by decide) (by decide));have C6:=Hm (Cu.set (r:=w.heap.size+1) (i:=0) (v:=.slice pj nj cj) C5.out (by omega));have bp6:=Hm (zk bp5.out 0 (.slice pj nj cj));simp only[qa,qb,qc]at bp6;have br6:=Hm (zn br5.out (show w.heap.size≠w.heap.size+1 by omega) 0 (.slice pj nj cj));have be6:=Hm (zn be5.out (show w.heap.size+2≠w.heap.size+1 by omega) 0 (.slice pj nj cj))
    have RN6:=Hm (zo (i:=0) (v:=.slice pj nj cj) RN5.out bp5.out (by decide));have RT6:=Hm (zo (i:=0) (v:=.slice pj nj cj) RT5.out bp5.out (by decide));rw[←hw6]at P6 C6 bp6 br6 be6 RN6 RT6;have bi6:=Hm (zn bi5.out (show w2.heap.size≠w.heap.size+1 by omega) 0 (.slice pj nj cj));rw[←hw6]at bi6;refine Hid.out ?_;refine Lib.hid ?_;go_upto_region 17 with fail;rw[←hw6];clear hw6 y2 f2;have x0:=cl0 bi6.out;go_wp2_with fail;refine hn.out _ _ _ _ _ _ (.slice pj nj cj) (.slice pa ne ca) (.slice pb ne cb) (X++[⟨im,.slice aE nE qE,.slice aF nF qF⟩]) _ ?_ ?_ ?_ ?_
    ·rfl
    ·have hS:zL D G S=⟨s2,S.L++[im],S.ev,S.l||im.k==7⟩:=by
      unfold zL;simp only[ho.out];rw[if_neg H6.out,QR.out];simp only[K7.out,HL.out,ne_eq,not_true_eq_false,false_or,or_true,if_true]
     rw[hS];exact⟨C6.out,P6.out,by rw[List.map_append,HIM.out];rfl,⟨RN6.out,RT6.out⟩,br6.out,bp6.out,be6.out,HLE.out⟩
    ·unfold zL
     simp only[ho.out];rw[if_neg H6.out,QR.out];simp[HL.out,K7.out,HL.out,ne_eq,not_true_eq_false,false_or,or_true,if_true]
    ·rw[qg];exact qn _
  ·have kn:im.k≠7:=k7
   have ke:(im.k==7)=false:=by simp[k7]
   cases l with
   |true=>
    have y2:=cl0 bp3.out;have hbA:Below w3.heap.size w3 (w3.alloc (.cells (itC im (.slice aE nE qE) (.slice aF nF qF)).toArray 77)):=zf (Below.refl _ _) _;have PA:=Hm (PgO.below P3.out hbA);have EA:=Hm (zp.below E3.out hbA);have CA:=Hm (Cu.below C3.out hbA);have OEA:=Hm (OwnO.below OE3.out hbA);have OFA:=Hm (OwnO.below OF3.out hbA);have brA:=Hm (ze br3.out hbA);have bpA:=Hm (ze bp3.out hbA);have beA:=Hm (ze be3.out hbA);clear hbA;have hzA:w.heap.size≤(w3.alloc (.cells (itC im (.slice aE nE qE) (.slice aF nF qF)).toArray 77)).heap.size:=CA.out.size
    have RA:Hid ((w3.alloc (.cells (itC im (.slice aE nE qE) (.slice aF nF qF)).toArray 77)).ownsRow w.heap.size 77 7 (.slice pi nx ci) nx (X.flatMap Xi.cs)):=by
     have:=PA.out.row;rw[←HNN.out]at this;exact this
    have newsA:=Yy (w:=w3) im (.slice aE nE qE) (.slice aF nF qF) _ rfl;have oneA:=Wr im aE nE qE aF nF qF;have fillA:=YI im.k ⟨im.n.toArray⟩ aE nE qE aF nF qF im.K im.lo im.hi;go_wp2_with (first|(at_builtin;go_must (refine wpList_append_own_at _ rfl _ _ 52 rfl w.heap.size 77 i0 (.agg #[.int .i64 0,.string ⟨#[]⟩,.slice none 0 0,.slice none 0 0,.int .i64 0,.int .i64 0,.int .i64 0]) 7 96 Tryd.underlying52 hi hz0 hz1 hz2 rfl (by decide) _ _ _ rfl RA.out ⟨w3.heap.size,0,none⟩ 1 1 (itC im (.slice aE nE qE) (.slice aF nF qF)) rfl rfl newsA oneA (by unfold maxLen;omega) (by omega) hzA ?_))|(refine zv rfl 52 77 _ rfl i0 _ Tryd.underlying52 hi hz0 7 hz1 (itC im (.slice aE nE qE) (.slice aF nF qF)) rfl fillA (by decide) (by decide) ?_));clear y2 x0 x1 x2 x3 x4 x5 x6;intro vi w5 hov hgr _ hat
    have P5:Hid (PgO w.heap.size w5 vi (X++[⟨im,.slice aE nE qE,.slice aF nF qF⟩])):=by
     refine PgO.snoc (z:=⟨im,.slice aE nE qE,.slice aF nF qF⟩) PA.out OEA.out OFA.out HAP.out ⟨by have:=HLF.out.1;show im.E.length≤3000;omega,by have:=HLF.out.2;show im.F.length≤3000;omega⟩ AX.out ?_ hgr;rw[HNN.out]at hov;exact hov
    have C5:=Hm (Cu.app CA.out RA.out (by decide) hgr);have E5:=Hm (zp.app EA.out RA.out (by decide) (by decide) hgr);have br5:=Hm (zB hgr RA.out brA.out (by decide));have bp5:=Hm (zB hgr RA.out bpA.out (by decide));have be5:=Hm (zB hgr RA.out beA.out (by decide))
    have bi5:Hid (w5.heap[w2.heap.size]? =some (.cells #[.int .i64 im.k,.string ⟨im.n.toArray⟩,.slice aE nE qE,.slice aF nF qF,.int .i64 im.K,.int .i64 im.lo,.int .i64 im.hi] 77)):=by
     have h0:(w3.alloc (.cells (itC im (.slice aE nE qE) (.slice aF nF qF)).toArray 77)).heap[w2.heap.size]? =some (.cells #[.int .i64 im.k,.string ⟨im.n.toArray⟩,.slice aE nE qE,.slice aF nF qF,.int .i64 im.K,.int .i64 im.lo,.int .i64 im.hi] 77):=zh bi3.out _;unfold Hid;rw[hgr.block _ (zu h0) (fun e=>HPI.out e.symm)];exact h0
    obtain⟨pj,nj,cj,rfl⟩:∃a n c,vi=.slice a n c:=by obtain⟨a,c,e,-⟩:=zj hov;exact⟨_,_,_,e⟩
    clear hov hgr hat RA PA EA CA OEA OFA brA bpA beA newsA oneA fillA C3 E3 P3 br3 bp3 be3 OE3 OF3 bi3;have y2:=cl0 bp5.out;have f2:=zb bp5.out 0;have RN5:=Hm E5.out.n;have RT5:=Hm E5.out.t;obtain⟨w6,hw6⟩:∃W,W=w5.setCell ⟨w.heap.size+1,0,none⟩ (.slice pj nj cj):=⟨_,rfl⟩;have P6:=Hm (PgO.far (i:=0) (v:=.slice pj nj cj) P5.out bp5.out (by decide) (by decide));have C6:=Hm (Cu.set (r:=w.heap.size+1) (i:=0) (v:=.slice pj nj cj) C5.out (by omega));have bp6:=Hm (zk bp5.out 0 (.slice pj nj cj));simp only[qa,qb,qc]at bp6;have br6:=Hm (zn br5.out (show w.heap.size≠w.heap.size+1 by omega) 0 (.slice pj nj cj));have be6:=Hm (zn be5.out (show w.heap.size+2≠w.heap.size+1 by omega) 0 (.slice pj nj cj))
    have RN6:=Hm (zo (i:=0) (v:=.slice pj nj cj) RN5.out bp5.out (by decide));have RT6:=Hm (zo (i:=0) (v:=.slice pj nj cj) RT5.out bp5.out (by decide));rw[←hw6]at P6 C6 bp6 br6 be6 RN6 RT6;have bi6:=Hm (zn bi5.out (show w2.heap.size≠w.heap.size+1 by omega) 0 (.slice pj nj cj));rw[←hw6]at bi6;refine Hid.out ?_;refine Lib.hid ?_;go_upto_region 17 with fail;rw[←hw6];clear hw6 y2 f2;have x0:=cl0 bi6.out;go_wp2_with fail;refine hn.out _ _ _ _ _ _ (.slice pj nj cj) (.slice pa ne ca) (.slice pb ne cb) (X++[⟨im,.slice aE nE qE,.slice aF nF qF⟩]) _ ?_ ?_ ?_ ?_
    ·rfl
    ·have hS:zL D G S=⟨s2,S.L++[im],S.ev,S.l||im.k==7⟩:=by
      unfold zL;simp only[ho.out];rw[if_neg H6.out,QR.out];simp only[ne_eq,kn,not_false_eq_true,true_or,if_true]
     rw[hS];exact⟨C6.out,P6.out,by rw[List.map_append,HIM.out];rfl,⟨RN6.out,RT6.out⟩,br6.out,bp6.out,be6.out,HLE.out⟩
    ·unfold zL
     simp only[ho.out];rw[if_neg H6.out,QR.out];simp[HL.out,ne_eq,kn,not_false_eq_true,true_or,if_true]
    ·rw[qg];exact qn _
   |false=>
    have y2:=cl0 bp3.out;have hbA:Below w3.heap.size w3 (w3.alloc (.cells (itC im (.slice aE nE qE) (.slice aF nF qF)).toArray 77)):=zf (Below.refl _ _) _;have PA:=Hm (PgO.below P3.out hbA);have EA:=Hm (zp.below E3.out hbA);have CA:=Hm (Cu.below C3.out hbA);have OEA:=Hm (OwnO.below OE3.out hbA);have OFA:=Hm (OwnO.below OF3.out hbA);have brA:=Hm (ze br3.out hbA);have bpA:=Hm (ze bp3.out hbA);have beA:=Hm (ze be3.out hbA);clear hbA;have hzA:w.heap.size≤(w3.alloc (.cells (itC im (.slice aE nE qE) (.slice aF nF qF)).toArray 77)).heap.size:=CA.out.size
    have RA:Hid ((w3.alloc (.cells (itC im (.slice aE nE qE) (.slice aF nF qF)).toArray 77)).ownsRow w.heap.size 77 7 (.slice pi nx ci) nx (X.flatMap Xi.cs)):=by
     have:=PA.out.row;rw[←HNN.out]at this;exact this
    have newsA:=Yy (w:=w3) im (.slice aE nE qE) (.slice aF nF qF) _ rfl;have oneA:=Wr im aE nE qE aF nF qF;have fillA:=YI im.k ⟨im.n.toArray⟩ aE nE qE aF nF qF im.K im.lo im.hi;go_wp2_with (first|(at_builtin;go_must (refine wpList_append_own_at _ rfl _ _ 52 rfl w.heap.size 77 i0 (.agg #[.int .i64 0,.string ⟨#[]⟩,.slice none 0 0,.slice none 0 0,.int .i64 0,.int .i64 0,.int .i64 0]) 7 96 Tryd.underlying52 hi hz0 hz1 hz2 rfl (by decide) _ _ _ rfl RA.out ⟨w3.heap.size,0,none⟩ 1 1 (itC im (.slice aE nE qE) (.slice aF nF qF)) rfl rfl newsA oneA (by unfold maxLen;omega) (by omega) hzA ?_))|(refine zv rfl 52 77 _ rfl i0 _ Tryd.underlying52 hi hz0 7 hz1 (itC im (.slice aE nE qE) (.slice aF nF qF)) rfl fillA (by decide) (by decide) ?_));clear y2 x0 x1 x2 x3 x4 x5 x6;intro vi w5 hov hgr _ hat
    have P5:Hid (PgO w.heap.size w5 vi (X++[⟨im,.slice aE nE qE,.slice aF nF qF⟩])):=by
     refine PgO.snoc (z:=⟨im,.slice aE nE qE,.slice aF nF qF⟩) PA.out OEA.out OFA.out HAP.out ⟨by have:=HLF.out.1;show im.E.length≤3000;omega,by have:=HLF.out.2;show im.F.length≤3000;omega⟩ AX.out ?_ hgr;rw[HNN.out]at hov;exact hov
    have C5:=Hm (Cu.app CA.out RA.out (by decide) hgr);have E5:=Hm (zp.app EA.out RA.out (by decide) (by decide) hgr);have br5:=Hm (zB hgr RA.out brA.out (by decide));have bp5:=Hm (zB hgr RA.out bpA.out (by decide));have be5:=Hm (zB hgr RA.out beA.out (by decide))
    have bi5:Hid (w5.heap[w2.heap.size]? =some (.cells #[.int .i64 im.k,.string ⟨im.n.toArray⟩,.slice aE nE qE,.slice aF nF qF,.int .i64 im.K,.int .i64 im.lo,.int .i64 im.hi] 77)):=by
     have h0:(w3.alloc (.cells (itC im (.slice aE nE qE) (.slice aF nF qF)).toArray 77)).heap[w2.heap.size]? =some (.cells #[.int .i64 im.k,.string ⟨im.n.toArray⟩,.slice aE nE qE,.slice aF nF qF,.int .i64 im.K,.int .i64 im.lo,.int .i64 im.hi] 77):=zh bi3.out _;unfold Hid;rw[hgr.block _ (zu h0) (fun e=>HPI.out e.symm)];exact h0
    obtain⟨pj,nj,cj,rfl⟩:∃a n c,vi=.slice a n c:=by obtain⟨a,c,e,-⟩:=zj hov;exact⟨_,_,_,e⟩
    clear hov hgr hat RA PA EA CA OEA OFA brA bpA beA newsA oneA fillA C3 E3 P3 br3 bp3 be3 OE3 OF3 bi3;have y2:=cl0 bp5.out;have f2:=zb bp5.out 0;have RN5:=Hm E5.out.n;have RT5:=Hm E5.out.t;obtain⟨w6,hw6⟩:∃W,W=w5.setCell ⟨w.heap.size+1,0,none⟩ (.slice pj nj cj):=⟨_,rfl⟩;have P6:=Hm (PgO.far (i:=0) (v:=.slice pj nj cj) P5.out bp5.out (by decide) (by decide));have C6:=Hm (Cu.set (r:=w.heap.size+1) (i:=0) (v:=.slice pj nj cj) C5.out (by omega));have bp6:=Hm (zk bp5.out 0 (.slice pj nj cj));simp only[qa,qb,qc]at bp6;have br6:=Hm (zn br5.out (show w.heap.size≠w.heap.size+1 by omega) 0 (.slice pj nj cj));have be6:=Hm (zn be5.out (show w.heap.size+2≠w.heap.size+1 by omega) 0 (.slice pj nj cj))
    have RN6:=Hm (zo (i:=0) (v:=.slice pj nj cj) RN5.out bp5.out (by decide));have RT6:=Hm (zo (i:=0) (v:=.slice pj nj cj) RT5.out bp5.out (by decide));rw[←hw6]at P6 C6 bp6 br6 be6 RN6 RT6;have bi6:=Hm (zn bi5.out (show w2.heap.size≠w.heap.size+1 by omega) 0 (.slice pj nj cj));rw[←hw6]at bi6;refine Hid.out ?_;refine Lib.hid ?_;go_upto_region 17 with fail;rw[←hw6];clear hw6 y2 f2;have x0:=cl0 bi6.out;go_wp2_with fail;refine hn.out _ _ _ _ _ _ (.slice pj nj cj) (.slice pa ne ca) (.slice pb ne cb) (X++[⟨im,.slice aE nE qE,.slice aF nF qF⟩]) _ ?_ ?_ ?_ ?_
    ·rfl
    ·have hS:zL D G S=⟨s2,S.L++[im],S.ev,S.l||im.k==7⟩:=by
      unfold zL;simp only[ho.out];rw[if_neg H6.out,QR.out];simp only[ne_eq,kn,not_false_eq_true,true_or,if_true]
     rw[hS];exact⟨C6.out,P6.out,by rw[List.map_append,HIM.out];rfl,⟨RN6.out,RT6.out⟩,br6.out,bp6.out,be6.out,HLE.out⟩
    ·unfold zL
     simp only[ho.out];rw[if_neg H6.out,QR.out];simp[HL.out,ne_eq,kn,not_false_eq_true,true_or,if_true]
    ·rw[qg];exact qn _
 |false=>
  go_wp2_with fail;clear y0 y1 y2;refine(HG.out).mono ?_;obtain⟨im,s2,hx⟩:=two (ZI D S.ev s1 G);rw[hx];rintro e' w2 ⟨vE,vF,rfl,hoE,hoF,hc,hlE,hlF,hap⟩;dsimp only at hoE hoF hc hlE hlF;have hgb:=hc.gb;have C2:=Hm (Cu.in' C1.out hc);have QR:=Hm hx;have hs1:=C1.out.size;have OE2:=Hm (hoE.low hs1);have OF2:=Hm (hoF.low hs1);have HLF:Hid (im.E.length≤64∧im.F.length≤64):=⟨hlE,hlF⟩;have AX:Hid (∀x∈X,Ap x.e vE∧Ap x.e vF∧Ap x.f vE∧Ap x.f vF):=fun x hx=>⟨xG hoE (P1.out.e x hx) (qn _),xG hoF (P1.out.e x hx) (qn _),xG hoE (P1.out.f x hx) (qn _),xG hoF (P1.out.f x hx) (qn _)⟩
  have HAP:=Hm hap;obtain⟨aE,nE,qE,rfl⟩:∃a n c,vE=.slice a n c:=by obtain⟨a,c,e,-⟩:=zj hoE;exact⟨_,_,_,e⟩
  obtain⟨aF,nF,qF,rfl⟩:∃a n c,vF=.slice a n c:=by obtain⟨a,c,e,-⟩:=zj hoF;exact⟨_,_,_,e⟩
  have P2:=Hm (PgO.cur P1.out C1.out hgb);have E2:=Hm (zp.cur E1.out C1.out hgb);have br2:=Hm (Cu.blk C1.out (qn _) br1.out hgb);have bp2:=Hm (Cu.blk C1.out (by omega) bp1.out hgb);have be2:=Hm (Cu.blk C1.out (by omega) be1.out hgb);clear hx hoE hoF hc hgb hlE hlF hap P1 E1 br1 bp1 be1 HG;unfold itA;have hs2:=C2.out.size;have hbe2:=zu be2.out;obtain⟨w3,hw3⟩:∃W,W=w2.alloc (.cells #[.int .i64 im.k,.string ⟨im.n.toArray⟩,.slice aE nE qE,.slice aF nF qF,.int .i64 im.K,.int .i64 im.lo,.int .i64 im.hi] 77):=⟨_,rfl⟩;have hb:Below w2.heap.size w2 w3:=by rw[hw3];exact zf (Below.refl _ _) _
  have bi3:Hid (w3.heap[w2.heap.size]? =some (.cells #[.int .i64 im.k,.string ⟨im.n.toArray⟩,.slice aE nE qE,.slice aF nF qF,.int .i64 im.K,.int .i64 im.lo,.int .i64 im.hi] 77)):=by rw[hw3];exact zi _ _
  have C3:=Hm (Cu.below C2.out hb);have P3:=Hm (PgO.below P2.out hb);have E3:=Hm (zp.below E2.out hb);have OE3:=Hm (OwnO.below OE2.out hb);have OF3:=Hm (OwnO.below OF2.out hb);have br3:=Hm (ze br2.out hb);have bp3:=Hm (ze bp2.out hb);have be3:=Hm (ze be2.out hb);have P2R:=Hm P2.out.row;clear hb C2 P2 E2 OE2 OF2 br2 bp2 be2;have hs3:=C3.out.size;go_upto_region 15 with fail;rw[←hw3];clear hw3;have x0:=cl0 bi3.out;have x1:=cl1 bi3.out;have x2:=cl2 bi3.out;have x3:=cl3 bi3.out;have x4:=cl4 bi3.out;have x5:=cl5 bi3.out;have x6:=cl6 bi3.out;have HPI:Hid ((Value.slice pi nx ci).ownBlock≠some w2.heap.size):=fun e=>by have:=(World.ownsRow.lt P2R.out _ e).2;omega
  by_cases k7:im.k=7
  ·have kn:(im.k !=7)=false:=by simp[k7]
   have ke:(im.k==7)=true:=by simp[k7]
   have K7:=Hm k7;clear k7
   cases l with
   |true=>
    go_wp2_with fail;refine hn.out _ _ _ _ _ _ (.slice pi nx ci) (.slice pa ne ca) (.slice pb ne cb) X _ ?_ ?_ ?_ ?_
    ·rfl
    ·have hS:zL D G S=⟨s2,S.L,S.ev,S.l||im.k==7⟩:=by
      unfold zL;simp only[ho.out];rw[if_neg H6.out,QR.out];simp[HL.out,K7.out]
     rw[hS];exact⟨C3.out,P3.out,HIM.out,E3.out,br3.out,bp3.out,be3.out,HLE.out⟩
    ·unfold zL
     simp only[ho.out];rw[if_neg H6.out,QR.out];simp[HL.out]
    ·exact Nat.le_succ _
   |false=>
    have y2:=cl0 bp3.out;have hbA:Below w3.heap.size w3 (w3.alloc (.cells (itC im (.slice aE nE qE) (.slice aF nF qF)).toArray 77)):=zf (Below.refl _ _) _;have PA:=Hm (PgO.below P3.out hbA);have EA:=Hm (zp.below E3.out hbA);have CA:=Hm (Cu.below C3.out hbA);have OEA:=Hm (OwnO.below OE3.out hbA);have OFA:=Hm (OwnO.below OF3.out hbA);have brA:=Hm (ze br3.out hbA);have bpA:=Hm (ze bp3.out hbA);have beA:=Hm (ze be3.out hbA);clear hbA;have hzA:w.heap.size≤(w3.alloc (.cells (itC im (.slice aE nE qE) (.slice aF nF qF)).toArray 77)).heap.size:=CA.out.size
    have RA:Hid ((w3.alloc (.cells (itC im (.slice aE nE qE) (.slice aF nF qF)).toArray 77)).ownsRow w.heap.size 77 7 (.slice pi nx ci) nx (X.flatMap Xi.cs)):=by
     have:=PA.out.row;rw[←HNN.out]at this;exact this
    have newsA:=Yy (w:=w3) im (.slice aE nE qE) (.slice aF nF qF) _ rfl;have oneA:=Wr im aE nE qE aF nF qF;have fillA:=YI im.k ⟨im.n.toArray⟩ aE nE qE aF nF qF im.K im.lo im.hi;go_wp2_with (first|(at_builtin;go_must (refine wpList_append_own_at _ rfl _ _ 52 rfl w.heap.size 77 i0 (.agg #[.int .i64 0,.string ⟨#[]⟩,.slice none 0 0,.slice none 0 0,.int .i64 0,.int .i64 0,.int .i64 0]) 7 96 Tryd.underlying52 hi hz0 hz1 hz2 rfl (by decide) _ _ _ rfl RA.out ⟨w3.heap.size,0,none⟩ 1 1 (itC im (.slice aE nE qE) (.slice aF nF qF)) rfl rfl newsA oneA (by unfold maxLen;omega) (by omega) hzA ?_))|(refine zv rfl 52 77 _ rfl i0 _ Tryd.underlying52 hi hz0 7 hz1 (itC im (.slice aE nE qE) (.slice aF nF qF)) rfl fillA (by decide) (by decide) ?_));clear y2 x0 x1 x2 x3 x4 x5 x6;intro vi w5 hov hgr _ hat
    have P5:Hid (PgO w.heap.size w5 vi (X++[⟨im,.slice aE nE qE,.slice aF nF qF⟩])):=by
     refine PgO.snoc (z:=⟨im,.slice aE nE qE,.slice aF nF qF⟩) PA.out OEA.out OFA.out HAP.out ⟨by have:=HLF.out.1;show im.E.length≤3000;omega,by have:=HLF.out.2;show im.F.length≤3000;omega⟩ AX.out ?_ hgr;rw[HNN.out]at hov;exact hov
    have C5:=Hm (Cu.app CA.out RA.out (by decide) hgr);have E5:=Hm (zp.app EA.out RA.out (by decide) (by decide) hgr);have br5:=Hm (zB hgr RA.out brA.out (by decide));have bp5:=Hm (zB hgr RA.out bpA.out (by decide));have be5:=Hm (zB hgr RA.out beA.out (by decide))
    have bi5:Hid (w5.heap[w2.heap.size]? =some (.cells #[.int .i64 im.k,.string ⟨im.n.toArray⟩,.slice aE nE qE,.slice aF nF qF,.int .i64 im.K,.int .i64 im.lo,.int .i64 im.hi] 77)):=by
     have h0:(w3.alloc (.cells (itC im (.slice aE nE qE) (.slice aF nF qF)).toArray 77)).heap[w2.heap.size]? =some (.cells #[.int .i64 im.k,.string ⟨im.n.toArray⟩,.slice aE nE qE,.slice aF nF qF,.int .i64 im.K,.int .i64 im.lo,.int .i64 im.hi] 77):=zh bi3.out _;unfold Hid;rw[hgr.block _ (zu h0) (fun e=>HPI.out e.symm)];exact h0
    obtain⟨pj,nj,cj,rfl⟩:∃a n c,vi=.slice a n c:=by obtain⟨a,c,e,-⟩:=zj hov;exact⟨_,_,_,e⟩
    clear hov hgr hat RA PA EA CA OEA OFA brA bpA beA newsA oneA fillA C3 E3 P3 br3 bp3 be3 OE3 OF3 bi3;have y2:=cl0 bp5.out;have f2:=zb bp5.out 0;have RN5:=Hm E5.out.n;have RT5:=Hm E5.out.t;obtain⟨w6,hw6⟩:∃W,W=w5.setCell ⟨w.heap.size+1,0,none⟩ (.slice pj nj cj):=⟨_,rfl⟩;have P6:=Hm (PgO.far (i:=0) (v:=.slice pj nj cj) P5.out bp5.out (by decide) (by decide));have C6:=Hm (Cu.set (r:=w.heap.size+1) (i:=0) (v:=.slice pj nj cj) C5.out (by omega));have bp6:=Hm (zk bp5.out 0 (.slice pj nj cj));simp only[qa,qb,qc]at bp6;have br6:=Hm (zn br5.out (show w.heap.size≠w.heap.size+1 by omega) 0 (.slice pj nj cj));have be6:=Hm (zn be5.out (show w.heap.size+2≠w.heap.size+1 by omega) 0 (.slice pj nj cj))
    have RN6:=Hm (zo (i:=0) (v:=.slice pj nj cj) RN5.out bp5.out (by decide));have RT6:=Hm (zo (i:=0) (v:=.slice pj nj cj) RT5.out bp5.out (by decide));rw[←hw6]at P6 C6 bp6 br6 be6 RN6 RT6;have bi6:=Hm (zn bi5.out (show w2.heap.size≠w.heap.size+1 by omega) 0 (.slice pj nj cj));rw[←hw6]at bi6;refine Hid.out ?_;refine Lib.hid ?_;go_upto_region 17 with fail;rw[←hw6];clear hw6 y2 f2;have x0:=cl0 bi6.out;go_wp2_with fail;refine hn.out _ _ _ _ _ _ (.slice pj nj cj) (.slice pa ne ca) (.slice pb ne cb) (X++[⟨im,.slice aE nE qE,.slice aF nF qF⟩]) _ ?_ ?_ ?_ ?_
    ·rfl
    ·have hS:zL D G S=⟨s2,S.L++[im],S.ev,S.l||im.k==7⟩:=by
      unfold zL;simp only[ho.out];rw[if_neg H6.out,QR.out];simp only[K7.out,HL.out,ne_eq,not_true_eq_false,false_or,or_true,if_true]
     rw[hS];exact⟨C6.out,P6.out,by rw[List.map_append,HIM.out];rfl,⟨RN6.out,RT6.out⟩,br6.out,bp6.out,be6.out,HLE.out⟩
    ·unfold zL
     simp only[ho.out];rw[if_neg H6.out,QR.out];simp[HL.out,K7.out,HL.out,ne_eq,not_true_eq_false,false_or,or_true,if_true]
    ·rw[qg];exact qn _
  ·have kn:im.k≠7:=k7
   have ke:(im.k==7)=false:=by simp[k7]
   cases l with
   |true=>
    have y2:=cl0 bp3.out;have hbA:Below w3.heap.size w3 (w3.alloc (.cells (itC im (.slice aE nE qE) (.slice aF nF qF)).toArray 77)):=zf (Below.refl _ _) _;have PA:=Hm (PgO.below P3.out hbA);have EA:=Hm (zp.below E3.out hbA);have CA:=Hm (Cu.below C3.out hbA);have OEA:=Hm (OwnO.below OE3.out hbA);have OFA:=Hm (OwnO.below OF3.out hbA);have brA:=Hm (ze br3.out hbA);have bpA:=Hm (ze bp3.out hbA);have beA:=Hm (ze be3.out hbA);clear hbA;have hzA:w.heap.size≤(w3.alloc (.cells (itC im (.slice aE nE qE) (.slice aF nF qF)).toArray 77)).heap.size:=CA.out.size
    have RA:Hid ((w3.alloc (.cells (itC im (.slice aE nE qE) (.slice aF nF qF)).toArray 77)).ownsRow w.heap.size 77 7 (.slice pi nx ci) nx (X.flatMap Xi.cs)):=by
     have:=PA.out.row;rw[←HNN.out]at this;exact this
    have newsA:=Yy (w:=w3) im (.slice aE nE qE) (.slice aF nF qF) _ rfl;have oneA:=Wr im aE nE qE aF nF qF;have fillA:=YI im.k ⟨im.n.toArray⟩ aE nE qE aF nF qF im.K im.lo im.hi;go_wp2_with (first|(at_builtin;go_must (refine wpList_append_own_at _ rfl _ _ 52 rfl w.heap.size 77 i0 (.agg #[.int .i64 0,.string ⟨#[]⟩,.slice none 0 0,.slice none 0 0,.int .i64 0,.int .i64 0,.int .i64 0]) 7 96 Tryd.underlying52 hi hz0 hz1 hz2 rfl (by decide) _ _ _ rfl RA.out ⟨w3.heap.size,0,none⟩ 1 1 (itC im (.slice aE nE qE) (.slice aF nF qF)) rfl rfl newsA oneA (by unfold maxLen;omega) (by omega) hzA ?_))|(refine zv rfl 52 77 _ rfl i0 _ Tryd.underlying52 hi hz0 7 hz1 (itC im (.slice aE nE qE) (.slice aF nF qF)) rfl fillA (by decide) (by decide) ?_));clear y2 x0 x1 x2 x3 x4 x5 x6;intro vi w5 hov hgr _ hat
    have P5:Hid (PgO w.heap.size w5 vi (X++[⟨im,.slice aE nE qE,.slice aF nF qF⟩])):=by
     refine PgO.snoc (z:=⟨im,.slice aE nE qE,.slice aF nF qF⟩) PA.out OEA.out OFA.out HAP.out ⟨by have:=HLF.out.1;show im.E.length≤3000;omega,by have:=HLF.out.2;show im.F.length≤3000;omega⟩ AX.out ?_ hgr;rw[HNN.out]at hov;exact hov
    have C5:=Hm (Cu.app CA.out RA.out (by decide) hgr);have E5:=Hm (zp.app EA.out RA.out (by decide) (by decide) hgr);have br5:=Hm (zB hgr RA.out brA.out (by decide));have bp5:=Hm (zB hgr RA.out bpA.out (by decide));have be5:=Hm (zB hgr RA.out beA.out (by decide))
    have bi5:Hid (w5.heap[w2.heap.size]? =some (.cells #[.int .i64 im.k,.string ⟨im.n.toArray⟩,.slice aE nE qE,.slice aF nF qF,.int .i64 im.K,.int .i64 im.lo,.int .i64 im.hi] 77)):=by
     have h0:(w3.alloc (.cells (itC im (.slice aE nE qE) (.slice aF nF qF)).toArray 77)).heap[w2.heap.size]? =some (.cells #[.int .i64 im.k,.string ⟨im.n.toArray⟩,.slice aE nE qE,.slice aF nF qF,.int .i64 im.K,.int .i64 im.lo,.int .i64 im.hi] 77):=zh bi3.out _;unfold Hid;rw[hgr.block _ (zu h0) (fun e=>HPI.out e.symm)];exact h0
    obtain⟨pj,nj,cj,rfl⟩:∃a n c,vi=.slice a n c:=by obtain⟨a,c,e,-⟩:=zj hov;exact⟨_,_,_,e⟩
    clear hov hgr hat RA PA EA CA OEA OFA brA bpA beA newsA oneA fillA C3 E3 P3 br3 bp3 be3 OE3 OF3 bi3;have y2:=cl0 bp5.out;have f2:=zb bp5.out 0;have RN5:=Hm E5.out.n;have RT5:=Hm E5.out.t;obtain⟨w6,hw6⟩:∃W,W=w5.setCell ⟨w.heap.size+1,0,none⟩ (.slice pj nj cj):=⟨_,rfl⟩;have P6:=Hm (PgO.far (i:=0) (v:=.slice pj nj cj) P5.out bp5.out (by decide) (by decide));have C6:=Hm (Cu.set (r:=w.heap.size+1) (i:=0) (v:=.slice pj nj cj) C5.out (by omega));have bp6:=Hm (zk bp5.out 0 (.slice pj nj cj));simp only[qa,qb,qc]at bp6;have br6:=Hm (zn br5.out (show w.heap.size≠w.heap.size+1 by omega) 0 (.slice pj nj cj));have be6:=Hm (zn be5.out (show w.heap.size+2≠w.heap.size+1 by omega) 0 (.slice pj nj cj))
    have RN6:=Hm (zo (i:=0) (v:=.slice pj nj cj) RN5.out bp5.out (by decide));have RT6:=Hm (zo (i:=0) (v:=.slice pj nj cj) RT5.out bp5.out (by decide));rw[←hw6]at P6 C6 bp6 br6 be6 RN6 RT6;have bi6:=Hm (zn bi5.out (show w2.heap.size≠w.heap.size+1 by omega) 0 (.slice pj nj cj));rw[←hw6]at bi6;refine Hid.out ?_;refine Lib.hid ?_;go_upto_region 17 with fail;rw[←hw6];clear hw6 y2 f2;have x0:=cl0 bi6.out;go_wp2_with fail;refine hn.out _ _ _ _ _ _ (.slice pj nj cj) (.slice pa ne ca) (.slice pb ne cb) (X++[⟨im,.slice aE nE qE,.slice aF nF qF⟩]) _ ?_ ?_ ?_ ?_
    ·rfl
    ·have hS:zL D G S=⟨s2,S.L++[im],S.ev,S.l||im.k==7⟩:=by
      unfold zL;simp only[ho.out];rw[if_neg H6.out,QR.out];simp only[ne_eq,kn,not_false_eq_true,true_or,if_true]
     rw[hS];exact⟨C6.out,P6.out,by rw[List.map_append,HIM.out];rfl,⟨RN6.out,RT6.out⟩,br6.out,bp6.out,be6.out,HLE.out⟩
    ·unfold zL
     simp only[ho.out];rw[if_neg H6.out,QR.out];simp[HL.out,ne_eq,kn,not_false_eq_true,true_or,if_true]
    ·rw[qg];exact qn _
   |false=>
    have y2:=cl0 bp3.out;have hbA:Below w3.heap.size w3 (w3.alloc (.cells (itC im (.slice aE nE qE) (.slice aF nF qF)).toArray 77)):=zf (Below.refl _ _) _;have PA:=Hm (PgO.below P3.out hbA);have EA:=Hm (zp.below E3.out hbA);have CA:=Hm (Cu.below C3.out hbA);have OEA:=Hm (OwnO.below OE3.out hbA);have OFA:=Hm (OwnO.below OF3.out hbA);have brA:=Hm (ze br3.out hbA);have bpA:=Hm (ze bp3.out hbA);have beA:=Hm (ze be3.out hbA);clear hbA;have hzA:w.heap.size≤(w3.alloc (.cells (itC im (.slice aE nE qE) (.slice aF nF qF)).toArray 77)).heap.size:=CA.out.size
    have RA:Hid ((w3.alloc (.cells (itC im (.slice aE nE qE) (.slice aF nF qF)).toArray 77)).ownsRow w.heap.size 77 7 (.slice pi nx ci) nx (X.flatMap Xi.cs)):=by
     have:=PA.out.row;rw[←HNN.out]at this;exact this
    have newsA:=Yy (w:=w3) im (.slice aE nE qE) (.slice aF nF qF) _ rfl;have oneA:=Wr im aE nE qE aF nF qF;have fillA:=YI im.k ⟨im.n.toArray⟩ aE nE qE aF nF qF im.K im.lo im.hi;go_wp2_with (first|(at_builtin;go_must (refine wpList_append_own_at _ rfl _ _ 52 rfl w.heap.size 77 i0 (.agg #[.int .i64 0,.string ⟨#[]⟩,.slice none 0 0,.slice none 0 0,.int .i64 0,.int .i64 0,.int .i64 0]) 7 96 Tryd.underlying52 hi hz0 hz1 hz2 rfl (by decide) _ _ _ rfl RA.out ⟨w3.heap.size,0,none⟩ 1 1 (itC im (.slice aE nE qE) (.slice aF nF qF)) rfl rfl newsA oneA (by unfold maxLen;omega) (by omega) hzA ?_))|(refine zv rfl 52 77 _ rfl i0 _ Tryd.underlying52 hi hz0 7 hz1 (itC im (.slice aE nE qE) (.slice aF nF qF)) rfl fillA (by decide) (by decide) ?_));clear y2 x0 x1 x2 x3 x4 x5 x6;intro vi w5 hov hgr _ hat
    have P5:Hid (PgO w.heap.size w5 vi (X++[⟨im,.slice aE nE qE,.slice aF nF qF⟩])):=by
     refine PgO.snoc (z:=⟨im,.slice aE nE qE,.slice aF nF qF⟩) PA.out OEA.out OFA.out HAP.out ⟨by have:=HLF.out.1;show im.E.length≤3000;omega,by have:=HLF.out.2;show im.F.length≤3000;omega⟩ AX.out ?_ hgr;rw[HNN.out]at hov;exact hov
    have C5:=Hm (Cu.app CA.out RA.out (by decide) hgr);have E5:=Hm (zp.app EA.out RA.out (by decide) (by decide) hgr);have br5:=Hm (zB hgr RA.out brA.out (by decide));have bp5:=Hm (zB hgr RA.out bpA.out (by decide));have be5:=Hm (zB hgr RA.out beA.out (by decide))
    have bi5:Hid (w5.heap[w2.heap.size]? =some (.cells #[.int .i64 im.k,.string ⟨im.n.toArray⟩,.slice aE nE qE,.slice aF nF qF,.int .i64 im.K,.int .i64 im.lo,.int .i64 im.hi] 77)):=by
     have h0:(w3.alloc (.cells (itC im (.slice aE nE qE) (.slice aF nF qF)).toArray 77)).heap[w2.heap.size]? =some (.cells #[.int .i64 im.k,.string ⟨im.n.toArray⟩,.slice aE nE qE,.slice aF nF qF,.int .i64 im.K,.int .i64 im.lo,.int .i64 im.hi] 77):=zh bi3.out _;unfold Hid;rw[hgr.block _ (zu h0) (fun e=>HPI.out e.symm)];exact h0
    obtain⟨pj,nj,cj,rfl⟩:∃a n c,vi=.slice a n c:=by obtain⟨a,c,e,-⟩:=zj hov;exact⟨_,_,_,e⟩
    clear hov hgr hat RA PA EA CA OEA OFA brA bpA beA newsA oneA fillA C3 E3 P3 br3 bp3 be3 OE3 OF3 bi3;have y2:=cl0 bp5.out;have f2:=zb bp5.out 0;have RN5:=Hm E5.out.n;have RT5:=Hm E5.out.t;obtain⟨w6,hw6⟩:∃W,W=w5.setCell ⟨w.heap.size+1,0,none⟩ (.slice pj nj cj):=⟨_,rfl⟩;have P6:=Hm (PgO.far (i:=0) (v:=.slice pj nj cj) P5.out bp5.out (by decide) (by decide));have C6:=Hm (Cu.set (r:=w.heap.size+1) (i:=0) (v:=.slice pj nj cj) C5.out (by omega));have bp6:=Hm (zk bp5.out 0 (.slice pj nj cj));simp only[qa,qb,qc]at bp6;have br6:=Hm (zn br5.out (show w.heap.size≠w.heap.size+1 by omega) 0 (.slice pj nj cj));have be6:=Hm (zn be5.out (show w.heap.size+2≠w.heap.size+1 by omega) 0 (.slice pj nj cj))
    have RN6:=Hm (zo (i:=0) (v:=.slice pj nj cj) RN5.out bp5.out (by decide));have RT6:=Hm (zo (i:=0) (v:=.slice pj nj cj) RT5.out bp5.out (by decide));rw[←hw6]at P6 C6 bp6 br6 be6 RN6 RT6;have bi6:=Hm (zn bi5.out (show w2.heap.size≠w.heap.size+1 by omega) 0 (.slice pj nj cj));rw[←hw6]at bi6;refine Hid.out ?_;refine Lib.hid ?_;go_upto_region 17 with fail;rw[←hw6];clear hw6 y2 f2;have x0:=cl0 bi6.out;go_wp2_with fail;refine hn.out _ _ _ _ _ _ (.slice pj nj cj) (.slice pa ne ca) (.slice pb ne cb) (X++[⟨im,.slice aE nE qE,.slice aF nF qF⟩]) _ ?_ ?_ ?_ ?_
    ·rfl
    ·have hS:zL D G S=⟨s2,S.L++[im],S.ev,S.l||im.k==7⟩:=by
      unfold zL;simp only[ho.out];rw[if_neg H6.out,QR.out];simp only[ne_eq,kn,not_false_eq_true,true_or,if_true]
     rw[hS];exact⟨C6.out,P6.out,by rw[List.map_append,HIM.out];rfl,⟨RN6.out,RT6.out⟩,br6.out,bp6.out,be6.out,HLE.out⟩
    ·unfold zL
     simp only[ho.out];rw[if_neg H6.out,QR.out];simp[HL.out,ne_eq,kn,not_false_eq_true,true_or,if_true]
    ·rw[qg];exact qn _
end Go.Proofs.YtbdldkpifanaiaaDoor.Dq
