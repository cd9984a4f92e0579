import Derived.Test.YtbdldkpifanaiaaDoorCr45
import Derived.Test.YtbdldkpifanaiaaDoorCr46
set_option maxHeartbeats 6400000
set_option maxRecDepth 1000000
set_option linter.unusedVariables false
set_option linter.unusedSimpArgs false
open List renaming setIfInBounds_toArray → qa, set_cons_zero → qb, set_cons_succ → qc, getElem_cons_succ → qd, getElem_cons_zero → qe, getElem_toArray → qf, length_append → qg, length_cons → qh, length_nil → qi
open Nat renaming le_refl → qn, le_trans → qo, lt_of_lt_of_le → qp, le_of_lt → qq
namespace Go.Proofs.YtbdldkpifanaiaaDoor.Cd
open Go Go.RowKit Mem Syn Parse Par Dq Draw
attribute [local go_sem ↓] Go.wp_at_zero Go.wp_at_succ
variable {B g:Nat} {w0 w w':World} {bs:List UInt8} {D:Sr} {s s':DS}
theorem Xy (C:Co):(Enc.answer C).length≤1000000:=by
 unfold Enc.answer
 split
 ·rename_i h
  have g:=Enc.good_co h;have h0:=Enc.vrs_len (Enc.small_nums g);have h1:=g.b1.len;have h2:=g.b2.len;have h3:=g.b3.len;rw[Enc.nums_len]at h0;unfold Enc.encB;omega
 ·simp
def Vv (k i:Nat) (x:UInt8) (b:List UInt8):List UInt8:=
 if k=0 then b.take i
 else if k=1 then b++[x]
 else if k=2 then b.set i x
 else if k=3 then b.set i (b.getD i 0+2)
 else if k=4 then (b.take i++[b.getD i 0|||128,0])++b.drop (i+1)
 else if k=5 then (b.take i++[128,128,128,128,1])++b.drop i
 else (b.take i++[255,255,255,255,255,7])++b.drop i
def XU (bs:List UInt8) (D:Sr) (b:List UInt8) (s:DS):List UInt8:=
 match D.bel s 12 with
 |(k,s1)=>if 6<k∨b.length=0 then b else
  match D.bel s1 b.length with
  |(i,s2)=>Vv k i (UInt8.ofNat (ye bs s2).1) b
theorem Tq {b:List UInt8} {k i:Nat} {s1 s2:DS} (h1:D.bel s 12=(k,s1)) (h6:¬6<k) (h0:¬b.length=0) (h2:D.bel s1 b.length=(i,s2)):XU bs D b s=Vv k i (UInt8.ofNat (ye bs s2).1) b:=by
 unfold XU;rw[h1];show(if 6<k∨b.length=0 then b else match D.bel s1 b.length with|(i,s2)=>Vv k i (UInt8.ofNat (ye bs s2).1) b)=_;rw[if_neg (fun h=>h.elim h6 h0),h2]
theorem Wb (k i:Nat) (x:UInt8) (b:List UInt8):(Vv k i x b).length≤b.length+6:=by
 unfold Vv
 repeat' split
 all_goals simp
 all_goals omega
theorem UA (b:List UInt8) (s:DS) (h:b.length≤1000000):(XU bs D b s).length≤1048576:=by
 unfold XU
 split
 split
 ·omega
 split
 rename_i i s2 _
 have:=Wb (x:=UInt8.ofNat (ye bs s2).1) (k:=‹Nat›) i b;exact qo (Wb _ _ _ _) (by omega)
def TxR (w w':World) (t:List UInt8) (e:Ending):Prop:=∃a c,e=.returned (.slice a t.length c)∧Dec.RdB w' a t∧t.length≤c∧(∀p,a=some p→p.block<w'.heap.size)∧Below w.heap.size w w'
theorem xX {B':Nat} {v:Value} {t:List UInt8} (h:Enc.Own B' w v t):∃a c,v=.slice a t.length c∧Dec.RdB w a t∧t.length≤c∧(∀p,a=some p→p.block<w.heap.size):=by
 rcases h.2 with⟨h1,h2⟩|⟨g,cap,cur,hv,hg,hblk,hcap,-,-,ht⟩
 ·have:t=[]:=List.eq_nil_of_length_eq_zero h2
  subst this;exact⟨none,0,h1,Or.inl rfl,qn _,fun p hp=>by cases hp⟩
 ·refine⟨_,cap,hv,Or.inr ⟨g,0,rfl,fun j hj=>?_⟩,hcap,fun p hp=>by injection hp with hp;rw[←hp];exact zu hblk⟩
  rw[Nat.zero_add,za hblk j];have hc:(Lib.byteCells t)[j]? =some (.int .u8 (t[j].toNat:Int)):=by simp[Lib.byteCells,hj]
  rw[←ht,List.getElem?_take]at hc
  split at hc
  ·simpa using hc
  ·cases hc
theorem WG {B' n c:Nat} {a:Option Addr} {t:List UInt8} (h:Enc.Own B' w (.slice a n c) t):t.length≤c:=by
 obtain⟨a',c',hv,-,hc,-⟩:=xX h;injection hv with _ _ hv;rw[hv];exact hc
theorem yA {B':Nat} {v:Value} {t:List UInt8} (h:Enc.Own B' w' v t) (hb:Below w.heap.size w w'):TxR w w' t (.returned v):=by
 obtain⟨a,c,rfl,h1,h2,h3⟩:=xX h;exact⟨a,c,rfl,h1,h2,h3,hb⟩
def ZY (bs:List UInt8):List UInt8:=
 match YM ⟨yf bs,Zb bs⟩ ⟨0,y9 bs.length bs⟩ (xp bs.length 5)with
 |(M,s)=>XU bs ⟨yf bs,Zb bs⟩ (Enc.answer M.dc.co) s
theorem Wu (bs:List UInt8):(ZY bs).length≤1048576:=by
 unfold ZY
 split
 exact UA _ _ (Xy _)
theorem xJ (V:World):∃(X:World) (G:Nat),X=V.alloc (.cells #[] 5)∧G=V.heap.size∧Enc.Own V.heap.size X (.slice (some ⟨G,0,none⟩) 0 0) []∧Below V.heap.size V X∧G<X.heap.size:=⟨_,_,rfl,rfl,Enc.own_empty V _ rfl,zf (Below.refl _ _) _,by simp⟩
theorem xN (V:World) (cs:List Value):∃(X:World) (G:Nat),X=V.alloc (.cells cs.toArray 5)∧G=V.heap.size∧(∀j u,cs[j]? =some u→X.cell? ((⟨G,0,none⟩:Addr).add j)=some u)∧Below V.heap.size V X∧G<X.heap.size:=⟨_,_,rfl,rfl,Enc.cells_of_blk (zi _ _),zf (Below.refl _ _) _,by simp⟩
theorem WD {B' g c i:Nat} {b:List UInt8} {x:UInt8} {z:Int} (h:Enc.Own B' w (.slice (some ⟨g,0,none⟩) b.length c) b) (hz:(x.toNat:Int)=z):Enc.Own B' (w.setCell ⟨g,i,none⟩ (.int .u8 z)) (.slice (some ⟨g,0,none⟩) b.length c) (b.set i x)∧w.grownBy (w.setCell ⟨g,i,none⟩ (.int .u8 z)) (some g):=by
 have h2:=World.ownsRow.stored h i (.int .u8 z);refine⟨?_,h2.2⟩;have h1:=h2.1;unfold Enc.Own;rw[List.length_set];have:Lib.byteCells (b.set i x)=(Lib.byteCells b).set i (.int .u8 z):=by simp[Lib.byteCells,List.map_set,hz]
 rw[this];exact h1
theorem yx {b:List UInt8} {V:World} {g:Nat} (h:∀j u,(Lib.byteCells b)[j]? =some u→V.cell? ((⟨g,0,none⟩:Addr).add j)=some u) (i:Nat):∀j u,(Lib.byteCells (b.take i))[j]? =some u→V.cell? ((⟨g,0,none⟩:Addr).add j)=some u:=fun j u hu=>by
 refine h j u ?_;simp only[Lib.byteCells,List.map_take,List.getElem?_take]at hu
 split at hu
 ·exact hu
 ·cases hu
theorem yO {b:List UInt8} {V:World} {g:Nat} (h:∀j u,(Lib.byteCells b)[j]? =some u→V.cell? ((⟨g,0,none⟩:Addr).add j)=some u) (i:Nat):∀j u,(Lib.byteCells (b.drop i))[j]? =some u→V.cell? ((⟨g,i,none⟩:Addr).add j)=some u:=fun j u hu=>by
 have:=h (i+j) u (by simp only[Lib.byteCells,List.map_drop,List.getElem?_drop]at hu;exact hu);rw[Addr.add_mid]at this ⊢;rw[Nat.zero_add]at this;exact this
theorem U5 {b:List UInt8} {V V':World} {g:Nat} {row:Option Nat} (h:∀j u,(Lib.byteCells b)[j]? =some u→V.cell? ((⟨g,0,none⟩:Addr).add j)=some u) (hg:V.grownBy V' row) (hne:some g≠row):∀j u,(Lib.byteCells b)[j]? =some u→V'.cell? ((⟨g,0,none⟩:Addr).add j)=some u:=fun j u hu=>by
 have:=h j u hu;rw[Addr.add_mid]at this ⊢;exact hg.cell this hne
theorem Yr {cs:List Value} {V V':World} {g:Nat} (h:∀j u,cs[j]? =some u→V.cell? ((⟨g,0,none⟩:Addr).add j)=some u) (hb:Below V.heap.size V V'):∀j u,cs[j]? =some u→V'.cell? ((⟨g,0,none⟩:Addr).add j)=some u:=fun j u hu=>zw hb (h j u hu)
theorem ZP {cs:List Value} {V V':World} {g:Nat} {row:Option Nat} (h:∀j u,cs[j]? =some u→V.cell? ((⟨g,0,none⟩:Addr).add j)=some u) (hg:V.grownBy V' row) (hne:some g≠row):∀j u,cs[j]? =some u→V'.cell? ((⟨g,0,none⟩:Addr).add j)=some u:=fun j u hu=>by
 have:=h j u hu;rw[Addr.add_mid]at this ⊢;exact hg.cell this hne
structure Rg (w V:World) (N gb:Nat) (b:List UInt8):Prop where
 bl:Below w.heap.size w V
 rd:∀j u,(Lib.byteCells b)[j]? =some u→V.cell? ((⟨gb,0,none⟩:Addr).add j)=some u
 lt:gb<N
 le:N≤V.heap.size
 lw:w.heap.size≤N
theorem Rg.bel {V V':World} {N gb:Nat} {b:List UInt8} (h:Rg w V N gb b) (hb:Below V.heap.size V V'):Rg w V' N gb b:=⟨zg h.bl hb,Yr h.rd hb,h.lt,qo h.le hb.size,h.lw⟩
theorem Rg.app {V V':World} {N gb:Nat} {b t:List UInt8} {v:Value} (h:Rg w V N gb b) (ho:Enc.Own N V v t) (hg:V.grownBy V' v.ownBlock):Rg w V' N gb b:=
 ⟨h.bl.grown hg h.bl.size (fun k hk=>qo h.lw (ho.lt k hk).1),U5 h.rd hg (fun e=>by have:=(ho.lt gb e.symm).1;have:=h.lt;omega),h.lt,qo h.le hg.size,h.lw⟩
theorem Rg.at {V:World} {N gb i:Nat} {b:List UInt8} {u:Value} (h:Rg w V N gb b) (hu:(Lib.byteCells b)[i]? =some u):V.cell? ⟨gb,i,none⟩=some u:=by
 have:=h.rd i u hu;rw[Addr.add_mid,Nat.zero_add]at this;exact this
theorem Vd (gb i cb n:Nat) (b:List UInt8) (hn:n=b.length) (hi:i<n) (hc:n≤cb):∃ad:Addr,(if cb=i+1 then some (⟨gb,0,none⟩:Addr)else some ⟨gb,i+1,none⟩)=some ad∧∀V:World,(∀j u,(Lib.byteCells b)[j]? =some u→V.cell? ((⟨gb,0,none⟩:Addr).add j)=some u)→∀j u,(Lib.byteCells (b.drop (i+1)))[j]? =some u→V.cell? (ad.add j)=some u:=by
 by_cases h:cb=i+1
 ·refine⟨⟨gb,0,none⟩,if_pos h,fun V hr j u hu=>?_⟩
  have:b.drop (i+1)=[]:=List.drop_eq_nil_of_le (by omega);rw[this]at hu
  cases hu
 ·exact⟨⟨gb,i+1,none⟩,if_neg h,fun V hr=>yO hr (i+1)⟩
theorem or_u8 (y:UInt8):((y|||128).toNat:Int)=bits BinOp.or IntKind.u8 (y.toNat:Int) 128:=by
 have h:∀k:Fin 256,((UInt8.ofNat k.val|||128).toNat:Int)=bits BinOp.or IntKind.u8 (k.val:Int) 128:=by decide+kernel
 have:=h ⟨y.toNat,y.toNat_lt⟩;simpa using this
theorem ZR {V V':World} {N:Nat} {t:List UInt8} {v:Value} (h:Enc.Own N V v t) (hb:Below V.heap.size V V'):Enc.Own N V' v t:=h.below hb
theorem Ux (v:Value) (w:World) (hBs:B≤w.heap.size) (ht:Txt B w v bs) (hl:bs.length≤1048576):Calls Tryd.prog 9 #[v] w (fun e w'=>TxR w w' (ZY bs) e):=by
 obtain⟨D,hD⟩:∃D:Sr,D=⟨yf bs,Zb bs⟩:=⟨_,rfl⟩;have hDb:Hid (∀s n,D.bel s n=yf bs s n):=fun s n=>by rw[hD]
 have hDo:Hid (∀s n,D.once s n=Zb bs s n):=fun s n=>by rw[hD]
 obtain⟨s0,hs0⟩:∃s0:DS,s0=⟨0,y9 bs.length bs⟩:=⟨_,rfl⟩;obtain⟨z,hz⟩:∃z,z=xp bs.length 5:=⟨_,rfl⟩;have hml:=XW (D:=D) s0 z;obtain⟨M,s9,hM⟩:∃M s9,YM D s0 z=(M,s9):=⟨_,_,rfl⟩;rw[hM]at hml;dsimp only at hml;obtain⟨b,hb⟩:∃b,b=Enc.answer M.dc.co:=⟨_,rfl⟩;have hbl:b.length≤1000000:=by rw[hb];exact Xy _
 obtain⟨RR,hRR⟩:∃r,r=XU bs D b s9:=⟨_,rfl⟩;have hmm:ZY bs=RR:=by unfold ZY;rw[←hD,←hs0,←hz,hM,hRR,hb]
 rw[hmm];obtain⟨p,c,hv,-,-,-⟩:=ht.rd;subst hv;obtain⟨nb,hnb⟩:∃n,n=bs.length:=⟨_,rfl⟩
 have CN:Hid (Calls Tryd.prog 12 #[.slice p nb c] w fun e w'=>∃g,e=.returned (.pointer (some ⟨g,0,none⟩))∧w.heap.size≤g∧DC B g w' bs s0∧Below w.heap.size w w'):=by
  rw[hs0,hnb];exact newD B _ bs w (by omega) ht hl
 have CA:Hid (∀g w',Cu B g w' w' bs D s0→Calls Tryd.prog 13 #[.pointer (some ⟨g,0,none⟩),.slice p nb c] w' (AnyP B g w' bs D (M,s9))):=fun g w' h=>by
  have:=Wd p nb c (by omega) h;rw[hnb,←hz,hM]at this;rw[hnb];exact this
 have HB:=Hm hb;have HRR:=Hm hRR;rw[←hnb];clear hs0 hz hM hmm ht hD hb hRR hnb;go_enter Tryd.func9,Tryd.ntmps9;go_wp2_with (go_at_call 12;refine CN.out.mono ?_);rintro e w2 ⟨g,rfl,hg,hd,hb⟩;have hz3:=hd.lt;have C2:=Hm (⟨hd,World.grownBy.refl _ _,by omega,hz3,hl,hDb.out,hDo.out⟩:Cu B g w2 w2 bs D s0);have B2:=Hm hb;clear hd hb CN;refine Hid.out ?_;refine Lib.hid ?_;go_wp2_with (go_at_call 13;refine(CA.out _ _ C2.out).mono ?_);rintro e w3 ⟨v1,v2,v3,rfl,o1,o2,o3,hc⟩;dsimp only at o1 o2 o3 hc ⊢;obtain⟨a1,c1,hv⟩:=o1.shape;subst hv;obtain⟨a2,c2,hv⟩:=o2.shape;subst hv;obtain⟨a3,c3,hv⟩:=o3.shape;subst hv;have hws:=B2.out.size
 have CE:=Hm (Enc.encodeG a1 a2 a3 c1 c2 c3 M.dc.co w3 (WU o1 o2 o3) (by rw[show Enc.lis M.dc.co.B1 M.dc.co.n1=M.L1 from Dec.lis_get _];exact o1.rd) (by rw[show Enc.lis M.dc.co.B2 M.dc.co.n2=M.L2 from Dec.lis_get _];exact o2.rd) (by rw[show Enc.lis M.dc.co.B3 M.dc.co.n3=M.L3 from Dec.lis_get _];exact o3.rd) hml.1 hml.2.1 hml.2.2);rw[←HB.out]at CE;have B3:=Hm (B2.out.grown hc.gb B2.out.size (fun k hk=>by injection hk with hk;omega));have C3:=Hm hc;clear o1 o2 o3 hc B2 CA C2;refine Hid.out ?_;refine Lib.hid ?_;go_wp2_with (go_at_call 21;refine CE.out.mono ?_);rintro e w4 ⟨v,rfl,hown,hb⟩;have B4:=Hm (zg B3.out hb);have C4:=Hm (C3.out.below hb);have hw3:=B3.out.size;have hw23:=C3.out.size;have O4:=Hm hown;clear hown hb B3 C3 CE;refine Hid.out ?_;refine Lib.hid ?_
 go_wp2_with (go_at_call 22;refine(zQ C4.out 12 (by omega) (by omega)).mono ?_);rintro e w5 ⟨k,s1,hx,hk,rfl,hc,hgb⟩;have B5:=Hm (B4.out.grown hgb B4.out.size (fun k hk=>by injection hk with hk;omega));have O5:Hid (Enc.Own w3.heap.size w5 v b):=Hm (xq O4.out (by decide) C4.out.d hgb);have C5:=Hm hc;have HK:=Hm hx;have hw5:=C5.out.size;clear hc hgb hx C4 O4 B4;obtain⟨ab,cb,hv⟩:=O5.out.shape;subst hv;obtain⟨n,hn⟩:∃n,n=b.length:=⟨_,rfl⟩;rw[←hn]at O5 ⊢;have HN:=Hm hn;have hnl:n≤1000000:=by omega
 clear hn;by_cases h6:6<k
 ·have HF:Hid (RR=b):=by unfold Hid;rw[HRR.out];simp only[XU,HK.out];rw[if_pos (Or.inl h6)]
  have t6:(6:Int)<(k:Int):=by omega
  clear HRR;go_wp2;go_ret;rw[HF.out];exact yA O5.out B5.out
 have t6:decide ((6:Int)<(k:Int))=false:=by simp;omega
 by_cases h0:n=0
 ·have HF:Hid (RR=b):=by unfold Hid;rw[HRR.out];simp only[XU,HK.out];rw[if_pos (Or.inr (by rw[←HN.out];exact h0))]
  subst h0;clear HRR;go_wp2;go_ret;rw[HF.out];exact yA O5.out B5.out
 have t7:((n:Int)==0)=false:=by simp;omega
 obtain⟨gb,cb',hvb,hgb,-⟩:=Enc.Own.form O5.out (by have:=HN.out;omega);injection hvb with hvb hnn hcc;clear hnn;subst hvb;subst hcc;go_wp2_with (go_at_call 22;refine(zQ C5.out n (by omega) (by omega)).mono ?_);rintro e w6 ⟨i,s2,hx,hi,rfl,hc,hgb2⟩;have B6:=Hm (B5.out.grown hgb2 B5.out.size (fun k hk=>by injection hk with hk;omega));have O6:Hid (Enc.Own w3.heap.size w6 (.slice (some ⟨gb,0,none⟩) n cb) b):=Hm (xq O5.out (by decide) C5.out.d hgb2);have C6:=Hm hc
 have HF:Hid (RR=Vv k i (UInt8.ofNat (ye bs s2).1) b):=by
  unfold Hid;rw[HRR.out];exact Tq HK.out h6 (by rw[←HN.out];exact h0) (by rw[←HN.out];exact hx)
 have hw6:=C6.out.size;clear hc hgb2 hx C5 O5 B5 HRR HK t6 t7;obtain⟨i0,hi0,hz0,hz1,hz2⟩:=info_parts Enc.infoB;obtain⟨_,_,hv9,-,hcl⟩:=Enc.Own.form O6.out (by have:=HN.out;omega);injection hv9 with hv9 hnn hcc;injection hv9 with hv9;injection hv9 with hv9;clear hnn hcc;subst hv9;have hgl:=(World.ownsRow.lt O6.out gb rfl).2;have OE:=Hm (Enc.own_empty w6 #[] rfl);have RB:=Hm (Yr hcl (zf (Below.refl _ _) (.cells #[] 5)));have hbl6:Hid ((Lib.byteCells b).length=n*1):=by unfold Hid;rw[Lib.byteCells_length,HN.out];omega
 clear hcl;go_wp2_with (at_builtin;refine wpList_append_own _ rfl _ _ 22 rfl w6.heap.size 5 i0 (.int .u8 0) 1 1 Tryd.underlying22 hi0 hz0 hz1 hz2 rfl (by decide) _ _ _ rfl OE.out ⟨gb,0,none⟩ n cb (Lib.byteCells b) rfl hbl6.out RB.out (Enc.byteCells_one b) (by simp only[qi];unfold maxLen;omega) (by simp only[qi];omega) (by simp) ?_);intro v7 w7 hown hgrow _;have O7:Hid (Enc.Own w6.heap.size w7 v7 b):=by unfold Hid Enc.Own;rw[←HN.out];simpa[Lib.byteCells]using hown
 have hw06:=B6.out.size;have BA:=zf (Below.refl w6.heap.size w6) (.cells #[] 5);have R6:Rg w (w6.alloc (.cells #[] 5)) w6.heap.size gb b:=⟨zg B6.out BA,RB.out,hgl,by simp,B6.out.size⟩;have R7:=Hm (R6.app OE.out hgrow);have C7:=Hm (Cu.app (T:=5) (C6.out.al (.cells #[] 5)) (Joins.ownsRow_le OE.out hw6) (by decide) hgrow);have hcb:n≤cb:=by have:=WG O6.out;have:=HN.out;omega
 obtain⟨go,co,hv7,hgo,-⟩:=Enc.Own.form O7.out (by have:=HN.out;omega);subst hv7;rw[←HN.out];have hco:n≤co:=by have:=WG O7.out;have:=HN.out;omega
 clear hown hgrow BA R6 OE RB O6 B6 C6 hbl6;have j0:(0:Int)≤(i:Int):=by omega
 have j1:(i:Int)<(n:Int):=by omega
 have j2:(i:Int)≤(co:Int):=by omega
 have j3:(i:Int)≤(cb:Int):=by omega
 have j4:i≤co:=by omega
 have j5:i≤cb:=by omega
 have j6:i≤n:=by omega
 have j7:¬cb=i:=by omega
 have hks:k=0∨k=1∨k=2∨k=3∨k=4∨k=5∨k=6:=by omega
 clear hk h6;rcases hks with rfl|rfl|rfl|rfl|rfl|rfl|rfl
 ·have HF:Hid (RR=b.take i):=by unfold Hid;rw[HF.out];rfl
  go_wp2;go_ret;rw[HF.out];have hle:(b.take i).length=i:=by rw[List.length_take,←HN.out];omega
  obtain⟨_,_,hv,hr,hc,hlt⟩:=xX O7.out;injection hv with hv _ hv2;subst hv;refine⟨_,co,by rw[hle];rfl,?_,by rw[hle];omega,hlt,R7.out.bl⟩;rcases hr with hr|⟨g',o',hg',hr⟩
  ·exact Or.inl (by rw[hr];simp)
  ·refine Or.inr ⟨g',o',hg',fun j hj=>?_⟩
   rw[List.getElem_take];exact hr j (by rw[List.length_take]at hj;omega)
 ·have HF:Hid (RR=b++[UInt8.ofNat (ye bs s2).1]):=by unfold Hid;rw[HF.out];rfl
  go_wp2_with (go_at_call 23;refine(Xg B g bs s2 w7 C7.out.lB C7.out.d hl).mono ?_);rintro e w8 ⟨rfl,hd8,hg8⟩;have O8:Hid (Enc.Own w6.heap.size w8 (.slice (some ⟨go,0,none⟩) b.length co) b):=xq O7.out (by decide) C7.out.d hg8;have B8:=Hm (R7.out.bl.grown hg8 R7.out.bl.size (fun k hk=>by injection hk with hk;omega));obtain⟨x,hx⟩:∃x,x=(ye bs s2).1:=⟨_,rfl⟩;rw[←hx]at HF ⊢;have hxx:Hid (((UInt8.ofNat x).toNat:Int)=(x:Int) % 256):=by unfold Hid;simp
  clear hx hd8 hg8 O7 R7 C7;have hs8:w6.heap.size≤w8.heap.size:=qo hgo (qq (World.ownsRow.lt O8.out go rfl).2);rw[←HN.out]at O8;have OA:=Hm (World.ownsRow.alloc (show w8.ownsRow w6.heap.size 5 1 (.slice (some ⟨go,0,none⟩) n co) n (Lib.byteCells b) by have:=O8.out;unfold Enc.Own at this;rw[←HN.out]at this;exact this) (.cells #[.int .u8 ((x:Int) % 256)] 5));go_wp2_with (at_builtin;refine wpList_append_own _ rfl _ _ 22 rfl w6.heap.size 5 i0 (.int .u8 0) 1 1 Tryd.underlying22 hi0 hz0 hz1 hz2 rfl (by decide) _ _ _ rfl OA.out ⟨w8.heap.size,0,none⟩ 1 1 [Value.int .u8 ((x:Int) % 256)] rfl rfl (by intro j u' hj;match j,hj with|0,hj=>simp at hj;subst hj;simp[Addr.add]) (by intro u' hu';simp at hu';subst hu';rfl) (by unfold maxLen;omega) (by omega) (by simp;omega) ?_);intro v9 w9 hown hgrow _
  have O9:=Enc.own_snoc' HN.out hxx.out hown;have B9:Below w.heap.size w w9:=(zf B8.out _).grown hgrow (by have:=B8.out.size;simp;omega) (fun k hk=>by injection hk with hk;have h9:go=k:=hk;omega);go_wp2;go_ret;rw[HF.out];exact yA O9 B9
 ·have HF:Hid (RR=b.set i (UInt8.ofNat (ye bs s2).1)):=by unfold Hid;rw[HF.out];rfl
  go_wp2_with (go_at_call 23;refine(Xg B g bs s2 w7 C7.out.lB C7.out.d hl).mono ?_);rintro e w8 ⟨rfl,hd8,hg8⟩;have O8:Hid (Enc.Own w6.heap.size w8 (.slice (some ⟨go,0,none⟩) b.length co) b):=xq O7.out (by decide) C7.out.d hg8;have B8:=Hm (R7.out.bl.grown hg8 R7.out.bl.size (fun k hk=>by injection hk with hk;omega));obtain⟨x,hx⟩:∃x,x=(ye bs s2).1:=⟨_,rfl⟩;rw[←hx]at HF ⊢;have hxx:Hid (((UInt8.ofNat x).toNat:Int)=(x:Int) % 256):=by unfold Hid;simp
  clear hx hd8 hg8 O7 R7 C7;have hs8:w6.heap.size≤w8.heap.size:=qo hgo (qq (World.ownsRow.lt O8.out go rfl).2);have hilt:i<(Lib.byteCells b).length:=by rw[Lib.byteCells_length,←HN.out];exact hi
  have cc:w8.cell? ⟨go,i,none⟩=some (Lib.byteCells b)[i]:=by rw[World.ownsRow.cellAt O8.out i (by rw[←HN.out];omega)];exact List.getElem?_eq_getElem hilt
  have ff:=World.ownsRow.frozenAt O8.out i;obtain⟨OS,GS⟩:=WD (i:=i) O8.out hxx.out;have OS:=Hm OS;have BS:Hid (Below w.heap.size w (w8.setCell ⟨go,i,none⟩ (.int .u8 ((x:Int) % 256)))):=Hm (B8.out.grown GS B8.out.size (fun k hk=>by injection hk with hk;omega));clear GS O8 B8;go_wp2;go_ret;rw[HF.out];rw[←HN.out]at OS;exact yA OS.out BS.out
 ·have HF:Hid (RR=b.set i (b.getD i 0+2)):=by unfold Hid;rw[HF.out];rfl
  have hilt:i<b.length:=by rw[←HN.out];exact hi
  obtain⟨y,hy⟩:∃y,y=b.getD i 0:=⟨_,rfl⟩;have hyb:(Lib.byteCells b)[i]? =some (.int .u8 (y.toNat:Int)):=by rw[hy];simp[Lib.byteCells,hilt]
  have cc:w7.cell? ⟨go,i,none⟩=some (.int .u8 (y.toNat:Int)):=by rw[World.ownsRow.cellAt O7.out i (by rw[←HN.out];omega)];exact hyb
  have ff:=World.ownsRow.frozenAt O7.out i;have hyy:Hid ((((y+2:UInt8)).toNat:Int)=((y.toNat:Int)+2) % 256):=by unfold Hid;rw[UInt8.toNat_add];simp
  rw[←hy]at HF;obtain⟨OS,GS⟩:=WD (i:=i) O7.out hyy.out;have OS:=Hm OS;have BS:Hid (Below w.heap.size w (w7.setCell ⟨go,i,none⟩ (.int .u8 (((y.toNat:Int)+2) % 256)))):=Hm (R7.out.bl.grown GS R7.out.bl.size (fun k hk=>by injection hk with hk;have:=R7.out.lw;omega));clear GS O7 R7 hyb hy;go_wp2;go_ret;rw[HF.out];rw[←HN.out]at OS;exact yA OS.out BS.out
 ·have HF:Hid (RR=(b.take i++[b.getD i 0|||128,0])++b.drop (i+1)):=by unfold Hid;rw[HF.out];rfl
  obtain⟨y,hy⟩:∃y,y=b.getD i 0:=⟨_,rfl⟩;have HY:Hid ((Lib.byteCells b)[i]? =some (.int .u8 (y.toNat:Int))):=by unfold Hid;rw[hy];simp[Lib.byteCells,show i<b.length by rw[←HN.out];exact hi]
  rw[←hy]at HF;obtain⟨yo,hyo⟩:∃yo,Hid (yo=bits BinOp.or IntKind.u8 (y.toNat:Int) 128):=⟨_,rfl⟩;have HYO:Hid (((y|||128).toNat:Int)=yo):=by unfold Hid;rw[hyo.out];exact or_u8 y
  clear hy;obtain⟨q,hq⟩:∃q,q=i+1:=⟨_,rfl⟩;obtain⟨ad,hsl,hda⟩:=Vd gb i cb n b HN.out (by omega) hcb;rw[←hq]at hsl hda HF;have HDA:=Hm hda;have j8:q≤n:=by omega
  have j9:q≤cb:=by omega
  have j10:(q:Int)≤(n:Int):=by omega
  have uw:IntKind.i64.wrap ((i:Int)+1)=(q:Int):=by rw[IntKind.wrap_i64];omega
  clear hda j7 hq;go_upto_region 19 with fail;obtain⟨N,hN⟩:∃N,N=w7.heap.size:=⟨_,rfl⟩;have RS:Hid (Rg w w7.drew N gb b):=⟨R7.out.bl.drew,R7.out.rd,qp R7.out.lt (by rw[hN];exact R7.out.le),Nat.le_of_eq hN,qo R7.out.lw (by rw[hN];exact R7.out.le)⟩;have LITC:Lib.byteCells [y|||128,0]=[.int .u8 yo,.int .u8 0]:=by show[Value.int .u8 ((y|||128).toNat:Int),Value.int .u8 ((0:UInt8).toNat:Int)]=_;rw[HYO.out];rfl
  refine wp_region_held_drew (S:=(fun w'=>w'.cell? ⟨gb,i,none⟩=some (.int .u8 (y.toNat:Int)))) (by kernel_rfl) ?_ (fun hHeld=>?_)
  ·exact RS.out.at HY.out
  obtain⟨V0,hV⟩:∃V,V=w7.drew:=⟨_,rfl⟩;have RS:Hid (Rg w V0 N gb b):=by rw[hV];exact RS.out
  rw[←hV];clear hHeld;have hHeld:(fun w'=>w'.cell? ⟨gb,i,none⟩=some (.int .u8 (y.toNat:Int))) V0:=RS.out.at HY.out;clear hV O7 R7 C7 hN;refine tK 1 ?_ rfl (by kernel_rfl) (fun _ _ _ h=>h) (by rfl) ?_ (by assumption) ?_;rotate_left
  ·intro w hSw;(try dsimp only at hSw);go_simp;(try with_reducible rfl)
  rotate_left;simp only[Act.put,qa,qb,qc,qf,qe,qd];refine tK 2 ?_ rfl (by kernel_rfl) (fun _ _ _ h=>h) (by rfl) ?_ (by assumption) ?_;rotate_left
  ·intro w hSw;(try dsimp only at hSw);go_simp;(try with_reducible rfl)
  rotate_left;simp only[Act.put,qa,qb,qc,qf,qe,qd];refine tK 3 ?_ rfl (by kernel_rfl) (fun _ _ _ h=>h) (by rfl) ?_ (by assumption) ?_;rotate_left
  ·intro w hSw;(try dsimp only at hSw);go_simp;(try with_reducible rfl)
  rotate_left;simp only[Act.put,qa,qb,qc,qf,qe,qd];refine tK 5 ?_ rfl (by kernel_rfl) (fun _ _ _ h=>h) (by rfl) ?_ (by assumption) ?_;rotate_left
  ·intro w hSw;(try dsimp only at hSw);go_simp;(try with_reducible rfl)
  rotate_left;simp only[Act.put,qa,qb,qc,qf,qe,qd];refine tK 6 ?_ rfl (by kernel_rfl) (fun _ _ _ h=>h) (by rfl) ?_ (by assumption) ?_;rotate_left
  ·intro w hSw;(try dsimp only at hSw);go_simp;(try with_reducible rfl)
  rotate_left;simp only[Act.put,qa,qb,qc,qf,qe,qd];refine tK 7 ?_ rfl (by kernel_rfl) (fun _ _ _ h=>h) (by rfl) ?_ (by assumption) ?_;rotate_left
  ·intro w hSw;(try dsimp only at hSw);go_simp;(try with_reducible rfl)
  rotate_left;simp only[Act.put,qa,qb,qc,qf,qe,qd];refine tK 8 ?_ rfl (by kernel_rfl) (fun _ _ _ h=>h) (by rfl) ?_ (by assumption) ?_;rotate_left
  ·intro w hSw;(try dsimp only at hSw);go_simp;(try with_reducible rfl)
  rotate_left;simp only[Act.put,qa,qb,qc,qf,qe,qd];refine tK 9 ?_ rfl (by kernel_rfl) (fun _ _ _ h=>h) (by rfl) ?_ (by assumption) ?_;rotate_left
  ·intro w hSw;(try dsimp only at hSw);go_simp;(try with_reducible rfl)
  rotate_left;simp only[Act.put,qa,qb,qc,qf,qe,qd];refine tK 12 ?_ rfl (by kernel_rfl) (fun _ _ _ h=>h) (by rfl) ?_ (by assumption) ?_;rotate_left
  ·intro w hSw;(try dsimp only at hSw);go_simp;(try with_reducible rfl)
  rotate_left;simp only[Act.put,qa,qb,qc,qf,qe,qd];refine tK 13 ?_ rfl (by kernel_rfl) (fun _ _ _ h=>h) (by rfl) ?_ (by assumption) ?_;rotate_left
  ·intro w hSw;(try dsimp only at hSw);go_simp;(try with_reducible rfl)
  rotate_left;simp only[Act.put,qa,qb,qc,qf,qe,qd];refine tK 14 ?_ rfl (by kernel_rfl) (fun _ _ _ h=>h) (by rfl) ?_ (by assumption) ?_;rotate_left
  ·intro w hSw;(try dsimp only at hSw);go_simp;(try with_reducible rfl)
  rotate_left;simp only[Act.put,qa,qb,qc,qf,qe,qd];refine tK 15 ?_ rfl (by kernel_rfl) (fun _ _ _ h=>h) (by rfl) ?_ (by assumption) ?_;rotate_left
  ·intro w hSw;(try dsimp only at hSw);go_simp;(try with_reducible rfl)
  rotate_left;simp only[Act.put,qa,qb,qc,qf,qe,qd];rw[←hyo.out];refine wpAnyH_ready (rs:=[0,10]) (by kernel_rfl) (by simp) ?_;refine AllReadyH.cons rfl (fun K hK=>?_) ?_
  ·go_simp
   obtain⟨V1,ge,hVa,hge,oe,be,-⟩:=xJ V0;rw[←hVa,←hge];have OW:Hid (Enc.Own N V1 (.slice (some ⟨ge,0,none⟩) 0 0) []):=Joins.ownsRow_le oe RS.out.le;have RS:=Hm (RS.out.bel be);clear oe be hVa hge;refine hK.out _ _ ?_ (fun hHeld=>?_)
   ·exact RS.out.at HY.out
   clear hK K
   (try simp only[Act.put,qa,qb,qc,qf,qe,qd])
   refine wpAnyH_ready (rs:=[4,10]) (by kernel_rfl) (by simp) ?_;refine AllReadyH.cons rfl (fun K hK=>?_) ?_
   ·refine zm rfl (.tmp 66) (.tmp 69) 22 rfl N 5 i0 (.int .u8 0) 1 1 Tryd.underlying22 hi0 hz0 hz1 hz2 rfl (by decide) (.slice (some ⟨ge,0,none⟩) 0 0) 0 (Lib.byteCells []) (by simp[Act.eval,Act.put]) (by have h9:=OW.out;unfold Enc.Own at h9;rw[←show 0=List.length (α:=UInt8) []from rfl]at h9;exact h9) ⟨gb,0,none⟩ i cb (Lib.byteCells (b.take i)) (by simp[Act.eval,Act.put]) (by rw[Lib.byteCells_length,List.length_take,←HN.out];omega) (yx RS.out.rd i) (Enc.byteCells_one _) (by unfold maxLen;omega) (by omega) RS.out.le ?_
    intro v1 V2 hown hgrow hblk;have OW2:Hid (Enc.Own N V2 v1 ([]++(b.take i))):=Enc.own_app' (m:=0) (n:=i) (bs:=[]) (cs:=(b.take i)) rfl (by rw[List.length_take,←HN.out];omega) hown;have RS:=Hm (RS.out.app OW.out hgrow);rw[List.nil_append]at OW2;have OW:=OW2;clear hown hgrow hblk OW2;refine hK.out _ _ ?_ (fun hHeld=>?_)
    ·exact RS.out.at HY.out
    clear hK K
    (try simp only[Act.put,qa,qb,qc,qf,qe,qd])
    refine wpAnyH_ready (rs:=[10]) (by kernel_rfl) (by simp) ?_;refine AllReadyH.cons rfl (fun K hK=>?_) ?_
    ·go_simp
     obtain⟨V3,gl,hVa,hgl2,hl2,be,le2⟩:=xN V2 [.int .u8 yo,.int .u8 0];rw[show V2.alloc (.cells #[.int .u8 yo,.int .u8 0] 5)=V3 from hVa.symm,←hgl2];have RS:=Hm (RS.out.bel be);have HL:=Hm hl2;have hap:(v1:Value).ownBlock≠some gl:=fun e=>by have:=(World.ownsRow.lt OW.out _ e).2;omega
     have OW:=Hm (ZR OW.out be);clear hl2 be hVa hgl2;refine hK.out _ _ ?_ (fun hHeld=>?_)
     ·exact RS.out.at HY.out
     clear hK K
     (try simp only[Act.put,qa,qb,qc,qf,qe,qd])
     refine wpAnyH_ready (rs:=[11]) (by kernel_rfl) (by simp) ?_;refine AllReadyH.cons rfl (fun K hK=>?_) ?_
     ·refine zm rfl (.tmp 70) (.tmp 76) 22 rfl N 5 i0 (.int .u8 0) 1 1 Tryd.underlying22 hi0 hz0 hz1 hz2 rfl (by decide) v1 i (Lib.byteCells (b.take i)) (by simp[Act.eval,Act.put]) (by have h9:=OW.out;unfold Enc.Own at h9;rw[←show i=List.length (α:=UInt8) (b.take i)from(by rw[List.length_take,←HN.out];omega)]at h9;exact h9) ⟨gl,0,none⟩ 2 2 [.int .u8 yo,.int .u8 0] (by simp[Act.eval,Act.put]) rfl HL.out (by intro u hu;simp only[List.mem_cons,List.not_mem_nil,or_false]at hu;rcases hu with rfl|rfl<;>rfl) (by unfold maxLen;omega) (by omega) RS.out.le ?_
      intro v2 V4 hown hgrow hblk;have OW2:Hid (Enc.Own N V4 v2 ((b.take i)++[y|||128,0])):=Enc.own_app' (m:=i) (n:=2) (bs:=(b.take i)) (cs:=[y|||128,0]) (by rw[List.length_take,←HN.out];omega) rfl (by rw[show Lib.byteCells [y|||128,0]=[.int .u8 yo,.int .u8 0]from LITC];exact hown);have RS:=Hm (RS.out.app OW.out hgrow);have OW:=OW2;clear hown hgrow hblk OW2;refine hK.out _ _ ?_ (fun hHeld=>?_)
      ·exact RS.out.at HY.out
      clear hK K
      (try simp only[Act.put,qa,qb,qc,qf,qe,qd])
      refine wpAnyH_ready (rs:=[16]) (by kernel_rfl) (by simp) ?_;refine AllReadyH.cons rfl (fun K hK=>?_) ?_
      ·refine zm rfl (.tmp 77) (.tmp 81) 22 rfl N 5 i0 (.int .u8 0) 1 1 Tryd.underlying22 hi0 hz0 hz1 hz2 rfl (by decide) v2 (i+2) (Lib.byteCells (b.take i++[y|||128,0])) (by simp[Act.eval,Act.put]) (by have h9:=OW.out;unfold Enc.Own at h9;rw[←show(i+2)=List.length (α:=UInt8) (b.take i++[y|||128,0])from(by simp only[qg,List.length_take,qh,qi,←HN.out];omega)]at h9;exact h9) ad (n-q) (cb-q) (Lib.byteCells (b.drop q)) (by simp[Act.eval,Act.put]) (by rw[Lib.byteCells_length,List.length_drop,←HN.out];omega) (HDA.out _ RS.out.rd) (Enc.byteCells_one _) (by unfold maxLen;omega) (by omega) RS.out.le ?_
       intro v3 V5 hown hgrow hblk;have OW2:Hid (Enc.Own N V5 v3 ((b.take i++[y|||128,0])++(b.drop q))):=Enc.own_app' (m:=(i+2)) (n:=(n-q)) (bs:=(b.take i++[y|||128,0])) (cs:=(b.drop q)) (by simp only[qg,List.length_take,qh,qi,←HN.out];omega) (by rw[List.length_drop,←HN.out]) hown;have RS:=Hm (RS.out.app OW.out hgrow);have OW:=OW2;clear hown hgrow hblk OW2;refine hK.out _ _ ?_ (fun hHeld=>?_)
       ·exact RS.out.at HY.out
       clear hK K
       (try simp only[Act.put,qa,qb,qc,qf,qe,qd])
       refine wpAnyH_ready (rs:=[17]) (by kernel_rfl) (by simp) ?_;refine AllReadyH.cons rfl (fun K hK=>?_) ?_
       ·go_simp
        refine hK.out _ _ ?_ (fun hHeld=>?_)
        ·exact RS.out.at HY.out
        clear hK K
        (try simp only[Act.put,qa,qb,qc,qf,qe,qd])
        refine wpAnyH_done (by kernel_rfl) ?_ _;go_wp2;go_ret;rw[HF.out];exact yA OW.out RS.out.bl
       exact AllReadyH.nil
      exact AllReadyH.nil
     exact AllReadyH.nil
    exact AllReadyH.nil
   refine AllReadyH.cons rfl (fun K hK=>?_) ?_
   ·go_simp
    obtain⟨V2,gl,hVa,hgl2,hl2,be,le2⟩:=xN V1 [.int .u8 yo,.int .u8 0];rw[show V1.alloc (.cells #[.int .u8 yo,.int .u8 0] 5)=V2 from hVa.symm,←hgl2];have RS:=Hm (RS.out.bel be);have HL:=Hm hl2;have hap:((.slice (some ⟨ge,0,none⟩) 0 0):Value).ownBlock≠some gl:=fun e=>by have:=(World.ownsRow.lt OW.out _ e).2;omega
    have OW:=Hm (ZR OW.out be);clear hl2 be hVa hgl2;refine hK.out _ _ ?_ (fun hHeld=>?_)
    ·exact RS.out.at HY.out
    clear hK K
    (try simp only[Act.put,qa,qb,qc,qf,qe,qd])
    refine wpAnyH_ready (rs:=[4]) (by kernel_rfl) (by simp) ?_;refine AllReadyH.cons rfl (fun K hK=>?_) ?_
    ·refine zm rfl (.tmp 66) (.tmp 69) 22 rfl N 5 i0 (.int .u8 0) 1 1 Tryd.underlying22 hi0 hz0 hz1 hz2 rfl (by decide) (.slice (some ⟨ge,0,none⟩) 0 0) 0 (Lib.byteCells []) (by simp[Act.eval,Act.put]) (by have h9:=OW.out;unfold Enc.Own at h9;rw[←show 0=List.length (α:=UInt8) []from rfl]at h9;exact h9) ⟨gb,0,none⟩ i cb (Lib.byteCells (b.take i)) (by simp[Act.eval,Act.put]) (by rw[Lib.byteCells_length,List.length_take,←HN.out];omega) (yx RS.out.rd i) (Enc.byteCells_one _) (by unfold maxLen;omega) (by omega) RS.out.le ?_
     intro v1 V3 hown hgrow hblk;have OW2:Hid (Enc.Own N V3 v1 ([]++(b.take i))):=Enc.own_app' (m:=0) (n:=i) (bs:=[]) (cs:=(b.take i)) rfl (by rw[List.length_take,←HN.out];omega) hown;have RS:=Hm (RS.out.app OW.out hgrow);rw[List.nil_append]at OW2;have HL:=Hm (ZP HL.out hgrow (fun e=>hap e.symm));have hap:v1.ownBlock≠some gl:=fun e=>hblk.elim (fun h9=>hap (h9.symm.trans e)) (fun h9=>by have h8:=h9.symm.trans e;injection h8 with h8;omega)
     have OW:=OW2;clear hown hgrow hblk OW2;refine hK.out _ _ ?_ (fun hHeld=>?_)
     ·exact RS.out.at HY.out
     clear hK K
     (try simp only[Act.put,qa,qb,qc,qf,qe,qd])
     refine wpAnyH_ready (rs:=[11]) (by kernel_rfl) (by simp) ?_;refine AllReadyH.cons rfl (fun K hK=>?_) ?_
     ·refine zm rfl (.tmp 70) (.tmp 76) 22 rfl N 5 i0 (.int .u8 0) 1 1 Tryd.underlying22 hi0 hz0 hz1 hz2 rfl (by decide) v1 i (Lib.byteCells (b.take i)) (by simp[Act.eval,Act.put]) (by have h9:=OW.out;unfold Enc.Own at h9;rw[←show i=List.length (α:=UInt8) (b.take i)from(by rw[List.length_take,←HN.out];omega)]at h9;exact h9) ⟨gl,0,none⟩ 2 2 [.int .u8 yo,.int .u8 0] (by simp[Act.eval,Act.put]) rfl HL.out (by intro u hu;simp only[List.mem_cons,List.not_mem_nil,or_false]at hu;rcases hu with rfl|rfl<;>rfl) (by unfold maxLen;omega) (by omega) RS.out.le ?_
      intro v2 V4 hown hgrow hblk;have OW2:Hid (Enc.Own N V4 v2 ((b.take i)++[y|||128,0])):=Enc.own_app' (m:=i) (n:=2) (bs:=(b.take i)) (cs:=[y|||128,0]) (by rw[List.length_take,←HN.out];omega) rfl (by rw[show Lib.byteCells [y|||128,0]=[.int .u8 yo,.int .u8 0]from LITC];exact hown);have RS:=Hm (RS.out.app OW.out hgrow);have OW:=OW2;clear hown hgrow hblk OW2;refine hK.out _ _ ?_ (fun hHeld=>?_)
      ·exact RS.out.at HY.out
      clear hK K
      (try simp only[Act.put,qa,qb,qc,qf,qe,qd])
      refine wpAnyH_ready (rs:=[16]) (by kernel_rfl) (by simp) ?_;refine AllReadyH.cons rfl (fun K hK=>?_) ?_
      ·refine zm rfl (.tmp 77) (.tmp 81) 22 rfl N 5 i0 (.int .u8 0) 1 1 Tryd.underlying22 hi0 hz0 hz1 hz2 rfl (by decide) v2 (i+2) (Lib.byteCells (b.take i++[y|||128,0])) (by simp[Act.eval,Act.put]) (by have h9:=OW.out;unfold Enc.Own at h9;rw[←show(i+2)=List.length (α:=UInt8) (b.take i++[y|||128,0])from(by simp only[qg,List.length_take,qh,qi,←HN.out];omega)]at h9;exact h9) ad (n-q) (cb-q) (Lib.byteCells (b.drop q)) (by simp[Act.eval,Act.put]) (by rw[Lib.byteCells_length,List.length_drop,←HN.out];omega) (HDA.out _ RS.out.rd) (Enc.byteCells_one _) (by unfold maxLen;omega) (by omega) RS.out.le ?_
       intro v3 V5 hown hgrow hblk;have OW2:Hid (Enc.Own N V5 v3 ((b.take i++[y|||128,0])++(b.drop q))):=Enc.own_app' (m:=(i+2)) (n:=(n-q)) (bs:=(b.take i++[y|||128,0])) (cs:=(b.drop q)) (by simp only[qg,List.length_take,qh,qi,←HN.out];omega) (by rw[List.length_drop,←HN.out]) hown;have RS:=Hm (RS.out.app OW.out hgrow);have OW:=OW2;clear hown hgrow hblk OW2;refine hK.out _ _ ?_ (fun hHeld=>?_)
       ·exact RS.out.at HY.out
       clear hK K
       (try simp only[Act.put,qa,qb,qc,qf,qe,qd])
       refine wpAnyH_ready (rs:=[17]) (by kernel_rfl) (by simp) ?_;refine AllReadyH.cons rfl (fun K hK=>?_) ?_
       ·go_simp
        refine hK.out _ _ ?_ (fun hHeld=>?_)
        ·exact RS.out.at HY.out
        clear hK K
        (try simp only[Act.put,qa,qb,qc,qf,qe,qd])
        refine wpAnyH_done (by kernel_rfl) ?_ _;go_wp2;go_ret;rw[HF.out];exact yA OW.out RS.out.bl
       exact AllReadyH.nil
      exact AllReadyH.nil
     exact AllReadyH.nil
    exact AllReadyH.nil
   exact AllReadyH.nil
  refine AllReadyH.cons rfl (fun K hK=>?_) ?_
  ·go_simp
   obtain⟨V1,gl,hVa,hgl2,hl2,be,le2⟩:=xN V0 [.int .u8 yo,.int .u8 0];rw[show V0.alloc (.cells #[.int .u8 yo,.int .u8 0] 5)=V1 from hVa.symm,←hgl2];have RS:=Hm (RS.out.bel be);have HL:=Hm hl2;clear hl2 be hVa hgl2;refine hK.out _ _ ?_ (fun hHeld=>?_)
   ·exact RS.out.at HY.out
   clear hK K
   (try simp only[Act.put,qa,qb,qc,qf,qe,qd])
   refine wpAnyH_ready (rs:=[0]) (by kernel_rfl) (by simp) ?_;refine AllReadyH.cons rfl (fun K hK=>?_) ?_
   ·go_simp
    obtain⟨V2,ge,hVa,hge,oe,be,-⟩:=xJ V1;rw[←hVa,←hge];have OW:Hid (Enc.Own N V2 (.slice (some ⟨ge,0,none⟩) 0 0) []):=Joins.ownsRow_le oe RS.out.le;have RS:=Hm (RS.out.bel be);have HL:=Hm (Yr HL.out be);have hap:(Value.slice (some ⟨ge,0,none⟩) 0 0).ownBlock≠some gl:=fun e=>by simp only[Value.ownBlock,Option.some.injEq]at e;omega
    have le2:=qp le2 be.size;clear oe be hVa hge;refine hK.out _ _ ?_ (fun hHeld=>?_)
    ·exact RS.out.at HY.out
    clear hK K
    (try simp only[Act.put,qa,qb,qc,qf,qe,qd])
    refine wpAnyH_ready (rs:=[4]) (by kernel_rfl) (by simp) ?_;refine AllReadyH.cons rfl (fun K hK=>?_) ?_
    ·refine zm rfl (.tmp 66) (.tmp 69) 22 rfl N 5 i0 (.int .u8 0) 1 1 Tryd.underlying22 hi0 hz0 hz1 hz2 rfl (by decide) (.slice (some ⟨ge,0,none⟩) 0 0) 0 (Lib.byteCells []) (by simp[Act.eval,Act.put]) (by have h9:=OW.out;unfold Enc.Own at h9;rw[←show 0=List.length (α:=UInt8) []from rfl]at h9;exact h9) ⟨gb,0,none⟩ i cb (Lib.byteCells (b.take i)) (by simp[Act.eval,Act.put]) (by rw[Lib.byteCells_length,List.length_take,←HN.out];omega) (yx RS.out.rd i) (Enc.byteCells_one _) (by unfold maxLen;omega) (by omega) RS.out.le ?_
     intro v1 V3 hown hgrow hblk;have OW2:Hid (Enc.Own N V3 v1 ([]++(b.take i))):=Enc.own_app' (m:=0) (n:=i) (bs:=[]) (cs:=(b.take i)) rfl (by rw[List.length_take,←HN.out];omega) hown;have RS:=Hm (RS.out.app OW.out hgrow);rw[List.nil_append]at OW2;have HL:=Hm (ZP HL.out hgrow (fun e=>hap e.symm));have hap:v1.ownBlock≠some gl:=fun e=>hblk.elim (fun h9=>hap (h9.symm.trans e)) (fun h9=>by have h8:=h9.symm.trans e;injection h8 with h8;omega)
     have OW:=OW2;clear hown hgrow hblk OW2;refine hK.out _ _ ?_ (fun hHeld=>?_)
     ·exact RS.out.at HY.out
     clear hK K
     (try simp only[Act.put,qa,qb,qc,qf,qe,qd])
     refine wpAnyH_ready (rs:=[11]) (by kernel_rfl) (by simp) ?_;refine AllReadyH.cons rfl (fun K hK=>?_) ?_
     ·refine zm rfl (.tmp 70) (.tmp 76) 22 rfl N 5 i0 (.int .u8 0) 1 1 Tryd.underlying22 hi0 hz0 hz1 hz2 rfl (by decide) v1 i (Lib.byteCells (b.take i)) (by simp[Act.eval,Act.put]) (by have h9:=OW.out;unfold Enc.Own at h9;rw[←show i=List.length (α:=UInt8) (b.take i)from(by rw[List.length_take,←HN.out];omega)]at h9;exact h9) ⟨gl,0,none⟩ 2 2 [.int .u8 yo,.int .u8 0] (by simp[Act.eval,Act.put]) rfl HL.out (by intro u hu;simp only[List.mem_cons,List.not_mem_nil,or_false]at hu;rcases hu with rfl|rfl<;>rfl) (by unfold maxLen;omega) (by omega) RS.out.le ?_
      intro v2 V4 hown hgrow hblk;have OW2:Hid (Enc.Own N V4 v2 ((b.take i)++[y|||128,0])):=Enc.own_app' (m:=i) (n:=2) (bs:=(b.take i)) (cs:=[y|||128,0]) (by rw[List.length_take,←HN.out];omega) rfl (by rw[show Lib.byteCells [y|||128,0]=[.int .u8 yo,.int .u8 0]from LITC];exact hown);have RS:=Hm (RS.out.app OW.out hgrow);have OW:=OW2;clear hown hgrow hblk OW2;refine hK.out _ _ ?_ (fun hHeld=>?_)
      ·exact RS.out.at HY.out
      clear hK K
      (try simp only[Act.put,qa,qb,qc,qf,qe,qd])
      refine wpAnyH_ready (rs:=[16]) (by kernel_rfl) (by simp) ?_;refine AllReadyH.cons rfl (fun K hK=>?_) ?_
      ·refine zm rfl (.tmp 77) (.tmp 81) 22 rfl N 5 i0 (.int .u8 0) 1 1 Tryd.underlying22 hi0 hz0 hz1 hz2 rfl (by decide) v2 (i+2) (Lib.byteCells (b.take i++[y|||128,0])) (by simp[Act.eval,Act.put]) (by have h9:=OW.out;unfold Enc.Own at h9;rw[←show(i+2)=List.length (α:=UInt8) (b.take i++[y|||128,0])from(by simp only[qg,List.length_take,qh,qi,←HN.out];omega)]at h9;exact h9) ad (n-q) (cb-q) (Lib.byteCells (b.drop q)) (by simp[Act.eval,Act.put]) (by rw[Lib.byteCells_length,List.length_drop,←HN.out];omega) (HDA.out _ RS.out.rd) (Enc.byteCells_one _) (by unfold maxLen;omega) (by omega) RS.out.le ?_
       intro v3 V5 hown hgrow hblk;have OW2:Hid (Enc.Own N V5 v3 ((b.take i++[y|||128,0])++(b.drop q))):=Enc.own_app' (m:=(i+2)) (n:=(n-q)) (bs:=(b.take i++[y|||128,0])) (cs:=(b.drop q)) (by simp only[qg,List.length_take,qh,qi,←HN.out];omega) (by rw[List.length_drop,←HN.out]) hown;have RS:=Hm (RS.out.app OW.out hgrow);have OW:=OW2;clear hown hgrow hblk OW2;refine hK.out _ _ ?_ (fun hHeld=>?_)
       ·exact RS.out.at HY.out
       clear hK K
       (try simp only[Act.put,qa,qb,qc,qf,qe,qd])
       refine wpAnyH_ready (rs:=[17]) (by kernel_rfl) (by simp) ?_;refine AllReadyH.cons rfl (fun K hK=>?_) ?_
       ·go_simp
        refine hK.out _ _ ?_ (fun hHeld=>?_)
        ·exact RS.out.at HY.out
        clear hK K
        (try simp only[Act.put,qa,qb,qc,qf,qe,qd])
        refine wpAnyH_done (by kernel_rfl) ?_ _;go_wp2;go_ret;rw[HF.out];exact yA OW.out RS.out.bl
       exact AllReadyH.nil
      exact AllReadyH.nil
     exact AllReadyH.nil
    exact AllReadyH.nil
   exact AllReadyH.nil
  exact AllReadyH.nil
 ·have HF:Hid (RR=(b.take i++[128,128,128,128,1])++b.drop i):=by unfold Hid;rw[HF.out];rfl
  go_upto_region 21 with fail;obtain⟨N,hN⟩:∃N,N=w7.heap.size:=⟨_,rfl⟩;have RS:Hid (Rg w w7.drew N gb b):=⟨R7.out.bl.drew,R7.out.rd,qp R7.out.lt (by rw[hN];exact R7.out.le),Nat.le_of_eq hN,qo R7.out.lw (by rw[hN];exact R7.out.le)⟩;have LITC:Lib.byteCells [128,128,128,128,1]=[.int .u8 128,.int .u8 128,.int .u8 128,.int .u8 128,.int .u8 1]:=by simp[Lib.byteCells]
  refine wp_region_held_drew (S:=(fun _=>True)) (by kernel_rfl) ?_ (fun hHeld=>?_)
  ·trivial
  obtain⟨V0,hV⟩:∃V,V=w7.drew:=⟨_,rfl⟩;have RS:Hid (Rg w V0 N gb b):=by rw[hV];exact RS.out
  rw[←hV];clear hHeld;have hHeld:(fun _=>True) V0:=trivial;clear hV O7 R7 C7 hN;refine tK 1 ?_ rfl (by kernel_rfl) (fun _ _ _ h=>h) (by rfl) ?_ (by assumption) ?_;rotate_left
  ·intro w hSw;(try dsimp only at hSw);go_simp;(try with_reducible rfl)
  rotate_left;simp only[Act.put,qa,qb,qc,qf,qe,qd];refine tK 2 ?_ rfl (by kernel_rfl) (fun _ _ _ h=>h) (by rfl) ?_ (by assumption) ?_;rotate_left
  ·intro w hSw;(try dsimp only at hSw);go_simp;(try with_reducible rfl)
  rotate_left;simp only[Act.put,qa,qb,qc,qf,qe,qd];refine tK 3 ?_ rfl (by kernel_rfl) (fun _ _ _ h=>h) (by rfl) ?_ (by assumption) ?_;rotate_left
  ·intro w hSw;(try dsimp only at hSw);go_simp;(try with_reducible rfl)
  rotate_left;simp only[Act.put,qa,qb,qc,qf,qe,qd];refine tK 7 ?_ rfl (by kernel_rfl) (fun _ _ _ h=>h) (by rfl) ?_ (by assumption) ?_;rotate_left
  ·intro w hSw;(try dsimp only at hSw);go_simp;(try with_reducible rfl)
  rotate_left;simp only[Act.put,qa,qb,qc,qf,qe,qd];refine tK 8 ?_ rfl (by kernel_rfl) (fun _ _ _ h=>h) (by rfl) ?_ (by assumption) ?_;rotate_left
  ·intro w hSw;(try dsimp only at hSw);go_simp;(try with_reducible rfl)
  rotate_left;simp only[Act.put,qa,qb,qc,qf,qe,qd];refine tK 9 ?_ rfl (by kernel_rfl) (fun _ _ _ h=>h) (by rfl) ?_ (by assumption) ?_;rotate_left
  ·intro w hSw;(try dsimp only at hSw);go_simp;(try with_reducible rfl)
  rotate_left;simp only[Act.put,qa,qb,qc,qf,qe,qd];refine wpAnyH_ready (rs:=[0,5]) (by kernel_rfl) (by simp) ?_;refine AllReadyH.cons rfl (fun K hK=>?_) ?_
  ·go_simp
   obtain⟨V1,ge,hVa,hge,oe,be,-⟩:=xJ V0;rw[←hVa,←hge];have OW:Hid (Enc.Own N V1 (.slice (some ⟨ge,0,none⟩) 0 0) []):=Joins.ownsRow_le oe RS.out.le;have RS:=Hm (RS.out.bel be);clear oe be hVa hge;refine hK.out _ _ ?_ (fun hHeld=>?_)
   ·trivial
   clear hK K
   (try simp only[Act.put,qa,qb,qc,qf,qe,qd])
   refine wpAnyH_ready (rs:=[4,5]) (by kernel_rfl) (by simp) ?_;refine AllReadyH.cons rfl (fun K hK=>?_) ?_
   ·refine zm rfl (.tmp 85) (.tmp 88) 22 rfl N 5 i0 (.int .u8 0) 1 1 Tryd.underlying22 hi0 hz0 hz1 hz2 rfl (by decide) (.slice (some ⟨ge,0,none⟩) 0 0) 0 (Lib.byteCells []) (by simp[Act.eval,Act.put]) (by have h9:=OW.out;unfold Enc.Own at h9;rw[←show 0=List.length (α:=UInt8) []from rfl]at h9;exact h9) ⟨gb,0,none⟩ i cb (Lib.byteCells (b.take i)) (by simp[Act.eval,Act.put]) (by rw[Lib.byteCells_length,List.length_take,←HN.out];omega) (yx RS.out.rd i) (Enc.byteCells_one _) (by unfold maxLen;omega) (by omega) RS.out.le ?_
    intro v1 V2 hown hgrow hblk;have OW2:Hid (Enc.Own N V2 v1 ([]++(b.take i))):=Enc.own_app' (m:=0) (n:=i) (bs:=[]) (cs:=(b.take i)) rfl (by rw[List.length_take,←HN.out];omega) hown;have RS:=Hm (RS.out.app OW.out hgrow);rw[List.nil_append]at OW2;have OW:=OW2;clear hown hgrow hblk OW2;refine hK.out _ _ ?_ (fun hHeld=>?_)
    ·trivial
    clear hK K
    (try simp only[Act.put,qa,qb,qc,qf,qe,qd])
    refine wpAnyH_ready (rs:=[5]) (by kernel_rfl) (by simp) ?_;refine AllReadyH.cons rfl (fun K hK=>?_) ?_
    ·go_simp
     obtain⟨V3,gl,hVa,hgl2,hl2,be,le2⟩:=xN V2 [.int .u8 128,.int .u8 128,.int .u8 128,.int .u8 128,.int .u8 1];rw[show V2.alloc (.cells #[.int .u8 128,.int .u8 128,.int .u8 128,.int .u8 128,.int .u8 1] 5)=V3 from hVa.symm,←hgl2];have RS:=Hm (RS.out.bel be);have HL:=Hm hl2;have hap:(v1:Value).ownBlock≠some gl:=fun e=>by have:=(World.ownsRow.lt OW.out _ e).2;omega
     have OW:=Hm (ZR OW.out be);clear hl2 be hVa hgl2;refine hK.out _ _ ?_ (fun hHeld=>?_)
     ·trivial
     clear hK K
     (try simp only[Act.put,qa,qb,qc,qf,qe,qd])
     refine wpAnyH_ready (rs:=[6]) (by kernel_rfl) (by simp) ?_;refine AllReadyH.cons rfl (fun K hK=>?_) ?_
     ·refine zm rfl (.tmp 89) (.tmp 90) 22 rfl N 5 i0 (.int .u8 0) 1 1 Tryd.underlying22 hi0 hz0 hz1 hz2 rfl (by decide) v1 i (Lib.byteCells (b.take i)) (by simp[Act.eval,Act.put]) (by have h9:=OW.out;unfold Enc.Own at h9;rw[←show i=List.length (α:=UInt8) (b.take i)from(by rw[List.length_take,←HN.out];omega)]at h9;exact h9) ⟨gl,0,none⟩ 5 5 [.int .u8 128,.int .u8 128,.int .u8 128,.int .u8 128,.int .u8 1] (by simp[Act.eval,Act.put]) rfl HL.out (by intro u hu;simp only[List.mem_cons,List.not_mem_nil,or_false]at hu;rcases hu with rfl|rfl|rfl|rfl|rfl<;>rfl) (by unfold maxLen;omega) (by omega) RS.out.le ?_
      intro v2 V4 hown hgrow hblk;have OW2:Hid (Enc.Own N V4 v2 ((b.take i)++[128,128,128,128,1])):=Enc.own_app' (m:=i) (n:=5) (bs:=(b.take i)) (cs:=[128,128,128,128,1]) (by rw[List.length_take,←HN.out];omega) rfl (by rw[show Lib.byteCells [128,128,128,128,1]=[.int .u8 128,.int .u8 128,.int .u8 128,.int .u8 128,.int .u8 1]from LITC];exact hown);have RS:=Hm (RS.out.app OW.out hgrow);have OW:=OW2;clear hown hgrow hblk OW2;refine hK.out _ _ ?_ (fun hHeld=>?_)
      ·trivial
      clear hK K
      (try simp only[Act.put,qa,qb,qc,qf,qe,qd])
      refine wpAnyH_ready (rs:=[10]) (by kernel_rfl) (by simp) ?_;refine AllReadyH.cons rfl (fun K hK=>?_) ?_
      ·refine zm rfl (.tmp 91) (.tmp 94) 22 rfl N 5 i0 (.int .u8 0) 1 1 Tryd.underlying22 hi0 hz0 hz1 hz2 rfl (by decide) v2 (i+5) (Lib.byteCells (b.take i++[128,128,128,128,1])) (by simp[Act.eval,Act.put]) (by have h9:=OW.out;unfold Enc.Own at h9;rw[←show(i+5)=List.length (α:=UInt8) (b.take i++[128,128,128,128,1])from(by simp only[qg,List.length_take,qh,qi,←HN.out];omega)]at h9;exact h9) ⟨gb,i,none⟩ (n-i) (cb-i) (Lib.byteCells (b.drop i)) (by simp[Act.eval,Act.put]) (by rw[Lib.byteCells_length,List.length_drop,←HN.out];omega) (yO RS.out.rd i) (Enc.byteCells_one _) (by unfold maxLen;omega) (by omega) RS.out.le ?_
       intro v3 V5 hown hgrow hblk;have OW2:Hid (Enc.Own N V5 v3 ((b.take i++[128,128,128,128,1])++(b.drop i))):=Enc.own_app' (m:=(i+5)) (n:=(n-i)) (bs:=(b.take i++[128,128,128,128,1])) (cs:=(b.drop i)) (by simp only[qg,List.length_take,qh,qi,←HN.out];omega) (by rw[List.length_drop,←HN.out]) hown;have RS:=Hm (RS.out.app OW.out hgrow);have OW:=OW2;clear hown hgrow hblk OW2;refine hK.out _ _ ?_ (fun hHeld=>?_)
       ·trivial
       clear hK K
       (try simp only[Act.put,qa,qb,qc,qf,qe,qd])
       refine wpAnyH_ready (rs:=[11]) (by kernel_rfl) (by simp) ?_;refine AllReadyH.cons rfl (fun K hK=>?_) ?_
       ·go_simp
        refine hK.out _ _ ?_ (fun hHeld=>?_)
        ·trivial
        clear hK K
        (try simp only[Act.put,qa,qb,qc,qf,qe,qd])
        refine wpAnyH_done (by kernel_rfl) ?_ _;go_wp2;go_ret;rw[HF.out];exact yA OW.out RS.out.bl
       exact AllReadyH.nil
      exact AllReadyH.nil
     exact AllReadyH.nil
    exact AllReadyH.nil
   refine AllReadyH.cons rfl (fun K hK=>?_) ?_
   ·go_simp
    obtain⟨V2,gl,hVa,hgl2,hl2,be,le2⟩:=xN V1 [.int .u8 128,.int .u8 128,.int .u8 128,.int .u8 128,.int .u8 1];rw[show V1.alloc (.cells #[.int .u8 128,.int .u8 128,.int .u8 128,.int .u8 128,.int .u8 1] 5)=V2 from hVa.symm,←hgl2];have RS:=Hm (RS.out.bel be);have HL:=Hm hl2;have hap:((.slice (some ⟨ge,0,none⟩) 0 0):Value).ownBlock≠some gl:=fun e=>by have:=(World.ownsRow.lt OW.out _ e).2;omega
    have OW:=Hm (ZR OW.out be);clear hl2 be hVa hgl2;refine hK.out _ _ ?_ (fun hHeld=>?_)
    ·trivial
    clear hK K
    (try simp only[Act.put,qa,qb,qc,qf,qe,qd])
    refine wpAnyH_ready (rs:=[4]) (by kernel_rfl) (by simp) ?_;refine AllReadyH.cons rfl (fun K hK=>?_) ?_
    ·refine zm rfl (.tmp 85) (.tmp 88) 22 rfl N 5 i0 (.int .u8 0) 1 1 Tryd.underlying22 hi0 hz0 hz1 hz2 rfl (by decide) (.slice (some ⟨ge,0,none⟩) 0 0) 0 (Lib.byteCells []) (by simp[Act.eval,Act.put]) (by have h9:=OW.out;unfold Enc.Own at h9;rw[←show 0=List.length (α:=UInt8) []from rfl]at h9;exact h9) ⟨gb,0,none⟩ i cb (Lib.byteCells (b.take i)) (by simp[Act.eval,Act.put]) (by rw[Lib.byteCells_length,List.length_take,←HN.out];omega) (yx RS.out.rd i) (Enc.byteCells_one _) (by unfold maxLen;omega) (by omega) RS.out.le ?_
     intro v1 V3 hown hgrow hblk;have OW2:Hid (Enc.Own N V3 v1 ([]++(b.take i))):=Enc.own_app' (m:=0) (n:=i) (bs:=[]) (cs:=(b.take i)) rfl (by rw[List.length_take,←HN.out];omega) hown;have RS:=Hm (RS.out.app OW.out hgrow);rw[List.nil_append]at OW2;have HL:=Hm (ZP HL.out hgrow (fun e=>hap e.symm));have hap:v1.ownBlock≠some gl:=fun e=>hblk.elim (fun h9=>hap (h9.symm.trans e)) (fun h9=>by have h8:=h9.symm.trans e;injection h8 with h8;omega)
     have OW:=OW2;clear hown hgrow hblk OW2;refine hK.out _ _ ?_ (fun hHeld=>?_)
     ·trivial
     clear hK K
     (try simp only[Act.put,qa,qb,qc,qf,qe,qd])
     refine wpAnyH_ready (rs:=[6]) (by kernel_rfl) (by simp) ?_;refine AllReadyH.cons rfl (fun K hK=>?_) ?_
     ·refine zm rfl (.tmp 89) (.tmp 90) 22 rfl N 5 i0 (.int .u8 0) 1 1 Tryd.underlying22 hi0 hz0 hz1 hz2 rfl (by decide) v1 i (Lib.byteCells (b.take i)) (by simp[Act.eval,Act.put]) (by have h9:=OW.out;unfold Enc.Own at h9;rw[←show i=List.length (α:=UInt8) (b.take i)from(by rw[List.length_take,←HN.out];omega)]at h9;exact h9) ⟨gl,0,none⟩ 5 5 [.int .u8 128,.int .u8 128,.int .u8 128,.int .u8 128,.int .u8 1] (by simp[Act.eval,Act.put]) rfl HL.out (by intro u hu;simp only[List.mem_cons,List.not_mem_nil,or_false]at hu;rcases hu with rfl|rfl|rfl|rfl|rfl<;>rfl) (by unfold maxLen;omega) (by omega) RS.out.le ?_
      intro v2 V4 hown hgrow hblk;have OW2:Hid (Enc.Own N V4 v2 ((b.take i)++[128,128,128,128,1])):=Enc.own_app' (m:=i) (n:=5) (bs:=(b.take i)) (cs:=[128,128,128,128,1]) (by rw[List.length_take,←HN.out];omega) rfl (by rw[show Lib.byteCells [128,128,128,128,1]=[.int .u8 128,.int .u8 128,.int .u8 128,.int .u8 128,.int .u8 1]from LITC];exact hown);have RS:=Hm (RS.out.app OW.out hgrow);have OW:=OW2;clear hown hgrow hblk OW2;refine hK.out _ _ ?_ (fun hHeld=>?_)
      ·trivial
      clear hK K
      (try simp only[Act.put,qa,qb,qc,qf,qe,qd])
      refine wpAnyH_ready (rs:=[10]) (by kernel_rfl) (by simp) ?_;refine AllReadyH.cons rfl (fun K hK=>?_) ?_
      ·refine zm rfl (.tmp 91) (.tmp 94) 22 rfl N 5 i0 (.int .u8 0) 1 1 Tryd.underlying22 hi0 hz0 hz1 hz2 rfl (by decide) v2 (i+5) (Lib.byteCells (b.take i++[128,128,128,128,1])) (by simp[Act.eval,Act.put]) (by have h9:=OW.out;unfold Enc.Own at h9;rw[←show(i+5)=List.length (α:=UInt8) (b.take i++[128,128,128,128,1])from(by simp only[qg,List.length_take,qh,qi,←HN.out];omega)]at h9;exact h9) ⟨gb,i,none⟩ (n-i) (cb-i) (Lib.byteCells (b.drop i)) (by simp[Act.eval,Act.put]) (by rw[Lib.byteCells_length,List.length_drop,←HN.out];omega) (yO RS.out.rd i) (Enc.byteCells_one _) (by unfold maxLen;omega) (by omega) RS.out.le ?_
       intro v3 V5 hown hgrow hblk;have OW2:Hid (Enc.Own N V5 v3 ((b.take i++[128,128,128,128,1])++(b.drop i))):=Enc.own_app' (m:=(i+5)) (n:=(n-i)) (bs:=(b.take i++[128,128,128,128,1])) (cs:=(b.drop i)) (by simp only[qg,List.length_take,qh,qi,←HN.out];omega) (by rw[List.length_drop,←HN.out]) hown;have RS:=Hm (RS.out.app OW.out hgrow);have OW:=OW2;clear hown hgrow hblk OW2;refine hK.out _ _ ?_ (fun hHeld=>?_)
       ·trivial
       clear hK K
       (try simp only[Act.put,qa,qb,qc,qf,qe,qd])
       refine wpAnyH_ready (rs:=[11]) (by kernel_rfl) (by simp) ?_;refine AllReadyH.cons rfl (fun K hK=>?_) ?_
       ·go_simp
        refine hK.out _ _ ?_ (fun hHeld=>?_)
        ·trivial
        clear hK K
        (try simp only[Act.put,qa,qb,qc,qf,qe,qd])
        refine wpAnyH_done (by kernel_rfl) ?_ _;go_wp2;go_ret;rw[HF.out];exact yA OW.out RS.out.bl
       exact AllReadyH.nil
      exact AllReadyH.nil
     exact AllReadyH.nil
    exact AllReadyH.nil
   exact AllReadyH.nil
  refine AllReadyH.cons rfl (fun K hK=>?_) ?_
  ·go_simp
   obtain⟨V1,gl,hVa,hgl2,hl2,be,le2⟩:=xN V0 [.int .u8 128,.int .u8 128,.int .u8 128,.int .u8 128,.int .u8 1];rw[show V0.alloc (.cells #[.int .u8 128,.int .u8 128,.int .u8 128,.int .u8 128,.int .u8 1] 5)=V1 from hVa.symm,←hgl2];have RS:=Hm (RS.out.bel be);have HL:=Hm hl2;clear hl2 be hVa hgl2;refine hK.out _ _ ?_ (fun hHeld=>?_)
   ·trivial
   clear hK K
   (try simp only[Act.put,qa,qb,qc,qf,qe,qd])
   refine wpAnyH_ready (rs:=[0]) (by kernel_rfl) (by simp) ?_;refine AllReadyH.cons rfl (fun K hK=>?_) ?_
   ·go_simp
    obtain⟨V2,ge,hVa,hge,oe,be,-⟩:=xJ V1;rw[←hVa,←hge];have OW:Hid (Enc.Own N V2 (.slice (some ⟨ge,0,none⟩) 0 0) []):=Joins.ownsRow_le oe RS.out.le;have RS:=Hm (RS.out.bel be);have HL:=Hm (Yr HL.out be);have hap:(Value.slice (some ⟨ge,0,none⟩) 0 0).ownBlock≠some gl:=fun e=>by simp only[Value.ownBlock,Option.some.injEq]at e;omega
    have le2:=qp le2 be.size;clear oe be hVa hge;refine hK.out _ _ ?_ (fun hHeld=>?_)
    ·trivial
    clear hK K
    (try simp only[Act.put,qa,qb,qc,qf,qe,qd])
    refine wpAnyH_ready (rs:=[4]) (by kernel_rfl) (by simp) ?_;refine AllReadyH.cons rfl (fun K hK=>?_) ?_
    ·refine zm rfl (.tmp 85) (.tmp 88) 22 rfl N 5 i0 (.int .u8 0) 1 1 Tryd.underlying22 hi0 hz0 hz1 hz2 rfl (by decide) (.slice (some ⟨ge,0,none⟩) 0 0) 0 (Lib.byteCells []) (by simp[Act.eval,Act.put]) (by have h9:=OW.out;unfold Enc.Own at h9;rw[←show 0=List.length (α:=UInt8) []from rfl]at h9;exact h9) ⟨gb,0,none⟩ i cb (Lib.byteCells (b.take i)) (by simp[Act.eval,Act.put]) (by rw[Lib.byteCells_length,List.length_take,←HN.out];omega) (yx RS.out.rd i) (Enc.byteCells_one _) (by unfold maxLen;omega) (by omega) RS.out.le ?_
     intro v1 V3 hown hgrow hblk;have OW2:Hid (Enc.Own N V3 v1 ([]++(b.take i))):=Enc.own_app' (m:=0) (n:=i) (bs:=[]) (cs:=(b.take i)) rfl (by rw[List.length_take,←HN.out];omega) hown;have RS:=Hm (RS.out.app OW.out hgrow);rw[List.nil_append]at OW2;have HL:=Hm (ZP HL.out hgrow (fun e=>hap e.symm));have hap:v1.ownBlock≠some gl:=fun e=>hblk.elim (fun h9=>hap (h9.symm.trans e)) (fun h9=>by have h8:=h9.symm.trans e;injection h8 with h8;omega)
     have OW:=OW2;clear hown hgrow hblk OW2;refine hK.out _ _ ?_ (fun hHeld=>?_)
     ·trivial
     clear hK K
     (try simp only[Act.put,qa,qb,qc,qf,qe,qd])
     refine wpAnyH_ready (rs:=[6]) (by kernel_rfl) (by simp) ?_;refine AllReadyH.cons rfl (fun K hK=>?_) ?_
     ·refine zm rfl (.tmp 89) (.tmp 90) 22 rfl N 5 i0 (.int .u8 0) 1 1 Tryd.underlying22 hi0 hz0 hz1 hz2 rfl (by decide) v1 i (Lib.byteCells (b.take i)) (by simp[Act.eval,Act.put]) (by have h9:=OW.out;unfold Enc.Own at h9;rw[←show i=List.length (α:=UInt8) (b.take i)from(by rw[List.length_take,←HN.out];omega)]at h9;exact h9) ⟨gl,0,none⟩ 5 5 [.int .u8 128,.int .u8 128,.int .u8 128,.int .u8 128,.int .u8 1] (by simp[Act.eval,Act.put]) rfl HL.out (by intro u hu;simp only[List.mem_cons,List.not_mem_nil,or_false]at hu;rcases hu with rfl|rfl|rfl|rfl|rfl<;>rfl) (by unfold maxLen;omega) (by omega) RS.out.le ?_
      intro v2 V4 hown hgrow hblk;have OW2:Hid (Enc.Own N V4 v2 ((b.take i)++[128,128,128,128,1])):=Enc.own_app' (m:=i) (n:=5) (bs:=(b.take i)) (cs:=[128,128,128,128,1]) (by rw[List.length_take,←HN.out];omega) rfl (by rw[show Lib.byteCells [128,128,128,128,1]=[.int .u8 128,.int .u8 128,.int .u8 128,.int .u8 128,.int .u8 1]from LITC];exact hown);have RS:=Hm (RS.out.app OW.out hgrow);have OW:=OW2;clear hown hgrow hblk OW2;refine hK.out _ _ ?_ (fun hHeld=>?_)
      ·trivial
      clear hK K
      (try simp only[Act.put,qa,qb,qc,qf,qe,qd])
      refine wpAnyH_ready (rs:=[10]) (by kernel_rfl) (by simp) ?_;refine AllReadyH.cons rfl (fun K hK=>?_) ?_
      ·refine zm rfl (.tmp 91) (.tmp 94) 22 rfl N 5 i0 (.int .u8 0) 1 1 Tryd.underlying22 hi0 hz0 hz1 hz2 rfl (by decide) v2 (i+5) (Lib.byteCells (b.take i++[128,128,128,128,1])) (by simp[Act.eval,Act.put]) (by have h9:=OW.out;unfold Enc.Own at h9;rw[←show(i+5)=List.length (α:=UInt8) (b.take i++[128,128,128,128,1])from(by simp only[qg,List.length_take,qh,qi,←HN.out];omega)]at h9;exact h9) ⟨gb,i,none⟩ (n-i) (cb-i) (Lib.byteCells (b.drop i)) (by simp[Act.eval,Act.put]) (by rw[Lib.byteCells_length,List.length_drop,←HN.out];omega) (yO RS.out.rd i) (Enc.byteCells_one _) (by unfold maxLen;omega) (by omega) RS.out.le ?_
       intro v3 V5 hown hgrow hblk;have OW2:Hid (Enc.Own N V5 v3 ((b.take i++[128,128,128,128,1])++(b.drop i))):=Enc.own_app' (m:=(i+5)) (n:=(n-i)) (bs:=(b.take i++[128,128,128,128,1])) (cs:=(b.drop i)) (by simp only[qg,List.length_take,qh,qi,←HN.out];omega) (by rw[List.length_drop,←HN.out]) hown;have RS:=Hm (RS.out.app OW.out hgrow);have OW:=OW2;clear hown hgrow hblk OW2;refine hK.out _ _ ?_ (fun hHeld=>?_)
       ·trivial
       clear hK K
       (try simp only[Act.put,qa,qb,qc,qf,qe,qd])
       refine wpAnyH_ready (rs:=[11]) (by kernel_rfl) (by simp) ?_;refine AllReadyH.cons rfl (fun K hK=>?_) ?_
       ·go_simp
        refine hK.out _ _ ?_ (fun hHeld=>?_)
        ·trivial
        clear hK K
        (try simp only[Act.put,qa,qb,qc,qf,qe,qd])
        refine wpAnyH_done (by kernel_rfl) ?_ _;go_wp2;go_ret;rw[HF.out];exact yA OW.out RS.out.bl
       exact AllReadyH.nil
      exact AllReadyH.nil
     exact AllReadyH.nil
    exact AllReadyH.nil
   exact AllReadyH.nil
  exact AllReadyH.nil
 ·have HF:Hid (RR=(b.take i++[255,255,255,255,255,7])++b.drop i):=by unfold Hid;rw[HF.out];rfl
  go_upto_region 22 with fail;obtain⟨N,hN⟩:∃N,N=w7.heap.size:=⟨_,rfl⟩;have RS:Hid (Rg w w7.drew N gb b):=⟨R7.out.bl.drew,R7.out.rd,qp R7.out.lt (by rw[hN];exact R7.out.le),Nat.le_of_eq hN,qo R7.out.lw (by rw[hN];exact R7.out.le)⟩;have LITC:Lib.byteCells [255,255,255,255,255,7]=[.int .u8 255,.int .u8 255,.int .u8 255,.int .u8 255,.int .u8 255,.int .u8 7]:=by simp[Lib.byteCells]
  refine wp_region_held_drew (S:=(fun _=>True)) (by kernel_rfl) ?_ (fun hHeld=>?_)
  ·trivial
  obtain⟨V0,hV⟩:∃V,V=w7.drew:=⟨_,rfl⟩;have RS:Hid (Rg w V0 N gb b):=by rw[hV];exact RS.out
  rw[←hV];clear hHeld;have hHeld:(fun _=>True) V0:=trivial;clear hV O7 R7 C7 hN;refine tK 1 ?_ rfl (by kernel_rfl) (fun _ _ _ h=>h) (by rfl) ?_ (by assumption) ?_;rotate_left
  ·intro w hSw;(try dsimp only at hSw);go_simp;(try with_reducible rfl)
  rotate_left;simp only[Act.put,qa,qb,qc,qf,qe,qd];refine tK 2 ?_ rfl (by kernel_rfl) (fun _ _ _ h=>h) (by rfl) ?_ (by assumption) ?_;rotate_left
  ·intro w hSw;(try dsimp only at hSw);go_simp;(try with_reducible rfl)
  rotate_left;simp only[Act.put,qa,qb,qc,qf,qe,qd];refine tK 3 ?_ rfl (by kernel_rfl) (fun _ _ _ h=>h) (by rfl) ?_ (by assumption) ?_;rotate_left
  ·intro w hSw;(try dsimp only at hSw);go_simp;(try with_reducible rfl)
  rotate_left;simp only[Act.put,qa,qb,qc,qf,qe,qd];refine tK 7 ?_ rfl (by kernel_rfl) (fun _ _ _ h=>h) (by rfl) ?_ (by assumption) ?_;rotate_left
  ·intro w hSw;(try dsimp only at hSw);go_simp;(try with_reducible rfl)
  rotate_left;simp only[Act.put,qa,qb,qc,qf,qe,qd];refine tK 8 ?_ rfl (by kernel_rfl) (fun _ _ _ h=>h) (by rfl) ?_ (by assumption) ?_;rotate_left
  ·intro w hSw;(try dsimp only at hSw);go_simp;(try with_reducible rfl)
  rotate_left;simp only[Act.put,qa,qb,qc,qf,qe,qd];refine tK 9 ?_ rfl (by kernel_rfl) (fun _ _ _ h=>h) (by rfl) ?_ (by assumption) ?_;rotate_left
  ·intro w hSw;(try dsimp only at hSw);go_simp;(try with_reducible rfl)
  rotate_left;simp only[Act.put,qa,qb,qc,qf,qe,qd];refine wpAnyH_ready (rs:=[0,5]) (by kernel_rfl) (by simp) ?_;refine AllReadyH.cons rfl (fun K hK=>?_) ?_
  ·go_simp
   obtain⟨V1,ge,hVa,hge,oe,be,-⟩:=xJ V0;rw[←hVa,←hge];have OW:Hid (Enc.Own N V1 (.slice (some ⟨ge,0,none⟩) 0 0) []):=Joins.ownsRow_le oe RS.out.le;have RS:=Hm (RS.out.bel be);clear oe be hVa hge;refine hK.out _ _ ?_ (fun hHeld=>?_)
   ·trivial
   clear hK K
   (try simp only[Act.put,qa,qb,qc,qf,qe,qd])
   refine wpAnyH_ready (rs:=[4,5]) (by kernel_rfl) (by simp) ?_;refine AllReadyH.cons rfl (fun K hK=>?_) ?_
   ·refine zm rfl (.tmp 96) (.tmp 99) 22 rfl N 5 i0 (.int .u8 0) 1 1 Tryd.underlying22 hi0 hz0 hz1 hz2 rfl (by decide) (.slice (some ⟨ge,0,none⟩) 0 0) 0 (Lib.byteCells []) (by simp[Act.eval,Act.put]) (by have h9:=OW.out;unfold Enc.Own at h9;rw[←show 0=List.length (α:=UInt8) []from rfl]at h9;exact h9) ⟨gb,0,none⟩ i cb (Lib.byteCells (b.take i)) (by simp[Act.eval,Act.put]) (by rw[Lib.byteCells_length,List.length_take,←HN.out];omega) (yx RS.out.rd i) (Enc.byteCells_one _) (by unfold maxLen;omega) (by omega) RS.out.le ?_
    intro v1 V2 hown hgrow hblk;have OW2:Hid (Enc.Own N V2 v1 ([]++(b.take i))):=Enc.own_app' (m:=0) (n:=i) (bs:=[]) (cs:=(b.take i)) rfl (by rw[List.length_take,←HN.out];omega) hown;have RS:=Hm (RS.out.app OW.out hgrow);rw[List.nil_append]at OW2;have OW:=OW2;clear hown hgrow hblk OW2;refine hK.out _ _ ?_ (fun hHeld=>?_)
    ·trivial
    clear hK K
    (try simp only[Act.put,qa,qb,qc,qf,qe,qd])
    refine wpAnyH_ready (rs:=[5]) (by kernel_rfl) (by simp) ?_;refine AllReadyH.cons rfl (fun K hK=>?_) ?_
    ·go_simp
     obtain⟨V3,gl,hVa,hgl2,hl2,be,le2⟩:=xN V2 [.int .u8 255,.int .u8 255,.int .u8 255,.int .u8 255,.int .u8 255,.int .u8 7];rw[show V2.alloc (.cells #[.int .u8 255,.int .u8 255,.int .u8 255,.int .u8 255,.int .u8 255,.int .u8 7] 5)=V3 from hVa.symm,←hgl2];have RS:=Hm (RS.out.bel be);have HL:=Hm hl2;have hap:(v1:Value).ownBlock≠some gl:=fun e=>by have:=(World.ownsRow.lt OW.out _ e).2;omega
     have OW:=Hm (ZR OW.out be);clear hl2 be hVa hgl2;refine hK.out _ _ ?_ (fun hHeld=>?_)
     ·trivial
     clear hK K
     (try simp only[Act.put,qa,qb,qc,qf,qe,qd])
     refine wpAnyH_ready (rs:=[6]) (by kernel_rfl) (by simp) ?_;refine AllReadyH.cons rfl (fun K hK=>?_) ?_
     ·refine zm rfl (.tmp 100) (.tmp 101) 22 rfl N 5 i0 (.int .u8 0) 1 1 Tryd.underlying22 hi0 hz0 hz1 hz2 rfl (by decide) v1 i (Lib.byteCells (b.take i)) (by simp[Act.eval,Act.put]) (by have h9:=OW.out;unfold Enc.Own at h9;rw[←show i=List.length (α:=UInt8) (b.take i)from(by rw[List.length_take,←HN.out];omega)]at h9;exact h9) ⟨gl,0,none⟩ 6 6 [.int .u8 255,.int .u8 255,.int .u8 255,.int .u8 255,.int .u8 255,.int .u8 7] (by simp[Act.eval,Act.put]) rfl HL.out (by intro u hu;simp only[List.mem_cons,List.not_mem_nil,or_false]at hu;rcases hu with rfl|rfl|rfl|rfl|rfl|rfl<;>rfl) (by unfold maxLen;omega) (by omega) RS.out.le ?_
      intro v2 V4 hown hgrow hblk;have OW2:Hid (Enc.Own N V4 v2 ((b.take i)++[255,255,255,255,255,7])):=Enc.own_app' (m:=i) (n:=6) (bs:=(b.take i)) (cs:=[255,255,255,255,255,7]) (by rw[List.length_take,←HN.out];omega) rfl (by rw[show Lib.byteCells [255,255,255,255,255,7]=[.int .u8 255,.int .u8 255,.int .u8 255,.int .u8 255,.int .u8 255,.int .u8 7]from LITC];exact hown);have RS:=Hm (RS.out.app OW.out hgrow);have OW:=OW2;clear hown hgrow hblk OW2;refine hK.out _ _ ?_ (fun hHeld=>?_)
      ·trivial
      clear hK K
      (try simp only[Act.put,qa,qb,qc,qf,qe,qd])
      refine wpAnyH_ready (rs:=[10]) (by kernel_rfl) (by simp) ?_;refine AllReadyH.cons rfl (fun K hK=>?_) ?_
      ·refine zm rfl (.tmp 102) (.tmp 105) 22 rfl N 5 i0 (.int .u8 0) 1 1 Tryd.underlying22 hi0 hz0 hz1 hz2 rfl (by decide) v2 (i+6) (Lib.byteCells (b.take i++[255,255,255,255,255,7])) (by simp[Act.eval,Act.put]) (by have h9:=OW.out;unfold Enc.Own at h9;rw[←show(i+6)=List.length (α:=UInt8) (b.take i++[255,255,255,255,255,7])from(by simp only[qg,List.length_take,qh,qi,←HN.out];omega)]at h9;exact h9) ⟨gb,i,none⟩ (n-i) (cb-i) (Lib.byteCells (b.drop i)) (by simp[Act.eval,Act.put]) (by rw[Lib.byteCells_length,List.length_drop,←HN.out];omega) (yO RS.out.rd i) (Enc.byteCells_one _) (by unfold maxLen;omega) (by omega) RS.out.le ?_
       intro v3 V5 hown hgrow hblk;have OW2:Hid (Enc.Own N V5 v3 ((b.take i++[255,255,255,255,255,7])++(b.drop i))):=Enc.own_app' (m:=(i+6)) (n:=(n-i)) (bs:=(b.take i++[255,255,255,255,255,7])) (cs:=(b.drop i)) (by simp only[qg,List.length_take,qh,qi,←HN.out];omega) (by rw[List.length_drop,←HN.out]) hown;have RS:=Hm (RS.out.app OW.out hgrow);have OW:=OW2;clear hown hgrow hblk OW2;refine hK.out _ _ ?_ (fun hHeld=>?_)
       ·trivial
       clear hK K
       (try simp only[Act.put,qa,qb,qc,qf,qe,qd])
       refine wpAnyH_ready (rs:=[11]) (by kernel_rfl) (by simp) ?_;refine AllReadyH.cons rfl (fun K hK=>?_) ?_
       ·go_simp
        refine hK.out _ _ ?_ (fun hHeld=>?_)
        ·trivial
        clear hK K
        (try simp only[Act.put,qa,qb,qc,qf,qe,qd])
        refine wpAnyH_done (by kernel_rfl) ?_ _;go_wp2;go_ret;rw[HF.out];exact yA OW.out RS.out.bl
       exact AllReadyH.nil
      exact AllReadyH.nil
     exact AllReadyH.nil
    exact AllReadyH.nil
   refine AllReadyH.cons rfl (fun K hK=>?_) ?_
   ·go_simp
    obtain⟨V2,gl,hVa,hgl2,hl2,be,le2⟩:=xN V1 [.int .u8 255,.int .u8 255,.int .u8 255,.int .u8 255,.int .u8 255,.int .u8 7];rw[show V1.alloc (.cells #[.int .u8 255,.int .u8 255,.int .u8 255,.int .u8 255,.int .u8 255,.int .u8 7] 5)=V2 from hVa.symm,←hgl2];have RS:=Hm (RS.out.bel be);have HL:=Hm hl2;have hap:((.slice (some ⟨ge,0,none⟩) 0 0):Value).ownBlock≠some gl:=fun e=>by have:=(World.ownsRow.lt OW.out _ e).2;omega
    have OW:=Hm (ZR OW.out be);clear hl2 be hVa hgl2;refine hK.out _ _ ?_ (fun hHeld=>?_)
    ·trivial
    clear hK K
    (try simp only[Act.put,qa,qb,qc,qf,qe,qd])
    refine wpAnyH_ready (rs:=[4]) (by kernel_rfl) (by simp) ?_;refine AllReadyH.cons rfl (fun K hK=>?_) ?_
    ·refine zm rfl (.tmp 96) (.tmp 99) 22 rfl N 5 i0 (.int .u8 0) 1 1 Tryd.underlying22 hi0 hz0 hz1 hz2 rfl (by decide) (.slice (some ⟨ge,0,none⟩) 0 0) 0 (Lib.byteCells []) (by simp[Act.eval,Act.put]) (by have h9:=OW.out;unfold Enc.Own at h9;rw[←show 0=List.length (α:=UInt8) []from rfl]at h9;exact h9) ⟨gb,0,none⟩ i cb (Lib.byteCells (b.take i)) (by simp[Act.eval,Act.put]) (by rw[Lib.byteCells_length,List.length_take,←HN.out];omega) (yx RS.out.rd i) (Enc.byteCells_one _) (by unfold maxLen;omega) (by omega) RS.out.le ?_
     intro v1 V3 hown hgrow hblk;have OW2:Hid (Enc.Own N V3 v1 ([]++(b.take i))):=Enc.own_app' (m:=0) (n:=i) (bs:=[]) (cs:=(b.take i)) rfl (by rw[List.length_take,←HN.out];omega) hown;have RS:=Hm (RS.out.app OW.out hgrow);rw[List.nil_append]at OW2;have HL:=Hm (ZP HL.out hgrow (fun e=>hap e.symm));have hap:v1.ownBlock≠some gl:=fun e=>hblk.elim (fun h9=>hap (h9.symm.trans e)) (fun h9=>by have h8:=h9.symm.trans e;injection h8 with h8;omega)
     have OW:=OW2;clear hown hgrow hblk OW2;refine hK.out _ _ ?_ (fun hHeld=>?_)
     ·trivial
     clear hK K
     (try simp only[Act.put,qa,qb,qc,qf,qe,qd])
     refine wpAnyH_ready (rs:=[6]) (by kernel_rfl) (by simp) ?_;refine AllReadyH.cons rfl (fun K hK=>?_) ?_
     ·refine zm rfl (.tmp 100) (.tmp 101) 22 rfl N 5 i0 (.int .u8 0) 1 1 Tryd.underlying22 hi0 hz0 hz1 hz2 rfl (by decide) v1 i (Lib.byteCells (b.take i)) (by simp[Act.eval,Act.put]) (by have h9:=OW.out;unfold Enc.Own at h9;rw[←show i=List.length (α:=UInt8) (b.take i)from(by rw[List.length_take,←HN.out];omega)]at h9;exact h9) ⟨gl,0,none⟩ 6 6 [.int .u8 255,.int .u8 255,.int .u8 255,.int .u8 255,.int .u8 255,.int .u8 7] (by simp[Act.eval,Act.put]) rfl HL.out (by intro u hu;simp only[List.mem_cons,List.not_mem_nil,or_false]at hu;rcases hu with rfl|rfl|rfl|rfl|rfl|rfl<;>rfl) (by unfold maxLen;omega) (by omega) RS.out.le ?_
      intro v2 V4 hown hgrow hblk;have OW2:Hid (Enc.Own N V4 v2 ((b.take i)++[255,255,255,255,255,7])):=Enc.own_app' (m:=i) (n:=6) (bs:=(b.take i)) (cs:=[255,255,255,255,255,7]) (by rw[List.length_take,←HN.out];omega) rfl (by rw[show Lib.byteCells [255,255,255,255,255,7]=[.int .u8 255,.int .u8 255,.int .u8 255,.int .u8 255,.int .u8 255,.int .u8 7]from LITC];exact hown);have RS:=Hm (RS.out.app OW.out hgrow);have OW:=OW2;clear hown hgrow hblk OW2;refine hK.out _ _ ?_ (fun hHeld=>?_)
      ·trivial
      clear hK K
      (try simp only[Act.put,qa,qb,qc,qf,qe,qd])
      refine wpAnyH_ready (rs:=[10]) (by kernel_rfl) (by simp) ?_;refine AllReadyH.cons rfl (fun K hK=>?_) ?_
      ·refine zm rfl (.tmp 102) (.tmp 105) 22 rfl N 5 i0 (.int .u8 0) 1 1 Tryd.underlying22 hi0 hz0 hz1 hz2 rfl (by decide) v2 (i+6) (Lib.byteCells (b.take i++[255,255,255,255,255,7])) (by simp[Act.eval,Act.put]) (by have h9:=OW.out;unfold Enc.Own at h9;rw[←show(i+6)=List.length (α:=UInt8) (b.take i++[255,255,255,255,255,7])from(by simp only[qg,List.length_take,qh,qi,←HN.out];omega)]at h9;exact h9) ⟨gb,i,none⟩ (n-i) (cb-i) (Lib.byteCells (b.drop i)) (by simp[Act.eval,Act.put]) (by rw[Lib.byteCells_length,List.length_drop,←HN.out];omega) (yO RS.out.rd i) (Enc.byteCells_one _) (by unfold maxLen;omega) (by omega) RS.out.le ?_
       intro v3 V5 hown hgrow hblk;have OW2:Hid (Enc.Own N V5 v3 ((b.take i++[255,255,255,255,255,7])++(b.drop i))):=Enc.own_app' (m:=(i+6)) (n:=(n-i)) (bs:=(b.take i++[255,255,255,255,255,7])) (cs:=(b.drop i)) (by simp only[qg,List.length_take,qh,qi,←HN.out];omega) (by rw[List.length_drop,←HN.out]) hown;have RS:=Hm (RS.out.app OW.out hgrow);have OW:=OW2;clear hown hgrow hblk OW2;refine hK.out _ _ ?_ (fun hHeld=>?_)
       ·trivial
       clear hK K
       (try simp only[Act.put,qa,qb,qc,qf,qe,qd])
       refine wpAnyH_ready (rs:=[11]) (by kernel_rfl) (by simp) ?_;refine AllReadyH.cons rfl (fun K hK=>?_) ?_
       ·go_simp
        refine hK.out _ _ ?_ (fun hHeld=>?_)
        ·trivial
        clear hK K
        (try simp only[Act.put,qa,qb,qc,qf,qe,qd])
        refine wpAnyH_done (by kernel_rfl) ?_ _;go_wp2;go_ret;rw[HF.out];exact yA OW.out RS.out.bl
       exact AllReadyH.nil
      exact AllReadyH.nil
     exact AllReadyH.nil
    exact AllReadyH.nil
   exact AllReadyH.nil
  refine AllReadyH.cons rfl (fun K hK=>?_) ?_
  ·go_simp
   obtain⟨V1,gl,hVa,hgl2,hl2,be,le2⟩:=xN V0 [.int .u8 255,.int .u8 255,.int .u8 255,.int .u8 255,.int .u8 255,.int .u8 7];rw[show V0.alloc (.cells #[.int .u8 255,.int .u8 255,.int .u8 255,.int .u8 255,.int .u8 255,.int .u8 7] 5)=V1 from hVa.symm,←hgl2];have RS:=Hm (RS.out.bel be);have HL:=Hm hl2;clear hl2 be hVa hgl2;refine hK.out _ _ ?_ (fun hHeld=>?_)
   ·trivial
   clear hK K
   (try simp only[Act.put,qa,qb,qc,qf,qe,qd])
   refine wpAnyH_ready (rs:=[0]) (by kernel_rfl) (by simp) ?_;refine AllReadyH.cons rfl (fun K hK=>?_) ?_
   ·go_simp
    obtain⟨V2,ge,hVa,hge,oe,be,-⟩:=xJ V1;rw[←hVa,←hge];have OW:Hid (Enc.Own N V2 (.slice (some ⟨ge,0,none⟩) 0 0) []):=Joins.ownsRow_le oe RS.out.le;have RS:=Hm (RS.out.bel be);have HL:=Hm (Yr HL.out be);have hap:(Value.slice (some ⟨ge,0,none⟩) 0 0).ownBlock≠some gl:=fun e=>by simp only[Value.ownBlock,Option.some.injEq]at e;omega
    have le2:=qp le2 be.size;clear oe be hVa hge;refine hK.out _ _ ?_ (fun hHeld=>?_)
    ·trivial
    clear hK K
    (try simp only[Act.put,qa,qb,qc,qf,qe,qd])
    refine wpAnyH_ready (rs:=[4]) (by kernel_rfl) (by simp) ?_;refine AllReadyH.cons rfl (fun K hK=>?_) ?_
    ·refine zm rfl (.tmp 96) (.tmp 99) 22 rfl N 5 i0 (.int .u8 0) 1 1 Tryd.underlying22 hi0 hz0 hz1 hz2 rfl (by decide) (.slice (some ⟨ge,0,none⟩) 0 0) 0 (Lib.byteCells []) (by simp[Act.eval,Act.put]) (by have h9:=OW.out;unfold Enc.Own at h9;rw[←show 0=List.length (α:=UInt8) []from rfl]at h9;exact h9) ⟨gb,0,none⟩ i cb (Lib.byteCells (b.take i)) (by simp[Act.eval,Act.put]) (by rw[Lib.byteCells_length,List.length_take,←HN.out];omega) (yx RS.out.rd i) (Enc.byteCells_one _) (by unfold maxLen;omega) (by omega) RS.out.le ?_
     intro v1 V3 hown hgrow hblk;have OW2:Hid (Enc.Own N V3 v1 ([]++(b.take i))):=Enc.own_app' (m:=0) (n:=i) (bs:=[]) (cs:=(b.take i)) rfl (by rw[List.length_take,←HN.out];omega) hown;have RS:=Hm (RS.out.app OW.out hgrow);rw[List.nil_append]at OW2;have HL:=Hm (ZP HL.out hgrow (fun e=>hap e.symm));have hap:v1.ownBlock≠some gl:=fun e=>hblk.elim (fun h9=>hap (h9.symm.trans e)) (fun h9=>by have h8:=h9.symm.trans e;injection h8 with h8;omega)
     have OW:=OW2;clear hown hgrow hblk OW2;refine hK.out _ _ ?_ (fun hHeld=>?_)
     ·trivial
     clear hK K
     (try simp only[Act.put,qa,qb,qc,qf,qe,qd])
     refine wpAnyH_ready (rs:=[6]) (by kernel_rfl) (by simp) ?_;refine AllReadyH.cons rfl (fun K hK=>?_) ?_
     ·refine zm rfl (.tmp 100) (.tmp 101) 22 rfl N 5 i0 (.int .u8 0) 1 1 Tryd.underlying22 hi0 hz0 hz1 hz2 rfl (by decide) v1 i (Lib.byteCells (b.take i)) (by simp[Act.eval,Act.put]) (by have h9:=OW.out;unfold Enc.Own at h9;rw[←show i=List.length (α:=UInt8) (b.take i)from(by rw[List.length_take,←HN.out];omega)]at h9;exact h9) ⟨gl,0,none⟩ 6 6 [.int .u8 255,.int .u8 255,.int .u8 255,.int .u8 255,.int .u8 255,.int .u8 7] (by simp[Act.eval,Act.put]) rfl HL.out (by intro u hu;simp only[List.mem_cons,List.not_mem_nil,or_false]at hu;rcases hu with rfl|rfl|rfl|rfl|rfl|rfl<;>rfl) (by unfold maxLen;omega) (by omega) RS.out.le ?_
      intro v2 V4 hown hgrow hblk;have OW2:Hid (Enc.Own N V4 v2 ((b.take i)++[255,255,255,255,255,7])):=Enc.own_app' (m:=i) (n:=6) (bs:=(b.take i)) (cs:=[255,255,255,255,255,7]) (by rw[List.length_take,←HN.out];omega) rfl (by rw[show Lib.byteCells [255,255,255,255,255,7]=[.int .u8 255,.int .u8 255,.int .u8 255,.int .u8 255,.int .u8 255,.int .u8 7]from LITC];exact hown);have RS:=Hm (RS.out.app OW.out hgrow);have OW:=OW2;clear hown hgrow hblk OW2;refine hK.out _ _ ?_ (fun hHeld=>?_)
      ·trivial
      clear hK K
      (try simp only[Act.put,qa,qb,qc,qf,qe,qd])
      refine wpAnyH_ready (rs:=[10]) (by kernel_rfl) (by simp) ?_;refine AllReadyH.cons rfl (fun K hK=>?_) ?_
      ·refine zm rfl (.tmp 102) (.tmp 105) 22 rfl N 5 i0 (.int .u8 0) 1 1 Tryd.underlying22 hi0 hz0 hz1 hz2 rfl (by decide) v2 (i+6) (Lib.byteCells (b.take i++[255,255,255,255,255,7])) (by simp[Act.eval,Act.put]) (by have h9:=OW.out;unfold Enc.Own at h9;rw[←show(i+6)=List.length (α:=UInt8) (b.take i++[255,255,255,255,255,7])from(by simp only[qg,List.length_take,qh,qi,←HN.out];omega)]at h9;exact h9) ⟨gb,i,none⟩ (n-i) (cb-i) (Lib.byteCells (b.drop i)) (by simp[Act.eval,Act.put]) (by rw[Lib.byteCells_length,List.length_drop,←HN.out];omega) (yO RS.out.rd i) (Enc.byteCells_one _) (by unfold maxLen;omega) (by omega) RS.out.le ?_
       intro v3 V5 hown hgrow hblk;have OW2:Hid (Enc.Own N V5 v3 ((b.take i++[255,255,255,255,255,7])++(b.drop i))):=Enc.own_app' (m:=(i+6)) (n:=(n-i)) (bs:=(b.take i++[255,255,255,255,255,7])) (cs:=(b.drop i)) (by simp only[qg,List.length_take,qh,qi,←HN.out];omega) (by rw[List.length_drop,←HN.out]) hown;have RS:=Hm (RS.out.app OW.out hgrow);have OW:=OW2;clear hown hgrow hblk OW2;refine hK.out _ _ ?_ (fun hHeld=>?_)
       ·trivial
       clear hK K
       (try simp only[Act.put,qa,qb,qc,qf,qe,qd])
       refine wpAnyH_ready (rs:=[11]) (by kernel_rfl) (by simp) ?_;refine AllReadyH.cons rfl (fun K hK=>?_) ?_
       ·go_simp
        refine hK.out _ _ ?_ (fun hHeld=>?_)
        ·trivial
        clear hK K
        (try simp only[Act.put,qa,qb,qc,qf,qe,qd])
        refine wpAnyH_done (by kernel_rfl) ?_ _;go_wp2;go_ret;rw[HF.out];exact yA OW.out RS.out.bl
       exact AllReadyH.nil
      exact AllReadyH.nil
     exact AllReadyH.nil
    exact AllReadyH.nil
   exact AllReadyH.nil
  exact AllReadyH.nil
end Go.Proofs.YtbdldkpifanaiaaDoor.Cd
