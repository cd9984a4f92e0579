import Derived.Test.YtbdldkpifanaiaaDoorCr25
import Derived.Test.YtbdldkpifanaiaaDoorCr26
import Derived.Test.YtbdldkpifanaiaaDoorCr23
import Derived.Lib.SlBytesConst
import Derived.Lib.IndexLaws
import Derived.Lib.Bytealg
import Derived.Lib.BytesEntry
import Derived.WalkSmall
import Derived.Laws.IdiomStrings
import Derived.Lib.BufferWrite
set_option maxHeartbeats 1600000
set_option maxRecDepth 1000000
set_option linter.unusedVariables false
set_option linter.unusedSimpArgs false
open List renaming length_append → qg
open Nat renaming le_refl → qn, le_trans → qo, lt_of_lt_of_le → qp, lt_of_le_of_lt → qr
namespace Go.Proofs.YtbdldkpifanaiaaDoor.Cd
open Go Go.RowKit Mem Syn
attribute [local go_sem ↓] Go.wp_at_zero Go.wp_at_succ
theorem stepS (P:Pr) (a:Option Addr) (c:Nat) (L:Nat→Lo) (w:World) (hP:yr w a P L) (ok:ZM P) (hc:YQ P L) (n:Nat) (hn:n<P.n) (t:Int) (ht0:0≤t) (ht1:t≤1000):
  Calls Tryd.prog 44 #[.agg #[.slice a P.n c],.int .i64 (n:Int),.int .i64 t] w fun e w'=>GenP w w' (zU P n t (P.I n) (reg P n) (zM P n)) e:=by
 have hk:=YD (ok.b n hn);have gE:=genE P a c L w hP ok hc n hn t ht0 ht1;have gF:=genF P a c L w hP ok hc n hn t ht0 ht1;obtain⟨⟨k,nm,nE,nF,E,F,K,lo,hi⟩,hI⟩:∃i,P.I n=i:=⟨_,rfl⟩;obtain⟨⟨aE,aF,cE,cF⟩,hL⟩:∃l,L n=l:=⟨_,rfl⟩;rw[hI]at hk gE gF ⊢;rw[hL]at gE gF;dsimp only at hk gE gF;have hPn:=ok.n;have:k=1∨k=2∨k=3∨k=4∨k=5∨k=6∨k=7∨k=8∨k=9:=by omega
 rcases this with rfl|rfl|rfl|rfl|rfl|rfl|rfl|rfl|rfl
 ·exact sk1 P a c L hPn n hn t ht0 ht1 nm nE nF E F K lo hi aE aF cE cF w hP hI hL (gE rfl).1 (gE rfl).2
 ·exact sk2 P a c L hPn n hn t ht0 ht1 nm nE nF E F K lo hi aE aF cE cF w hP hI hL (gE rfl).1 (gE rfl).2
 ·exact sk3 P a c L hPn n hn t ht0 ht1 nm nE nF E F K lo hi aE aF cE cF w hP hI hL (gE rfl).1 (gE rfl).2
 ·exact sk4 P a c L hPn n hn t ht0 ht1 nm nE nF E F K lo hi aE aF cE cF w hP hI hL (gE rfl).1 (gE rfl).2
 ·exact sk5 P a c L hPn n hn t ht0 ht1 nm nE nF E F K lo hi aE aF cE cF w hP hI hL (gE rfl).1 (gE rfl).2 (gF rfl).1 (gF rfl).2
 ·exact sk6 P a c L hPn n hn t ht0 ht1 nm nE nF E F K lo hi aE aF cE cF w hP hI hL
 ·exact sk7 P a c L hPn n hn t ht0 ht1 nm nE nF E F K lo hi aE aF cE cF w hP hI hL
 ·exact sk8 P a c L hPn n hn t ht0 ht1 nm nE nF E F K lo hi aE aF cE cF w hP hI hL (gE rfl).1 (gE rfl).2
 ·exact sk9 P a c L hPn n hn t ht0 ht1 nm nE nF E F K lo hi aE aF cE cF w hP hI hL (gE rfl).1 (gE rfl).2
end Go.Proofs.YtbdldkpifanaiaaDoor.Cd
namespace Go.Proofs.YtbdldkpifanaiaaDoor.Cd
open Go Go.RowKit Mem Syn
theorem UC (P:Pr) (a:Option Addr) (c:Nat) (L:Nat→Lo) (w:World) (hP:yr w a P L) (hn:P.n≤1048576) (hcn:cnt P P.n≤1048576) (hc:YQ P L):
  Calls Tryd.prog 26 #[.agg #[.slice a P.n c]] w fun e w'=>CodeP w w' (y8 P) e:=by
 by_cases h:xR P=0
 ·exact compOk P a c L w hP hc h (fun W m t hW hm h0 h1=>stepS P a c L W (hP.below hW) (Xw h) hc m hm t h0 h1)
 ·exact Ts P a c L w hP hn hcn h
end Go.Proofs.YtbdldkpifanaiaaDoor.Cd
namespace Go.Proofs.YtbdldkpifanaiaaDoor.Parse
open Go Go.RowKit Mem
theorem infoB:(Tryd.prog.info? 5).map (fun i=>(i.zero,i.size,i.bytes))=some (some (.int .u8 0),1,1):=by kernel_rfl
def Rd (w:World) (a:Option Addr) (bs:List UInt8):Prop:=∀j (h:j<bs.length),∃g o,a=some ⟨g,o,none⟩∧w.cell? ⟨g,o+j,none⟩=some (.int .u8 (bs[j].toNat:Int))
theorem Rd.below {w w':World} {a:Option Addr} {bs:List UInt8} (h:Rd w a bs) (hb:Below w.heap.size w w'):Rd w' a bs:=fun j hj=>by
 obtain⟨g,o,e,hc⟩:=h j hj;exact⟨g,o,e,zw hb hc⟩
theorem Rd.at {w:World} {g o:Nat} {bs:List UInt8} (h:Rd w (some ⟨g,o,none⟩) bs) (j:Nat) (hj:j<bs.length):w.cell? ⟨g,o+j,none⟩=some (.int .u8 (bs[j].toNat:Int)):=by
 obtain⟨g',o',e,hc⟩:=h j hj;injection e with e;injection e with e1 e2;subst e1 e2;exact hc
theorem Rd.some {w:World} {a:Option Addr} {bs:List UInt8} (h:Rd w a bs) (hp:0<bs.length):∃g o,a=some ⟨g,o,none⟩:=by
 obtain⟨g,o,e,_⟩:=h 0 hp;exact⟨g,o,e⟩
theorem Rd.drop {w:World} {g o:Nat} {bs:List UInt8} (h:Rd w (Option.some ⟨g,o,none⟩) bs) (k:Nat):Rd w (Option.some ⟨g,o+k,none⟩) (bs.drop k):=fun j hj=>by
 have:=h.at (k+j) (by rw[List.length_drop]at hj;omega);refine⟨g,o+k,rfl,?_⟩;rw[List.getElem_drop,Nat.add_assoc];exact this
theorem Rd.take {w:World} {a:Option Addr} {bs:List UInt8} (h:Rd w a bs) (k:Nat):Rd w a (bs.take k):=fun j hj=>by
 obtain⟨g,o,e,hc⟩:=h j (by rw[List.length_take]at hj;omega);exact⟨g,o,e,by rw[List.getElem_take];exact hc⟩
def digit (b:UInt8):Bool:=decide (48≤b.toNat)&&decide (b.toNat≤57)
def dec (ds:List UInt8):Int:=ds.foldl (fun n b=>10*n+b.toNat-48) 0
def num (f:List UInt8):Int:=if f.head? =some 45 then-dec f.tail else dec f
theorem XT (ds:List UInt8) (b:UInt8):dec (ds++[b])=10*dec ds+b.toNat-48:=by
 unfold dec;rw[List.foldl_append];rfl
theorem VE {p:List UInt8→Prop} (h0:p []) (hs:∀l b,p l→p (l++[b])) (l:List UInt8):p l:=by
 have:∀n (l:List UInt8),l.length=n→p l:=by
  intro n
  induction n with
  |zero=>intro l h;rw[List.eq_nil_of_length_eq_zero h];exact h0
  |succ m ih=>
   intro l h;have hne:l≠[]:=by intro e;subst e;simp at h
   rw[←List.dropLast_concat_getLast hne];exact hs _ _ (ih _ (by simp[h]))
 exact this _ l rfl
theorem Vp:∀(ds:List UInt8),ds.all digit=true→0≤dec ds∧dec ds<10 ^ ds.length:=by
 refine VE ?_ ?_
 ·intro _;simp[dec]
 ·intro l b ih h
  rw[List.all_append]at h;simp only[List.all_cons,List.all_nil,Bool.and_true,Bool.and_eq_true]at h;obtain⟨h1,h2⟩:=h;have ih':=ih h1;unfold digit at h2;simp only[Bool.and_eq_true,decide_eq_true_eq]at h2;rw[XT,qg,List.length_singleton,Int.pow_succ];omega
end Go.Proofs.YtbdldkpifanaiaaDoor.Parse
namespace Go.Proofs.YtbdldkpifanaiaaDoor.Parse
open Go Go.RowKit Mem
attribute [local go_sem ↓] Go.wp_at_zero Go.wp_at_succ
def stp (sep:UInt8) (s:List (List UInt8)×List UInt8) (b:UInt8):List (List UInt8)×List UInt8:=if b=sep then (s.1++[s.2],[])else (s.1,s.2++[b])
def spl (sep:UInt8) (bs:List UInt8):List (List UInt8)×List UInt8:=bs.foldl (stp sep) ([],[])
def split (sep:UInt8) (bs:List UInt8):List (List UInt8):=(spl sep bs).1++[(spl sep bs).2]
def Own (B:Nat) (w':World) (v:Value) (bs:List UInt8):Prop:=w'.ownsRow B 5 1 v bs.length (Lib.byteCells bs)
def Piece (B:Nat) (w:World) (v:Value) (bs:List UInt8):Prop:=∃a c,v=.slice a bs.length c∧bs.length≤c∧∀j (h:j<bs.length),∃g C fr,a=some ⟨g,0,none⟩∧g<B∧w.heap[g]? =some (.cells C 5 fr)∧C[j]? =some (.int .u8 (bs[j].toNat:Int))
theorem Piece.keep {B B':Nat} {w w':World} {v:Value} {bs:List UInt8} (h:Piece B w v bs) (hB:B≤B') (hk:∀g C fr,g<B→w.heap[g]? =some (.cells C 5 fr)→w'.heap[g]? =some (.cells C 5 fr)):Piece B' w' v bs:=by
 obtain⟨a,c,e,hc,h⟩:=h;refine⟨a,c,e,hc,fun j hj=>?_⟩;obtain⟨g,C,fr,e1,h1,h2,h3⟩:=h j hj;exact⟨g,C,fr,e1,by omega,hk g C fr h1 h2,h3⟩
theorem Piece.rd {B:Nat} {w:World} {v:Value} {bs:List UInt8} (h:Piece B w v bs):∃a c,v=.slice a bs.length c∧bs.length≤c∧Rd w a bs:=by
 obtain⟨a,c,e,hc,h⟩:=h;refine⟨a,c,e,hc,fun j hj=>?_⟩;obtain⟨g,C,fr,e1,h1,h2,h3⟩:=h j hj;exact⟨g,0,e1,by rw[Nat.zero_add,za h2 j];exact h3⟩
def xj (B:Nat) (w:World):List Value→List (List UInt8)→Prop
 |[],[]=>True
 |v::vs,b::bs=>Piece B w v b∧xj B w vs bs
 |_,_=>False
theorem xj.keep {B B':Nat} {w w':World} (hB:B≤B') (hk:∀g C fr,g<B→w.heap[g]? =some (.cells C 5 fr)→w'.heap[g]? =some (.cells C 5 fr)):∀{vs:List Value} {L:List (List UInt8)},xj B w vs L→xj B' w' vs L
 |[],[],_=>trivial
 |_::_,_::_,h=>⟨h.1.keep hB hk,xj.keep hB hk h.2⟩
theorem xj.snoc {B:Nat} {w:World} {v:Value} {b:List UInt8} (hv:Piece B w v b):∀{vs:List Value} {L:List (List UInt8)},xj B w vs L→xj B w (vs++[v]) (L++[b])
 |[],[],_=>⟨hv,trivial⟩
 |_::_,_::_,h=>⟨h.1,xj.snoc hv h.2⟩
theorem xj.len {B:Nat} {w:World}:∀{vs:List Value} {L:List (List UInt8)},xj B w vs L→vs.length=L.length
 |[],[],_=>rfl
 |_::_,_::_,h=>by simp[xj.len h.2]
def Flds (w:World) (a:Option Addr) (L:List (List UInt8)):Prop:=∀k (h:k<L.length),∃g p c,a=some ⟨g,0,none⟩∧w.cell? ⟨g,k,none⟩=some (.slice p L[k].length c)∧L[k].length≤c∧Rd w p L[k]
theorem Flds.below {w w':World} {a:Option Addr} {L:List (List UInt8)} (h:Flds w a L) (hb:Below w.heap.size w w'):Flds w' a L:=fun k hk=>by
 obtain⟨g,p,c,e,h1,h2,h3⟩:=h k hk;exact⟨g,p,c,e,zw hb h1,h2,h3.below hb⟩
theorem XM {B n:Nat} {w:World} {v:Value} {bs:List UInt8} {b:UInt8} {z:Int} (hn:n=bs.length) (hz:(b.toNat:Int)=z) (h:w.ownsRow B 5 1 v (n+1) (Lib.byteCells bs++[Value.int .u8 z])):Own B w v (bs++[b]):=by
 subst hn;unfold Own;rw[qg,List.length_singleton,Lib.byteCells_append];simp only[Lib.byteCells,List.map_cons,List.map_nil,hz]at*;exact h
theorem xW {B n:Nat} {w:World} {v:Value} {e:TypeId} {s:Nat} {xs:List Value} (h:w.ownsRow B e s v n xs):∀g,v.ownBlock=some g→∃c fz,w.heap[g]? =some (.cells c e fz):=by
 intro g hg;rcases h.2 with⟨rfl,_⟩|⟨g',cap,cur,rfl,_,hgg,_⟩
 ·simp[Value.ownBlock]at hg
 ·simp[Value.ownBlock]at hg
  subst hg;exact⟨cur,_,hgg⟩
theorem zj {B n:Nat} {w:World} {v:Value} {e:TypeId} {s:Nat} {xs:List Value} (h:w.ownsRow B e s v n xs):∃a c,v=.slice a n c∧n≤c:=by
 rcases h.2 with⟨rfl,h0⟩|⟨g,cap,cur,rfl,_,_,hc,_⟩
 ·exact⟨none,0,by rw[h0],by omega⟩
 ·exact⟨_,_,rfl,hc⟩
theorem zB {w w':World} {g:Nat} {C:Array Value} {t e:TypeId} {fr:Nat×Nat} {v:Value} {B n s:Nat} {xs:List Value} (hg:w.grownBy w' v.ownBlock) (hrow:w.ownsRow B e s v n xs) (hb:w.heap[g]? =some (.cells C t fr)) (hne:t≠e):w'.heap[g]? =some (.cells C t fr):=by
 rw[hg.block g (zu hb) ?_]
 ·exact hb
 ·intro e1
  obtain⟨c,fz,h⟩:=xW hrow g e1.symm;rw[hb]at h;injection h with h;injection h with _ h2;exact hne h2
theorem yu {w w':World} {B B' n n' s s':Nat} {v u:Value} {t e:TypeId} {xs ys:List Value} (h:w.ownsRow B t s v n xs) (hg:w.grownBy w' u.ownBlock) (hrow:w.ownsRow B' e s' u n' ys) (hne:t≠e):w'.ownsRow B t s v n xs:=by
 refine⟨h.1,?_⟩;rcases h.2 with h0|⟨g,cap,cur,h1,h2,h3,h4⟩
 ·exact Or.inl h0
 ·exact Or.inr ⟨g,cap,cur,h1,h2,zB hg hrow h3 hne,h4⟩
theorem z9 {w w':World} {B n s:Nat} {v:Value} {t:TypeId} {xs:List Value} (h:w.ownsRow B t s v n xs) (hb:Below w.heap.size w w'):w'.ownsRow B t s v n xs:=by
 refine⟨h.1,?_⟩;rcases h.2 with h0|⟨g,cap,cur,h1,h2,h3,h4⟩
 ·exact Or.inl h0
 ·exact Or.inr ⟨g,cap,cur,h1,h2,ze h3 hb,h4⟩
end Go.Proofs.YtbdldkpifanaiaaDoor.Parse
namespace Go.Proofs.YtbdldkpifanaiaaDoor.Parse
open Go Go.RowKit Mem
def plain (d:List UInt8):Bool:=decide (1≤d.length)&&decide (d.length≤9)&&!(decide (1<d.length)&&(d.head? ==some 48))&&d.all digit
end Go.Proofs.YtbdldkpifanaiaaDoor.Parse
namespace Go.Proofs.YtbdldkpifanaiaaDoor.Parse
open Go Go.RowKit Mem
attribute [local go_sem ↓] Go.wp_at_zero Go.wp_at_succ
def VU (d:List UInt8):Value:=.tuple #[.int .i64 (if plain d then dec d else 0),.bool (plain d)]
theorem plainR_bad {d:List UInt8} (h:plain d=false):VU d=.tuple #[.int .i64 0,.bool false]:=by unfold VU;rw[h];rfl
theorem plain_bad {d:List UInt8} {k:Nat} (hk:k<d.length) (h:digit d[k]=false):plain d=false:=by
 have:d.all digit=false:=by
  rw[List.all_eq_false];exact⟨d[k],List.getElem_mem hk,by rw[h];simp⟩
 simp[plain,this]
theorem plain_all {d:List UInt8} {k:Nat} (hk:k<d.length) (h:(d.take k).all digit=true) (h':digit d[k]=true):(d.take (k+1)).all digit=true:=by
 rw[List.take_succ_eq_append_getElem hk,List.all_append,h];simp[h']
theorem dec_take {d:List UInt8} {k:Nat} (hk:k<d.length):dec (d.take (k+1))=10*dec (d.take k)+d[k].toNat-48:=by
 rw[List.take_succ_eq_append_getElem hk,XT]
theorem dec_small {d:List UInt8} {k:Nat} (hk:k≤9) (h:(d.take k).all digit=true):0≤dec (d.take k)∧dec (d.take k)≤1000000000:=by
 have hb:=Vp _ h;have hl:(d.take k).length≤9:=by rw[List.length_take];omega
 generalize (d.take k).length=m at*;refine⟨hb.1,?_⟩
 have:(10:Int) ^ m≤1000000000:=by
  match m,hl with
  |0,_|1,_|2,_|3,_|4,_|5,_|6,_|7,_|8,_|9,_=>decide
 omega
def hd (sep:UInt8) (bs:List UInt8):List UInt8:=bs.takeWhile (fun b=>b !=sep)
def Txt (B:Nat) (w:World) (v:Value) (bs:List UInt8):Prop:=
 ∃p c,v=.slice p bs.length c∧bs.length≤c∧((p=none∧c=0)∨∃g o,p=some ⟨g,o,none⟩∧∀j (h:j<bs.length),g<B∧w.cell? ⟨g,o+j,none⟩=some (.int .u8 (bs[j].toNat:Int)))
theorem Txt.below {B:Nat} {w w':World} {v:Value} {bs:List UInt8} (h:Txt B w v bs) (hb:Below B w w'):Txt B w' v bs:=by
 obtain⟨p,c,e,hc,h⟩:=h;refine⟨p,c,e,hc,?_⟩;rcases h with h|⟨g,o,e1,h⟩
 ·exact Or.inl h
 ·refine Or.inr ⟨g,o,e1,fun j hj=>⟨(h j hj).1,?_⟩⟩
  rw[hb.cell (p:=⟨g,o+j,none⟩) (h j hj).1];exact(h j hj).2
theorem Txt.rd {B:Nat} {w:World} {v:Value} {bs:List UInt8} (h:Txt B w v bs):∃p c,v=.slice p bs.length c∧bs.length≤c∧((p=none∧c=0)∨∃g o,p=some ⟨g,o,none⟩)∧Rd w p bs:=by
 obtain⟨p,c,e,hc,h⟩:=h;rcases h with⟨rfl,rfl⟩|⟨g,o,rfl,h⟩
 ·exact⟨none,0,e,hc,Or.inl ⟨rfl,rfl⟩,fun j hj=>by omega⟩
 ·exact⟨_,c,e,hc,Or.inr ⟨g,o,rfl⟩,fun j hj=>⟨g,o,rfl,(h j hj).2⟩⟩
theorem Txt.nil (B:Nat) (w:World):Txt B w (.slice none 0 0) []:=⟨none,0,rfl,qn _,Or.inl ⟨rfl,rfl⟩⟩
theorem Txt.take {B:Nat} {w:World} {p:Option Addr} {c:Nat} {bs:List UInt8} {n:Nat} (h:Txt B w (.slice p n c) bs) (k:Nat) (hk:k≤bs.length):Txt B w (.slice p k c) (bs.take k):=by
 obtain⟨p',c',e,hc,h⟩:=h;injection e with e1 e2 e3;subst e1 e2 e3;refine⟨p,c,by rw[List.length_take,Nat.min_eq_left hk],by rw[List.length_take];omega,?_⟩;rcases h with h|⟨g,o,e1,h⟩
 ·exact Or.inl h
 ·refine Or.inr ⟨g,o,e1,fun j hj=>?_⟩
  rw[List.length_take]at hj;rw[List.getElem_take];exact h j (by omega)
theorem Txt.drop {B:Nat} {w:World} {g o c:Nat} {bs:List UInt8} {n:Nat} (h:Txt B w (.slice (some ⟨g,o,none⟩) n c) bs) (k:Nat) (hk:k≤bs.length):Txt B w (.slice (some ⟨g,o+k,none⟩) (n-k) (c-k)) (bs.drop k):=by
 obtain⟨p',c',e,hc,h⟩:=h;injection e with e1 e2 e3;subst e1 e2 e3;refine⟨_,_,by rw[List.length_drop],by rw[List.length_drop];omega,Or.inr ⟨g,o+k,rfl,fun j hj=>?_⟩⟩;rcases h with⟨h,-⟩|⟨g',o',e1,h⟩
 ·cases h
 ·injection e1 with e1
  injection e1 with e1 e2;subst e1 e2;rw[List.length_drop]at hj;rw[List.getElem_drop,Nat.add_assoc];exact h (k+j) (by omega)
theorem Txt.end {B:Nat} {w:World} (g o:Nat) (c:Nat):Txt B w (.slice (some ⟨g,o,none⟩) 0 c) []:=⟨_,_,rfl,by simp,Or.inr ⟨g,o,rfl,fun j hj=>by simp at hj⟩⟩
def ints (bs:List UInt8):List Int:=bs.map (fun b=>(b.toNat:Int))
theorem Rd.ints {w:World} {g o:Nat} {bs:List UInt8} (h:Rd w (Option.some ⟨g,o,none⟩) bs):∀i,i<bs.length→w.cell? ⟨g,o+i,none⟩=Option.some (.int .u8 ((Parse.ints bs).getD i 0)):=fun i hi=>by
 rw[h.at i hi];simp[Parse.ints,List.getD,hi]
end Go.Proofs.YtbdldkpifanaiaaDoor.Parse
namespace Go.Proofs.YtbdldkpifanaiaaDoor.Parse
open Go Go.RowKit Mem
end Go.Proofs.YtbdldkpifanaiaaDoor.Parse
namespace Go.Proofs.YtbdldkpifanaiaaDoor.Parse
open Go Go.RowKit Mem
attribute [local go_sem ↓] Go.wp_at_zero Go.wp_at_succ
theorem YO (w:World) (q:Nat):Below w.heap.size w (w.drewN q):=below_drewN' (Below.refl _ _) q
theorem Txt.drew {B:Nat} {w:World} {v:Value} {bs:List UInt8} (h:Txt B w v bs) (q:Nat):Txt B (w.drewN q) v bs:=h.below ⟨rfl,rfl,rfl,qn _,fun _ _=>rfl⟩
theorem xe {a b c:World} {r:Option Nat} (h:a.grownBy b r) (k:b.grownBy c r):a.grownBy c r:=
 ⟨k.os.trans h.os,k.tape.trans h.tape,k.output.trans h.output,qo h.size k.size,fun i hi hr=>(k.block i (by have:=h.size;omega) hr).trans (h.block i hi hr)⟩
theorem xA {a b:World} {r:Option Nat} (h:Below a.heap.size a b):a.grownBy b r:=⟨h.os,h.tape,h.output,h.size,fun i hi _=>h.block i hi⟩
theorem Uv (w:World) (g i:Nat) (v:Value):w.grownBy (w.setCell ⟨g,i,none⟩ v) (some g):=Lib.grownBy_setCell w g i v
theorem UL {B g:Nat} {w w':World} (h:w.grownBy w' (some g)) (hB:B≤g) (hs:B≤w.heap.size):Below B w w':=
 ⟨h.os,h.tape,h.output,h.size,fun k hk=>h.block k (by omega) (by simp;omega)⟩
theorem Txt.set {B g:Nat} {w:World} {v:Value} {bs:List UInt8} (h:Txt B w v bs) (hB:B≤g) (i:Nat) (u:Value):Txt B (w.setCell ⟨g,i,none⟩ u) v bs:=h.below ((Below.refl _ _).setCell (p:=⟨g,i,none⟩) hB u)
theorem Txt.shape {B:Nat} {w:World} {v:Value} {bs:List UInt8} (h:Txt B w v bs):∃p n c,v=.slice p n c:=by
 obtain⟨p,c,e,-⟩:=h;exact⟨p,_,c,e⟩
end Go.Proofs.YtbdldkpifanaiaaDoor.Parse
namespace Go.Proofs.YtbdldkpifanaiaaDoor.Draw
open Go Go.RowKit Mem Parse
attribute [local go_sem ↓] Go.wp_at_zero Go.wp_at_succ
structure DS where
 (i h:Nat)
def Xa (h:Nat):Nat:=(h*1103515245+12345) % 2147483648
def ye (bs:List UInt8) (s:DS):Nat×DS:=
 if s.i<bs.length then ((Xa s.h / 32768 % 256+(bs.getD s.i 0).toNat) % 256,⟨s.i+1,Xa s.h⟩)else (Xa s.h / 32768 % 256,⟨s.i,Xa s.h⟩)
def yf (bs:List UInt8) (s:DS) (n:Nat):Nat×DS:=
 if n≤256 then ((ye bs s).1 % n,(ye bs s).2)
 else (((ye bs s).1*65536+(ye bs (ye bs s).2).1*256+(ye bs (ye bs (ye bs s).2).2).1) % n,(ye bs (ye bs (ye bs s).2).2).2)
theorem Yh (bs:List UInt8) (s:DS):(ye bs s).1<256:=by
 unfold ye
 split
 ·exact Nat.mod_lt _ (by decide)
 ·exact Nat.mod_lt _ (by decide)
theorem ZK (bs:List UInt8) (s:DS) {n:Nat} (h:0<n):(yf bs s n).1<n:=by
 unfold yf
 split
 ·exact Nat.mod_lt _ h
 ·exact Nat.mod_lt _ h
def DC (B g:Nat) (w:World) (bs:List UInt8) (s:DS):Prop:=s.h<2147483648∧s.i≤bs.length∧∃v,w.heap[g]? =some (.cells #[v,.int .i64 (s.i:Int),.int .i64 (s.h:Int)] 50)∧Txt B w v bs
theorem DC.lt {B g:Nat} {w:World} {bs:List UInt8} {s:DS} (h:DC B g w bs s):g<w.heap.size:=by
 obtain⟨-,-,v,hx,-⟩:=h;exact zu hx
theorem DC.keep {B g:Nat} {w w':World} {bs:List UInt8} {s:DS} (h:DC B g w bs s) (hB:B≤w.heap.size) (hb:Below w.heap.size w w'):DC B g w' bs s:=by
 obtain⟨h1,h2,v,hx,ht⟩:=h;exact⟨h1,h2,v,ze hx hb,ht.below (hb.mono hB)⟩
theorem ZL {a k:Nat} (hk:k≤62) (ha:a<2 ^ 62):bits BinOp.and IntKind.i64 (a:Int) ((2 ^ k-1:Nat):Int)=((a % 2 ^ k:Nat):Int):=by
 have hp:2 ^ k≤2 ^ 62:=Nat.pow_le_pow_right (by decide) hk;have hp0:0<2 ^ k:=Nat.pos_of_ne_zero (by simp);rw[(bits_nat .i64 62 (by decide) (fun z h0 h1=>by rw[IntKind.wrap_i64];omega) a (2 ^ k-1) ha (by omega)).1,Nat.and_two_pow_sub_one_eq_mod]
theorem Xx {W:World} {g:Nat} {cs:Array Value} {t:TypeId} {fr:Nat×Nat} (h:W.heap[g]? =some (.cells cs t fr)) (k i:Nat) (v:Value):((W.drewN k).setCell ⟨g,i,none⟩ v).heap[g]? =some (.cells (cs.setIfInBounds i v) t fr):=zk (w:=W.drewN k) h i v
theorem Xg (B g:Nat) (bs:List UInt8) (s:DS) (w:World) (hB:B≤g) (h:DC B g w bs s) (hl:bs.length≤1048576):
  Calls Tryd.prog 23 #[.pointer (some ⟨g,0,none⟩)] w fun e w'=>e=.returned (.int .i64 ((ye bs s).1:Int))∧DC B g w' bs (ye bs s).2∧w.grownBy w' (some g):=by
 obtain⟨hh,hi,v,hx,ht⟩:=h;obtain⟨p,c,rfl,hc,hp,hr⟩:=ht.rd;have x0:w.cell? ⟨g,0,none⟩=some (.slice p bs.length c):=(za hx 0).trans rfl;have x1:w.cell? ⟨g,1,none⟩=some (.int .i64 (s.i:Int)):=(za hx 1).trans rfl;have x2:w.cell? ⟨g,2,none⟩=some (.int .i64 (s.h:Int)):=(za hx 2).trans rfl;have f1:w.frozen? ⟨g,1,none⟩=false:=zb hx 1;have f2:w.frozen? ⟨g,2,none⟩=false:=zb hx 2;obtain⟨i,hie⟩:∃i,i=s.i:=⟨_,rfl⟩;obtain⟨h0,hhe⟩:∃h0,h0=s.h:=⟨_,rfl⟩;obtain⟨n,hn⟩:∃n,n=bs.length:=⟨_,rfl⟩;rw[←hie]at x1 hi;rw[←hhe]at x2 hh;rw[←hn]at x0 hi hl hc;obtain⟨h1,hh1⟩:∃h1,h1=Xa h0:=⟨_,rfl⟩
 have m1:IntKind.i64.wrap ((h0:Int)*1103515245)=(h0:Int)*1103515245:=by rw[IntKind.wrap_i64];omega
 have m2:IntKind.i64.wrap ((h0:Int)*1103515245+12345)=(h0:Int)*1103515245+12345:=by rw[IntKind.wrap_i64];omega
 have ec:((h0*1103515245+12345:Nat):Int)=(h0:Int)*1103515245+12345:=by simp
 have m3:bits BinOp.and IntKind.i64 ((h0:Int)*1103515245+12345) 2147483647=(h1:Int):=by
  rw[hh1,←ec];exact ZL (a:=h0*1103515245+12345) (k:=31) (by decide) (by omega)
 clear ec;have hlt1:h1<2147483648:=by rw[hh1];unfold Xa;omega
 have HX:=Hm hx;have HT:=Hm ht;have HH1:=Hm hh1
 have m4:bits BinOp.and IntKind.i64 ((h1:Int) / 32768) 255=((h1 / 32768 % 256:Nat):Int):=by
  have e:((h1:Int) / 32768)=((h1 / 32768:Nat):Int):=by simp
  rw[e];exact ZL (a:=h1 / 32768) (k:=8) (by decide) (qr (Nat.div_le_self _ _) (qp hlt1 (by decide)))
 obtain⟨x,hx'⟩:∃x,x=h1 / 32768 % 256:=⟨_,rfl⟩;rw[←hx']at m4;have hx8:x<256:=by rw[hx'];exact Nat.mod_lt _ (by decide)
 have HXE:=Hm hx';have HI:=Hm hie;have HHe:=Hm hhe;have HN:=Hm hn;clear hx ht hh1 hx' hie hhe hn;rw[HN.out.symm]at HT;go_enter Tryd.func23,Tryd.ntmps23;go_wp2_with fail;obtain⟨W,hW⟩:∃W,W=w.setCell ⟨g,2,none⟩ (.int .i64 (h1:Int)):=⟨_,rfl⟩;rw[←hW]
 have BW:Hid (W.heap[g]? =some (.cells #[.slice p n c,.int .i64 (i:Int),.int .i64 (h1:Int)] 50)):=by
  unfold Hid;rw[hW];have:=zk HX.out 2 (.int .i64 (h1:Int));rw[HI.out,HN.out];simpa using this
 have GW:Hid (w.grownBy W (some g)):=by rw[hW];exact Uv _ _ _ _
 have TW:Hid (Txt B W (.slice p n c) bs):=by rw[hW];exact HT.out.set hB 2 _
 have RW:Hid (Rd W p bs):=by
  obtain⟨p',c',e,-,-,hr'⟩:=TW.out.rd;injection e with e1;subst e1;exact hr'
 clear hW x0 x1 x2 f1 f2 HX HT hr;have y0:W.cell? ⟨g,0,none⟩=some (.slice p n c):=(za BW.out 0).trans rfl;have y1:W.cell? ⟨g,1,none⟩=some (.int .i64 (i:Int)):=(za BW.out 1).trans rfl;have f1:W.frozen? ⟨g,1,none⟩=false:=zb BW.out 1;by_cases hlt:i<n
 ·have k1:(i:Int)<(n:Int):=by omega
  have hib:i<bs.length:=by rw[←HN.out];exact hlt
  obtain⟨g',o',rfl,z1⟩:=RW.out i hib;obtain⟨q,hq⟩:∃q,q=bs[i].toNat:=⟨_,rfl⟩;rw[←hq]at z1;have hq8:q<256:=by rw[hq];exact UInt8.toNat_lt _
  have HV:Hid (ye bs s=((x+q) % 256,⟨i+1,h1⟩)):=by
   unfold Hid ye;rw[←HI.out,←HHe.out,if_pos hib,←HH1.out,←HXE.out,hq];simp[List.getD,hib]
  have HQ:=Hm hq;have k0:(0:Int)≤(i:Int):=by omega
  have e1:IntKind.i64.wrap ((x:Int)+(q:Int))=(x:Int)+(q:Int):=by rw[IntKind.wrap_i64];omega
  obtain⟨y,hy⟩:∃y,y=(x+q) % 256:=⟨_,rfl⟩
  have e2:bits BinOp.and IntKind.i64 ((x:Int)+(q:Int)) 255=(y:Int):=by
   have:=ZL (a:=x+q) (k:=8) (by decide) (by omega);rw[Int.natCast_add]at this;rw[hy];exact this
  rw[←hy]at HV;clear hy;have e3:IntKind.i64.wrap ((i:Int)+1)=(i:Int)+1:=by rw[IntKind.wrap_i64];omega
  clear hq HXE HH1 HHe HI RW
  go_quiet (fail)
  go_wp2_with fail
  go_quiet (fail)
  go_wp2;go_ret;rw[HV.out];refine⟨rfl,⟨hlt1,by show i+1≤bs.length;omega,.slice (some ⟨g',o',none⟩) n c,?_,?_⟩,?_⟩
  ·exact Xx BW.out _ _ _
  ·exact(TW.out.drew _).set hB 1 _
  ·exact xe GW.out (xe (xA (YO _ _)) (Uv _ _ _ _))
 ·have k1:decide ((i:Int)<(n:Int))=false:=by simp;omega
  have HV:Hid (ye bs s=(x,⟨i,h1⟩)):=by
   unfold Hid ye;rw[←HI.out,←HHe.out,if_neg (by rw[←HN.out];exact hlt),←HH1.out,←HXE.out]
  have k2:¬i<n:=hlt;clear HXE HH1 HHe HI RW
  go_quiet (fail)
  go_wp2;go_ret;rw[HV.out];refine⟨rfl,⟨hlt1,by rw[←HN.out];exact hi,_,BW.out,?_⟩,xe GW.out (xA (YO _ _))⟩;exact TW.out.drew _
theorem Wx (B g:Nat) (bs:List UInt8) (s:DS) (n:Nat) (w:World) (hB:B≤g) (h:DC B g w bs s) (hl:bs.length≤1048576) (hn:0<n) (hn1:n≤1000000):
  Calls Tryd.prog 22 #[.pointer (some ⟨g,0,none⟩),.int .i64 (n:Int)] w fun e w'=>e=.returned (.int .i64 ((yf bs s n).1:Int))∧DC B g w' bs (yf bs s n).2∧w.grownBy w' (some g):=by
 have HD:=Hm h;clear h;have n0:¬(n:Int)=0:=by omega
 by_cases h256:n≤256
 ·have t1:(n:Int)≤256:=by omega
  have HV:Hid (yf bs s n=((ye bs s).1 % n,(ye bs s).2)):=by unfold Hid yf;rw[if_pos h256]
  have hb:=Yh bs s;obtain⟨x,hx⟩:∃x,x=(ye bs s).1:=⟨_,rfl⟩;have HX:=Hm hx;rw[←hx]at HV hb;have e1:Int.tmod (x:Int) (n:Int)=((x % n:Nat):Int):=by rw[Int.tmod_eq_emod_of_nonneg (by omega)];simp
  clear hx;go_enter Tryd.func22,Tryd.ntmps22;go_wp2_with (go_at_call 23;refine(Xg B g bs s _ hB HD.out hl).mono ?_;rintro e w1 ⟨rfl,d1,g1⟩;rw[←HX.out];have D1:=Hm d1;have G1:=Hm g1;clear d1 g1);go_ret;rw[HV.out];exact⟨rfl,D1.out,G1.out⟩
 ·have t1:decide ((n:Int)≤256)=false:=by simp;omega
  obtain⟨s1,hs1⟩:∃s1,s1=(ye bs s).2:=⟨_,rfl⟩;obtain⟨x,hx⟩:∃x,x=(ye bs s).1:=⟨_,rfl⟩;obtain⟨s2,hs2⟩:∃s2,s2=(ye bs s1).2:=⟨_,rfl⟩;obtain⟨y,hy⟩:∃y,y=(ye bs s1).1:=⟨_,rfl⟩;obtain⟨s3,hs3⟩:∃s3,s3=(ye bs s2).2:=⟨_,rfl⟩;obtain⟨z,hz⟩:∃z,z=(ye bs s2).1:=⟨_,rfl⟩
  have HV:Hid (yf bs s n=((x*65536+y*256+z) % n,s3)):=by
   unfold Hid yf;rw[if_neg h256,hs3,hz,hs2,hy,hs1,hx]
  have bx:x<256:=by rw[hx];exact Yh _ _
  have by':y<256:=by rw[hy];exact Yh _ _
  have bz:z<256:=by rw[hz];exact Yh _ _
  have C1:Hid (∀w,DC B g w bs s→Calls Tryd.prog 23 #[.pointer (some ⟨g,0,none⟩)] w fun e w'=>e=.returned (.int .i64 (x:Int))∧DC B g w' bs s1∧w.grownBy w' (some g)):=fun w hd=>by rw[hx,hs1];exact Xg B g bs s w hB hd hl
  have C2:Hid (∀w,DC B g w bs s1→Calls Tryd.prog 23 #[.pointer (some ⟨g,0,none⟩)] w fun e w'=>e=.returned (.int .i64 (y:Int))∧DC B g w' bs s2∧w.grownBy w' (some g)):=fun w hd=>by rw[hy,hs2];exact Xg B g bs s1 w hB hd hl
  have C3:Hid (∀w,DC B g w bs s2→Calls Tryd.prog 23 #[.pointer (some ⟨g,0,none⟩)] w fun e w'=>e=.returned (.int .i64 (z:Int))∧DC B g w' bs s3∧w.grownBy w' (some g)):=fun w hd=>by rw[hz,hs3];exact Xg B g bs s2 w hB hd hl
  clear hx hy hz hs1 hs2 hs3;have e0:IntKind.i64.wrap ((x:Int)*65536)=(x:Int)*65536:=by rw[IntKind.wrap_i64];omega
  have e1:IntKind.i64.wrap ((y:Int)*256)=(y:Int)*256:=by rw[IntKind.wrap_i64];omega
  have e2:IntKind.i64.wrap ((x:Int)*65536+(y:Int)*256)=(x:Int)*65536+(y:Int)*256:=by rw[IntKind.wrap_i64];omega
  have e3:IntKind.i64.wrap ((x:Int)*65536+(y:Int)*256+(z:Int))=(x:Int)*65536+(y:Int)*256+(z:Int):=by rw[IntKind.wrap_i64];omega
  have e4:Int.tmod ((x:Int)*65536+(y:Int)*256+(z:Int)) (n:Int)=(((x*65536+y*256+z) % n:Nat):Int):=by rw[Int.tmod_eq_emod_of_nonneg (by omega)];simp
  go_enter Tryd.func22,Tryd.ntmps22;go_wp2_with fail;refine(C1.out _ HD.out).mono ?_;rintro e w1 ⟨rfl,d1,g1⟩;have D1:=Hm d1;have G1:=Hm g1;clear d1 g1;go_wp2_with fail;refine(C2.out _ D1.out).mono ?_;rintro e w2 ⟨rfl,d2,g2⟩;have D2:=Hm d2;have G2:=Hm (xe G1.out g2);clear d2 g2;go_wp2_with fail;refine(C3.out _ D2.out).mono ?_;rintro e w3 ⟨rfl,d3,g3⟩;have D3:=Hm d3;have G3:=Hm (xe G2.out g3);clear d3 g3;go_wp2;go_ret;rw[HV.out];exact⟨by first|rfl|simp[e4],D3.out,G3.out⟩
def ZW (bs:List UInt8) (s:DS) (lo hi:Int):Int×DS:=(lo+((yf bs s (hi-lo+1).toNat).1:Int),(yf bs s (hi-lo+1).toNat).2)
def Zb (bs:List UInt8) (s:DS) (n:Nat):Bool×DS:=((yf bs s n).1==0,(yf bs s n).2)
theorem rangeD (B g:Nat) (bs:List UInt8) (s:DS) (lo hi:Int) (w:World) (hB:B≤g) (h:DC B g w bs s) (hl:bs.length≤1048576) (h0:lo≤hi) (h1:hi≤100000) (h2:-100000≤lo):
  Calls Tryd.prog 64 #[.pointer (some ⟨g,0,none⟩),.int .i64 lo,.int .i64 hi] w fun e w'=>e=.returned (.int .i64 (ZW bs s lo hi).1)∧DC B g w' bs (ZW bs s lo hi).2∧w.grownBy w' (some g):=by
 have HD:=Hm h;clear h;obtain⟨n,hn⟩:=Int.eq_ofNat_of_zero_le (show 0≤hi-lo+1 by omega);have hn0:0<n:=by omega
 have hn1:n≤1000000:=by omega
 have hlt:=ZK bs s hn0;have HC:=Hm (Wx B g bs s n w hB HD.out hl hn0 hn1);have HV:Hid (ZW bs s lo hi=(lo+((yf bs s n).1:Int),(yf bs s n).2)):=by unfold Hid ZW;rw[hn];rfl
 obtain⟨x,hx⟩:∃x,x=(yf bs s n).1:=⟨_,rfl⟩;rw[←hx]at HC HV hlt;have e1:IntKind.i64.wrap (hi-lo)=hi-lo:=by rw[IntKind.wrap_i64];omega
 have e2:IntKind.i64.wrap (hi-lo+1)=(n:Int):=by rw[IntKind.wrap_i64];omega
 have e3:IntKind.i64.wrap (lo+(x:Int))=lo+(x:Int):=by rw[IntKind.wrap_i64];omega
 have HN:=Hm hn;clear hx;rw[hn]at e2;go_enter Tryd.func64,Tryd.ntmps64;go_wp2_with (go_at_call 22;refine HC.out.mono ?_;rintro e w1 ⟨rfl,d1,g1⟩;have D1:=Hm d1;have G1:=Hm g1;clear d1 g1);go_ret;rw[HV.out];exact⟨rfl,D1.out,G1.out⟩
theorem onceD (B g:Nat) (bs:List UInt8) (s:DS) (n:Nat) (w:World) (hB:B≤g) (h:DC B g w bs s) (hl:bs.length≤1048576) (hn:0<n) (hn1:n≤1000000):
  Calls Tryd.prog 28 #[.pointer (some ⟨g,0,none⟩),.int .i64 (n:Int)] w fun e w'=>e=.returned (.bool (Zb bs s n).1)∧DC B g w' bs (Zb bs s n).2∧w.grownBy w' (some g):=by
 have HC:=Hm (Wx B g bs s n w hB h hl hn hn1);have HV:Hid (Zb bs s n=((yf bs s n).1==0,(yf bs s n).2)):=rfl;obtain⟨x,hx⟩:∃x,x=(yf bs s n).1:=⟨_,rfl⟩;rw[←hx]at HC HV;clear hx h;by_cases h0:x=0
 ·have t0:((x:Int)==0)=true:=by simp;omega
  have h0':=Hm h0;clear h0;go_enter Tryd.func28,Tryd.ntmps28;go_wp2_with (go_at_call 22;refine HC.out.mono ?_;rintro e w1 ⟨rfl,d1,g1⟩;have D1:=Hm d1;have G1:=Hm g1;clear d1 g1);go_ret;rw[HV.out];exact⟨by rw[h0'.out];rfl,D1.out,G1.out⟩
 ·have t0:((x:Int)==0)=false:=by simp;omega
  go_enter Tryd.func28,Tryd.ntmps28;go_wp2_with (go_at_call 22;refine HC.out.mono ?_;rintro e w1 ⟨rfl,d1,g1⟩;have D1:=Hm d1;have G1:=Hm g1;clear d1 g1);go_ret;rw[HV.out];exact⟨by rw[show(x==0)=false by simpa using h0];rfl,D1.out,G1.out⟩
end Go.Proofs.YtbdldkpifanaiaaDoor.Draw
