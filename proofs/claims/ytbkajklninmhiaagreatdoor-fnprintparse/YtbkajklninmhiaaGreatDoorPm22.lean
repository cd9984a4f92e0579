import Derived.Test.YtbkajklninmhiaaGreatDoorPm20
import Derived.Test.YtbkajklninmhiaaGreatDoorPm21
set_option maxHeartbeats 6400000
set_option maxRecDepth 1000000
set_option linter.unusedVariables false
set_option linter.unusedSimpArgs false
open Nat renaming le_refl → qp, le_trans → qq
namespace Go.Proofs.YtbkajklninmhiaaGreatDoor.Dq
open Go Go.RowKit Mem Syn Parse Par Draw
attribute [local go_sem ↓] Go.wp_at_zero Go.wp_at_succ
variable {B g:Nat} {w0 w w':World} {bs:List UInt8} {D:Sr} {s s':DS}
def Fr0 (g:Nat) (v1 v2:Value) (r:List Value):Act:={tmps:=(.pointer (some ⟨g,0,none⟩)::v1::v2::r).toArray,defers:=[]}
theorem RF {C n ca cb:Nat} {pa pb:Option Addr} {G:Bool} {ev:Ev} {A:Code} {Q:Exit→Act→World→Prop} {r:List Value} (hr:r.length=143) (C0:Hid (Cu B g w w bs D s)) (hE:Hid (zy C w (.slice pa n ca) (.slice pb n cb) ev))
  (hA:Hid (∀x s1 kz wd gi v1 v3 v5 r' wx,x<8→D.bel s 8=(x,s1)→kz=2+(x:Int)→wd=(if G=true then 150 else 40)→r'.length=136→Cu B g w wx bs D s1→wx.heap[w.heap.size]? =some (.cells #[.slice pa n ca,.slice pb n cb] 112)→wx.heap[w.heap.size+1]? =some (.cells #[.int .i64 0,.string ⟨#[]⟩,.slice none 0 0,.slice none 0 0,.int .i64 0,.int .i64 0,.int .i64 0] 38)→w.heap.size+2≤gi→wx.heap[gi]? =some (.cells #[.int .i64 kz,.string ⟨#[]⟩,.slice none 0 0,.slice none 0 0,.int .i64 0,.int .i64 0,.int .i64 0] 38)→zy C wx (.slice pa n ca) (.slice pb n cb) ev→Code.wp Tryz.prog A Q (Fr g w gi G kz wd v1 v3 v5 r') wx)) (hP:Hid (∀c a wx,Q (.panic c) a wx→Q (.panic c) a wx)):
  Code.wp Tryz.prog (.seq (sL r0) (.seq (sL (sR r0)) (.seq (sL (sR (sR r0))) (.seq (sL (sR (sR (sR r0)))) (.seq (sL (sR (sR (sR (sR r0))))) A))))) Q (Fr0 g (.agg #[.slice pa n ca,.slice pb n cb]) (.bool G) r) w:=by
 obtain⟨w1,hw1⟩:∃W,W=(w.alloc (.cells #[.slice pa n ca,.slice pb n cb] 112)).alloc (.cells #[.int .i64 0,.string ⟨#[]⟩,.slice none 0 0,.slice none 0 0,.int .i64 0,.int .i64 0,.int .i64 0] 38):=⟨_,rfl⟩;have C1:Hid (Cu B g w w1 bs D s):=by rw[hw1];exact(C0.out.al _).al _
 have E1:Hid (zy C w1 (.slice pa n ca) (.slice pb n cb) ev):=by rw[hw1];exact(hE.out.below (zd (Below.refl _ _) _)).below (zd (Below.refl _ _) _)
 have Kbox_1:Hid (w1.heap[w.heap.size]? =some (.cells #[.slice pa n ca,.slice pb n cb] 112)):=by rw[hw1];exact zv (zo _ _) _
 have Kres_1:Hid (w1.heap[w.heap.size+1]? =some (.cells #[.int .i64 0,.string ⟨#[]⟩,.slice none 0 0,.slice none 0 0,.int .i64 0,.int .i64 0,.int .i64 0] 38)):=by rw[hw1];exact yb _ _ _
 have hz1:w1.heap.size=w.heap.size+2:=by rw[hw1];simp
 clear C0 hE;revert r;refine @zp 143 _ ?_
 iterate 143 (intro _)
 show Code.wp _ _ _ _ _
 conv=>arg 2;dsimp only[r0,Tryz.f71,Option.getD,sR,sL,cT,cF,bk,lpo]
 conv=>arg 4;dsimp only[Fr0]
 go_wp2_with fail;rw[←hw1];clear hw1;refine(yq C1.out 8 (by omega) (by omega)).mono ?_;rintro e' w2 ⟨x,s2,hx,lx,rfl,hc,hgb⟩;have C2:=Hm hc;have hz2:=hgb.size;have Qx:=Hm hx;have Kbox_2:=Hm (Cu.blk C1.out (by omega) Kbox_1.out hgb);have Kres_2:=Hm (Cu.blk C1.out (by omega) Kres_1.out hgb);have E2:=Hm (zy.cur E1.out C1.out hgb);clear Kbox_1 Kres_1 E1 hx hc hgb;have e1:IntKind.i64.wrap (2+(x:Int))=2+(x:Int):=by rw[IntKind.wrap_i64];omega
 obtain⟨w3,hw3⟩:∃W,W=w2.alloc (.cells #[.int .i64 (2+(x:Int)),.string ⟨#[]⟩,.slice none 0 0,.slice none 0 0,.int .i64 0,.int .i64 0,.int .i64 0] 38):=⟨_,rfl⟩;have hb:Below w2.heap.size w2 w3:=by rw[hw3];exact zd (Below.refl _ _) _
 have Kit_3:Hid (w3.heap[w2.heap.size]? =some (.cells #[.int .i64 (2+(x:Int)),.string ⟨#[]⟩,.slice none 0 0,.slice none 0 0,.int .i64 0,.int .i64 0,.int .i64 0] 38)):=by rw[hw3];exact zo _ _
 have C3:=Hm (Cu.below C2.out hb);have E3:=Hm (zy.below E2.out hb);have Kbox_3:=Hm (zg Kbox_2.out hb);have Kres_3:=Hm (zg Kres_2.out hb);clear hb
 cases G with
 |true=>
  go_wp2_with fail;rw[←hw3];refine hA.out x s2 (2+(x:Int)) _ w2.heap.size _ _ _ _ _ lx Qx.out rfl ?_ ?_ C3.out Kbox_3.out Kres_3.out (by omega) Kit_3.out E3.out
  ·rfl
  ·rfl
 |false=>
  go_wp2_with fail;rw[←hw3];refine hA.out x s2 (2+(x:Int)) _ w2.heap.size _ _ _ _ _ lx Qx.out rfl ?_ ?_ C3.out Kbox_3.out Kres_3.out (by omega) Kit_3.out E3.out
  ·rfl
  ·rfl
theorem r0_eq:r0=.seq (sL r0) (.seq (sL (sR r0)) (.seq (sL (sR (sR r0))) (.seq (sL (sR (sR (sR r0)))) (.seq (sL (sR (sR (sR (sR r0))))) r5)))):=rfl
theorem r5_eq:r5=.seq (sL r5) (.seq (sL (sR r5)) (.seq (sL (sR (sR r5))) (.seq (sL (sR (sR (sR r5)))) (.seq (sL (sR (sR (sR (sR r5))))) (.seq (sL (sR (sR (sR (sR (sR r5)))))) (.seq (sL (sR (sR (sR (sR (sR (sR r5))))))) r13)))))):=rfl
theorem ruleD {C:Nat} {a b:Value} {ev:Ev} {G:Bool} (C0:Cu B g w w bs D s) (hE:zy C w a b ev) (hn1:ev.length≤100):Calls Tryz.prog 71 #[.pointer (some ⟨g,0,none⟩),.agg #[a,b],.bool G] w (RI B g w bs D (YL D ev s G)):=by
 obtain⟨pa,ca,rfl,-⟩:=zh hE.n;obtain⟨pb,cb,rfl,-⟩:=zh hE.t;refine calls_of_wp Tryz.func71 (c:=r0) rfl ?_;rw[show(#[.pointer (some ⟨g,0,none⟩),.agg #[.slice pa ev.length ca,.slice pb ev.length cb],.bool G]++Array.replicate (Tryz.f71.ntmps- (#[.pointer (some ⟨g,0,none⟩),.agg #[.slice pa ev.length ca,.slice pb ev.length cb],.bool G]:Array Value).size) undef)=(.pointer (some ⟨g,0,none⟩)::.agg #[.slice pa ev.length ca,.slice pb ev.length cb]::.bool G::List.replicate 143 undef).toArray from WR _ _ _ 143,r0_eq];refine RF (r:=List.replicate 143 undef) List.length_replicate (Hm C0) (Hm hE) (Hm fun x s1 kz wd gi v1 v3 v5 r' wx hx hd hk hw hr hc hb hrs hgi hit he=>?_) (Hm fun _ _ _ h=>h)
 have hm:∀G',yh D ev x s1 G' (if G'=true then 150 else 40)=YL D ev s G':=fun G'=>by unfold YL;rw[hd]
 rw[r5_eq];have HC:=Hm hc;have HB:=Hm hb;have HR:=Hm hrs;have HE:=Hm he;have tail:∀{G':Bool} {k' wd':Int},Hid (∀v1 v3 v5 r' wx s' im vE vF,r'.length=136→Rz B g w wx bs D s' gi im vE vF→YL D ev s G'=(im,s')→Code.wp Tryz.prog r13 (bodyPost Tryz.prog Tryz.f71 (RI B g w bs D (YL D ev s G'))) (Fr g w gi G' k' wd' v1 v3 v5 r') wx):=fun {G' k' wd'}=>Hm fun v1 v3 v5 r' wx s' im vE vF hr hz hm=>TU hr (Hm hz) (Hm hm)
 rcases(show x=0∨x=1∨x=2∨x=3∨x=4∨x=5∨x=6∨x=7 by omega)with rfl|rfl|rfl|rfl|rfl|rfl|rfl|rfl
 ·obtain rfl:kz=2:=by omega
  have HT:=Hm hit
  cases G with
  |true=>
   subst hw;exact rule0t hr HC HB HR hgi HT HE hn1 (Hm (hm true)) tail
  |false=>
   subst hw;exact rule0f hr HC HB HR hgi HT HE hn1 (Hm (hm false)) tail
 ·obtain rfl:kz=3:=by omega
  have HT:=Hm hit
  cases G with
  |true=>
   subst hw;exact rule1t hr HC HB HR hgi HT HE hn1 (Hm (hm true)) tail
  |false=>
   subst hw;exact rule1f hr HC HB HR hgi HT HE hn1 (Hm (hm false)) tail
 ·obtain rfl:kz=4:=by omega
  have HT:=Hm hit
  cases G with
  |true=>
   subst hw;exact Q7 (wd:=150) hr HC HB HR hgi HT HE hn1 (by omega) (by omega) (Hm (hm true)) tail
  |false=>
   subst hw;exact Q7 (wd:=40) hr HC HB HR hgi HT HE hn1 (by omega) (by omega) (Hm (hm false)) tail
 ·obtain rfl:kz=5:=by omega
  have HT:=Hm hit
  cases G with
  |true=>
   subst hw;exact rule3t hr HC HB HR hgi HT HE hn1 (Hm (hm true)) tail
  |false=>
   subst hw;exact rule3f hr HC HB HR hgi HT HE hn1 (Hm (hm false)) tail
 ·obtain rfl:kz=6:=by omega
  have HT:=Hm hit
  cases G with
  |true=>
   subst hw;exact QZ (wd:=150) hr HC HB HR hgi HT HE hn1 (by omega) (by omega) (Hm (hm true)) tail
  |false=>
   subst hw;exact QZ (wd:=40) hr HC HB HR hgi HT HE hn1 (by omega) (by omega) (Hm (hm false)) tail
 ·obtain rfl:kz=7:=by omega
  have HT:=Hm hit
  cases G with
  |true=>
   subst hw;exact QY (wd:=150) hr HC HB HR hgi HT HE hn1 (by omega) (by omega) (Hm (hm true)) tail
  |false=>
   subst hw;exact QY (wd:=40) hr HC HB HR hgi HT HE hn1 (by omega) (by omega) (Hm (hm false)) tail
 ·obtain rfl:kz=8:=by omega
  have HT:=Hm hit
  cases G with
  |true=>
   subst hw;exact QX (wd:=150) hr HC HB HR hgi HT HE hn1 (by omega) (by omega) (Hm (hm true)) tail
  |false=>
   subst hw;exact QX (wd:=40) hr HC HB HR hgi HT HE hn1 (by omega) (by omega) (Hm (hm false)) tail
 ·obtain rfl:kz=9:=by omega
  have HT:=Hm hit
  cases G with
  |true=>
   subst hw;exact rule7t hr HC HB HR hgi HT HE hn1 (Hm (hm true)) tail
  |false=>
   subst hw;exact rule7f hr HC HB HR hgi HT HE hn1 (Hm (hm false)) tail
end Go.Proofs.YtbkajklninmhiaaGreatDoor.Dq
namespace Go.Proofs.YtbkajklninmhiaaGreatDoor.Par
open Go Go.RowKit Mem Syn Parse
attribute [local go_sem ↓] Go.wp_at_zero Go.wp_at_succ
def ZH (T:Nat→Tk) (F:Nat):Nat→List Im→Nat→Nat→Rs (List Im)
 |0,_,_,_=>.out
 |n+1,L,i,o=>if (T i).k=0 then .ok L else if 16≤(T i).k∧(T i).k≤24 then (if L.length=100 then .bad 7 (T i).at' else (XG T F i o).bnd fun x=>ZH T F n (L++[x.1]) x.2.1 x.2.2)else .bad 4 (T i).at'
def ZG (T:Nat→Tk) (F:Nat):Rs (List Im):=if (T 0).k=50 then .bad 2 (T 0).at' else if (T 0).k=51 then .bad 3 (T 0).at' else ZH T F 101 [] 0 0
theorem zV {α β:Type} {r:Rs α} {F:α→Rs β} (h:r≠.out) (h':∀x,r=.ok x→F x≠.out):r.bnd F≠.out:=by
 cases r with
 |out=>exact absurd rfl h
 |bad c a=>rw[zx];simp
 |ok x=>exact h' x rfl
theorem xj {T:Nat→Tk} {k i:Nat}:exp T k i≠.out:=by
 unfold exp
 split
 ·exact XS
 ·simp
theorem WO {T:Nat→Tk} {i:Nat}:Yo T i≠.out:=zV xj fun _ _=>by simp
theorem R8 {T:Nat→Tk} {i:Nat}:Wi T i≠.out:=zV xj fun _ _=>by simp
theorem VQ {T:Nat→Tk} {i:Nat}:Xc T i≠.out:=by
 unfold Xc
 split
 ·exact zV XS fun _ _=>zV WO fun _ _=>by simp
 ·exact WO
theorem Uy {T:Nat→Tk} {i:Nat}:Yz T i≠.out:=zV xj fun _ _=>zV VQ fun _ _=>zV xj fun _ _=>zV VQ fun _ _=>by simp
theorem Tz {T:Nat→Tk} {i:Nat}:Yw T i≠.out:=by
 unfold Yw
 split
 ·exact zV XS fun _ _=>by simp
 ·simp
def yQ (t:List UInt8):Nat:=12*t.length+12
theorem ZM (t:List UInt8) (i o:Nat):pxP (tkT t) (yQ t) i o≠.out:=by
 refine zV (fun e=>?_) fun _ _=>by simp
 have:=(UY (T:=tkT t) (N:=t.length) (fun i hi=>tk_end t i hi) (yQ t)).1 1 i o 0 (by omega) (by omega) (by unfold yQ;omega);rw[e]at this;exact this
theorem Vy (t:List UInt8) (k j o:Nat):zY (tkT t) (yQ t) k j o≠.out:=by
 unfold zY
 repeat' split
 ·exact zV R8 fun _ _=>zV xj fun _ _=>zV (ZM t _ _) fun _ _=>zV xj fun _ _=>by simp
 ·exact zV (ZM t _ _) fun _ _=>zV xj fun _ _=>by simp
 ·exact zV (ZM t _ _) fun _ _=>zV xj fun _ _=>zV VQ fun _ _=>zV Uy fun _ _=>zV xj fun _ _=>by simp
 ·exact zV (ZM t _ _) fun _ _=>zV xj fun _ _=>zV (ZM t _ _) fun _ _=>zV xj fun _ _=>by simp
 ·exact zV Tz fun _ _=>zV Tz fun _ _=>zV xj fun _ _=>by simp
 ·exact zV WO fun _ _=>zV xj fun _ _=>by simp
 ·exact zV (ZM t _ _) fun _ _=>zV Uy fun _ _=>zV xj fun _ _=>by simp
 ·exact zV (ZM t _ _) fun _ _=>zV xj fun _ _=>zV WO fun _ _=>zV xj fun _ _=>by simp
theorem UQ (t:List UInt8) (i o:Nat):XG (tkT t) (yQ t) i o≠.out:=zV XS fun _ _=>Vy t _ _ _
theorem Vl (t:List UInt8):∀(n:Nat) (L:List Im) (i o:Nat),101≤n+L.length→L.length≤100→ZH (tkT t) (yQ t) n L i o≠.out
 |0,L,i,o,h,h'=>by omega
 |n+1,L,i,o,h,h'=>by
  rw[ZH]
  split
  ·simp
  ·split
   ·split
    ·simp
    ·exact zV (UQ t i o) fun x _=>Vl t n _ _ _ (by simp;omega) (by simp;omega)
   ·simp
theorem Vk (t:List UInt8):ZG (tkT t) (yQ t)≠.out:=by
 unfold ZG
 split
 ·simp
 ·split
  ·simp
  ·exact Vl t 101 [] 0 0 (by simp) (by simp)
def itC (im:Im) (vE vF:Value):List Value:=[.int .i64 im.k,.string ⟨im.n.toArray⟩,vE,vF,.int .i64 im.K,.int .i64 im.lo,.int .i64 im.hi]
inductive Its (w:World) (s:Nat):Nat→List Value→List Im→Prop
 |nil:Its w s s [] []
 |snoc (e e':Nat) (cs:List Value) (L:List Im) (im:Im) (vE vF:Value) (m:Nat) (h:Its w s e cs L) (hi:ItO e w (.agg (itC im vE vF).toArray) im vE vF m) (hb:∀g,vF.ownBlock=some g→g<e') (hm:m≤e'):Its w s e' (cs++itC im vE vF) (L++[im])
theorem Its.le {w:World} {s e:Nat} {cs:List Value} {L:List Im} (h:Its w s e cs L):s≤e:=by
 induction h with
 |nil=>exact qp _
 |snoc e e' cs L im vE vF m h hi hb hm ih=>have:=hi.sm;omega
def KO (s:Nat) (w w':World):Prop:=∀g C fr,s≤g→w.heap[g]? =some (.cells C 88 fr)→w'.heap[g]? =some (.cells C 88 fr)
theorem ItO.keep {s:Nat} {w w':World} {v:Value} {im:Im} {vE vF:Value} {m:Nat} (h:ItO s w v im vE vF m) (hk:KO s w w'):ItO s w' v im vE vF m:=
 ⟨h.v,h.e.keepB hk,h.eb,h.sm,h.f.keepB (fun g C fr hg hc=>hk g C fr (qq h.sm hg) hc)⟩
theorem Its.keep {w w':World} {s e:Nat} {cs:List Value} {L:List Im} (h:Its w s e cs L) (hk:KO s w w'):Its w' s e cs L:=by
 induction h with
 |nil=>exact .nil
 |snoc e e' cs L im vE vF m h hi hb hm ih=>exact .snoc e e' cs L im vE vF m ih (hi.keep (fun g C fr hg hc=>hk g C fr (qq h.le hg) hc)) hb hm
theorem ItO.cells {s:Nat} {w:World} {v:Value} {im:Im} {vE vF:Value} {m:Nat} (h:ItO s w v im vE vF m):v=.agg (itC im vE vF).toArray:=h.v
theorem ItO.sl {s:Nat} {w:World} {v:Value} {im:Im} {vE vF:Value} {m:Nat} (h:ItO s w v im vE vF m):(∃a n c,vE=.slice a n c)∧(∃a n c,vF=.slice a n c):=by
 obtain⟨a,c,e⟩:=h.e.sl;obtain⟨a',c',e'⟩:=h.f.sl;exact⟨⟨_,_,_,e⟩,⟨_,_,_,e'⟩⟩
def IP (B b:Nat) (a:Option Addr) (c:Nat) (t:List UInt8) (w:World) (x:Im×Nat×Nat) (e:Ending) (w':World):Prop:=∃v vE vF m,e=.returned v∧ItO w.heap.size w' v x.1 vE vF m∧PS B b a c t x.2.1 x.2.2 0 w'∧x.2.2≤2000
theorem Qq (B b:Nat) (a:Option Addr) (c:Nat) (t:List UInt8) (i o:Nat) (w:World) (h:PS B b a c t i o 0 w) (cc:Int) (aa:Nat) (ha:adv (tkT t) i=.bad cc aa):
  Calls Tryz.prog 48 #[.pointer (some ⟨b,0,none⟩)] w fun e w'=>e=.panicked (flV cc aa)∧w.grownBy w' (some b):=by
 have y2:=Px.c2 h;dsimp only at y2;have hlt:=Px.lt h;have hk51:=X5 t i;obtain⟨k,hk⟩:∃k,k=(tkT t i).k:=⟨_,rfl⟩;rw[←hk]at y2 hk51;have e9:IntKind.i64.wrap ((k:Int) -16)=(k:Int) -16:=by rw[IntKind.wrap_i64];omega
 have e8:IntKind.i64.wrap (1+((k:Int) -16))=1+((k:Int) -16):=by rw[IntKind.wrap_i64];omega
 have H:=Hm h;have HA:=Hm ha;clear h hk ha;go_enter Tryz.func48,Tryz.ntmps48;go_wp2_with (go_at_call 45;go_must (refine(ZS B b a c t i o 0 _ (Px.below H.out (zd (zd (Below.refl _ _) _) _))).mono ?_;rintro e w1 ⟨p,g⟩;rw[HA.out]at p;have p:e=.panicked (flV cc aa):=p;subst p));exact⟨rfl,rfl,zi (zD (zd (zd (Below.refl _ _) _) _)) g⟩
theorem SF (B b:Nat) (a:Option Addr) (c:Nat) (t:List UInt8) (i o:Nat) (w:World) (h:PS B b a c t i o 0 w) (ho:o≤2000) (hk:16≤(tkT t i).k∧(tkT t i).k≤24):
  Calls Tryz.prog 48 #[.pointer (some ⟨b,0,none⟩)] w fun e w'=>Res (XG (tkT t) (yQ t) i o) (IP B b a c t w) e w'∧w.grownBy w' (some b):=by
 unfold XG
 cases ha:adv (tkT t) i with
 |out=>exact absurd ha XS
 |bad cc aa=>rw[zx];exact Qq B b a c t i o w h cc aa ha
 |ok j=>
  rw[zj];have hn:=fun k=>Vy t k j o
  obtain⟨h1,h2⟩:=hk;have hcs:(tkT t i).k=16∨(tkT t i).k=17∨(tkT t i).k=18∨(tkT t i).k=19∨(tkT t i).k=20∨(tkT t i).k=21∨(tkT t i).k=22∨(tkT t i).k=23∨(tkT t i).k=24:=by omega
  rcases hcs with e|e|e|e|e|e|e|e|e
  ·rw[e];exact SP B b a c t (yQ t) i j o w w e h ho ha (hn 1)
  ·rw[e];exact SO B b a c t (yQ t) i j o w w e h ho ha (hn 2)
  ·rw[e];exact SM B b a c t (yQ t) i j o w w e h ho ha (hn 3)
  ·rw[e];exact SL B b a c t (yQ t) i j o w w e h ho ha (hn 4)
  ·rw[e];exact SK B b a c t (yQ t) i j o w w e h ho ha (hn 5)
  ·rw[e];exact SJ B b a c t (yQ t) i j o w w e h ho ha (hn 6)
  ·rw[e];exact SI B b a c t (yQ t) i j o w w e h ho ha (hn 7)
  ·rw[e];exact SH B b a c t (yQ t) i j o w w e h ho ha (hn 8)
  ·rw[e];exact SG B b a c t (yQ t) i j o w w e h ho ha (hn 9)
end Go.Proofs.YtbkajklninmhiaaGreatDoor.Par
