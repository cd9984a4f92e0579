import Derived.Test.YtbkajklninmhiaaGreatDoorPm01
import Derived.Laws.BitsLemmas
import Derived.Deep.RegionWith
set_option maxHeartbeats 1600000
set_option maxRecDepth 1000000
set_option linter.unusedVariables false
set_option linter.unusedSimpArgs false
open Nat renaming le_refl → qp, lt_of_lt_of_le → qr, lt_of_le_of_lt → qt
namespace Go.Proofs.YtbkajklninmhiaaGreatDoor.Draw
open Go Go.RowKit Mem Parse
attribute [local go_sem ↓] Go.wp_at_zero Go.wp_at_succ
structure DS where
 (i h:Nat)
def Wh (h:Nat):Nat:=(h*1103515245+12345) % 2147483648
def yN (bs:List UInt8) (s:DS):Nat×DS:=
 if s.i<bs.length then ((Wh s.h / 32768 % 256+(bs.getD s.i 0).toNat) % 256,⟨s.i+1,Wh s.h⟩)else (Wh s.h / 32768 % 256,⟨s.i,Wh s.h⟩)
def yv (bs:List UInt8) (s:DS) (n:Nat):Nat×DS:=
 if n≤256 then ((yN bs s).1 % n,(yN bs s).2)
 else (((yN bs s).1*65536+(yN bs (yN bs s).2).1*256+(yN bs (yN bs (yN bs s).2).2).1) % n,(yN bs (yN bs (yN bs s).2).2).2)
theorem Xo (bs:List UInt8) (s:DS):(yN bs s).1<256:=by
 unfold yN
 split
 ·exact Nat.mod_lt _ (by decide)
 ·exact Nat.mod_lt _ (by decide)
theorem XN (bs:List UInt8) (s:DS) {n:Nat} (h:0<n):(yv bs s n).1<n:=by
 unfold yv
 split
 ·exact Nat.mod_lt _ h
 ·exact Nat.mod_lt _ h
def DC (B g:Nat) (w:World) (bs:List UInt8) (s:DS):Prop:=s.h<2147483648∧s.i≤bs.length∧∃v,w.heap[g]? =some (.cells #[v,.int .i64 (s.i:Int),.int .i64 (s.h:Int)] 99)∧Txt B w v bs
theorem DC.lt {B g:Nat} {w:World} {bs:List UInt8} {s:DS} (h:DC B g w bs s):g<w.heap.size:=by
 obtain⟨-,-,v,hx,-⟩:=h;exact zN hx
theorem DC.keep {B g:Nat} {w w':World} {bs:List UInt8} {s:DS} (h:DC B g w bs s) (hB:B≤w.heap.size) (hb:Below w.heap.size w w'):DC B g w' bs s:=by
 obtain⟨h1,h2,v,hx,ht⟩:=h;exact⟨h1,h2,v,zg hx hb,ht.below (hb.mono hB)⟩
theorem YP {a k:Nat} (hk:k≤62) (ha:a<2 ^ 62):bits BinOp.and IntKind.i64 (a:Int) ((2 ^ k-1:Nat):Int)=((a % 2 ^ k:Nat):Int):=by
 have hp:2 ^ k≤2 ^ 62:=Nat.pow_le_pow_right (by decide) hk;have hp0:0<2 ^ k:=Nat.pos_of_ne_zero (by simp);rw[(bits_nat .i64 62 (by decide) (fun z h0 h1=>by rw[IntKind.wrap_i64];omega) a (2 ^ k-1) ha (by omega)).1,Nat.and_two_pow_sub_one_eq_mod]
theorem WX {W:World} {g:Nat} {cs:Array Value} {t:TypeId} {fr:Nat×Nat} (h:W.heap[g]? =some (.cells cs t fr)) (k i:Nat) (v:Value):((W.drewN k).setCell ⟨g,i,none⟩ v).heap[g]? =some (.cells (cs.setIfInBounds i v) t fr):=zq (w:=W.drewN k) h i v
theorem UX (B g:Nat) (bs:List UInt8) (s:DS) (w:World) (hB:B≤g) (h:DC B g w bs s) (hl:bs.length≤1048576):
  Calls Tryz.prog 57 #[.pointer (some ⟨g,0,none⟩)] w fun e w'=>e=.returned (.int .i64 ((yN bs s).1:Int))∧DC B g w' bs (yN bs s).2∧w.grownBy w' (some g):=by
 obtain⟨hh,hi,v,hx,ht⟩:=h;obtain⟨p,c,rfl,hc,hp,hr⟩:=ht.rd;have x0:w.cell? ⟨g,0,none⟩=some (.slice p bs.length c):=(zb hx 0).trans rfl;have x1:w.cell? ⟨g,1,none⟩=some (.int .i64 (s.i:Int)):=(zb hx 1).trans rfl;have x2:w.cell? ⟨g,2,none⟩=some (.int .i64 (s.h:Int)):=(zb hx 2).trans rfl;have f1:w.frozen? ⟨g,1,none⟩=false:=zc hx 1;have f2:w.frozen? ⟨g,2,none⟩=false:=zc hx 2;obtain⟨i,hie⟩:∃i,i=s.i:=⟨_,rfl⟩;obtain⟨h0,hhe⟩:∃h0,h0=s.h:=⟨_,rfl⟩;obtain⟨n,hn⟩:∃n,n=bs.length:=⟨_,rfl⟩;rw[←hie]at x1 hi;rw[←hhe]at x2 hh;rw[←hn]at x0 hi hl hc;obtain⟨h1,hh1⟩:∃h1,h1=Wh h0:=⟨_,rfl⟩
 have m1:IntKind.i64.wrap ((h0:Int)*1103515245)=(h0:Int)*1103515245:=by rw[IntKind.wrap_i64];omega
 have m2:IntKind.i64.wrap ((h0:Int)*1103515245+12345)=(h0:Int)*1103515245+12345:=by rw[IntKind.wrap_i64];omega
 have ec:((h0*1103515245+12345:Nat):Int)=(h0:Int)*1103515245+12345:=by simp
 have m3:bits BinOp.and IntKind.i64 ((h0:Int)*1103515245+12345) 2147483647=(h1:Int):=by
  rw[hh1,←ec];exact YP (a:=h0*1103515245+12345) (k:=31) (by decide) (by omega)
 clear ec;have hlt1:h1<2147483648:=by rw[hh1];unfold Wh;omega
 have HX:=Hm hx;have HT:=Hm ht;have HH1:=Hm hh1
 have m4:bits BinOp.and IntKind.i64 ((h1:Int) / 32768) 255=((h1 / 32768 % 256:Nat):Int):=by
  have e:((h1:Int) / 32768)=((h1 / 32768:Nat):Int):=by simp
  rw[e];exact YP (a:=h1 / 32768) (k:=8) (by decide) (qt (Nat.div_le_self _ _) (qr hlt1 (by decide)))
 obtain⟨x,hx'⟩:∃x,x=h1 / 32768 % 256:=⟨_,rfl⟩;rw[←hx']at m4;have hx8:x<256:=by rw[hx'];exact Nat.mod_lt _ (by decide)
 have HXE:=Hm hx';have HI:=Hm hie;have HHe:=Hm hhe;have HN:=Hm hn;clear hx ht hh1 hx' hie hhe hn;rw[HN.out.symm]at HT;go_enter Tryz.func57,Tryz.ntmps57;go_wp2_with fail;obtain⟨W,hW⟩:∃W,W=w.setCell ⟨g,2,none⟩ (.int .i64 (h1:Int)):=⟨_,rfl⟩;rw[←hW]
 have BW:Hid (W.heap[g]? =some (.cells #[.slice p n c,.int .i64 (i:Int),.int .i64 (h1:Int)] 99)):=by
  unfold Hid;rw[hW];have:=zq HX.out 2 (.int .i64 (h1:Int));rw[HI.out,HN.out];simpa using this
 have GW:Hid (w.grownBy W (some g)):=by rw[hW];exact yJ _ _ _ _
 have TW:Hid (Txt B W (.slice p n c) bs):=by rw[hW];exact HT.out.set hB 2 _
 have RW:Hid (Rd W p bs):=by
  obtain⟨p',c',e,-,-,hr'⟩:=TW.out.rd;injection e with e1;subst e1;exact hr'
 clear hW x0 x1 x2 f1 f2 HX HT hr;have y0:W.cell? ⟨g,0,none⟩=some (.slice p n c):=(zb BW.out 0).trans rfl;have y1:W.cell? ⟨g,1,none⟩=some (.int .i64 (i:Int)):=(zb BW.out 1).trans rfl;have f1:W.frozen? ⟨g,1,none⟩=false:=zc BW.out 1;by_cases hlt:i<n
 ·have k1:(i:Int)<(n:Int):=by omega
  have hib:i<bs.length:=by rw[←HN.out];exact hlt
  obtain⟨g',o',rfl,z1⟩:=RW.out i hib;obtain⟨q,hq⟩:∃q,q=bs[i].toNat:=⟨_,rfl⟩;rw[←hq]at z1;have hq8:q<256:=by rw[hq];exact UInt8.toNat_lt _
  have HV:Hid (yN bs s=((x+q) % 256,⟨i+1,h1⟩)):=by
   unfold Hid yN;rw[←HI.out,←HHe.out,if_pos hib,←HH1.out,←HXE.out,hq];simp[List.getD,hib]
  have HQ:=Hm hq;have k0:(0:Int)≤(i:Int):=by omega
  have e1:IntKind.i64.wrap ((x:Int)+(q:Int))=(x:Int)+(q:Int):=by rw[IntKind.wrap_i64];omega
  obtain⟨y,hy⟩:∃y,y=(x+q) % 256:=⟨_,rfl⟩
  have e2:bits BinOp.and IntKind.i64 ((x:Int)+(q:Int)) 255=(y:Int):=by
   have:=YP (a:=x+q) (k:=8) (by decide) (by omega);rw[Int.natCast_add]at this;rw[hy];exact this
  rw[←hy]at HV;clear hy;have e3:IntKind.i64.wrap ((i:Int)+1)=(i:Int)+1:=by rw[IntKind.wrap_i64];omega
  clear hq HXE HH1 HHe HI RW
  go_quiet (fail)
  go_wp2_with fail
  go_quiet (fail)
  go_wp2;go_ret;rw[HV.out];refine⟨rfl,⟨hlt1,by show i+1≤bs.length;omega,.slice (some ⟨g',o',none⟩) n c,?_,?_⟩,?_⟩
  ·exact WX BW.out _ _ _
  ·exact(TW.out.drew _).set hB 1 _
  ·exact zi GW.out (zi (zD (XO _ _)) (yJ _ _ _ _))
 ·have k1:decide ((i:Int)<(n:Int))=false:=by simp;omega
  have HV:Hid (yN bs s=(x,⟨i,h1⟩)):=by
   unfold Hid yN;rw[←HI.out,←HHe.out,if_neg (by rw[←HN.out];exact hlt),←HH1.out,←HXE.out]
  have k2:¬i<n:=hlt;clear HXE HH1 HHe HI RW
  go_quiet (fail)
  go_wp2;go_ret;rw[HV.out];refine⟨rfl,⟨hlt1,by rw[←HN.out];exact hi,_,BW.out,?_⟩,zi GW.out (zD (XO _ _))⟩;exact TW.out.drew _
theorem Ud (B g:Nat) (bs:List UInt8) (s:DS) (n:Nat) (w:World) (hB:B≤g) (h:DC B g w bs s) (hl:bs.length≤1048576) (hn:0<n) (hn1:n≤1000000):
  Calls Tryz.prog 27 #[.pointer (some ⟨g,0,none⟩),.int .i64 (n:Int)] w fun e w'=>e=.returned (.int .i64 ((yv bs s n).1:Int))∧DC B g w' bs (yv bs s n).2∧w.grownBy w' (some g):=by
 have HD:=Hm h;clear h;have n0:¬(n:Int)=0:=by omega
 by_cases h256:n≤256
 ·have t1:(n:Int)≤256:=by omega
  have HV:Hid (yv bs s n=((yN bs s).1 % n,(yN bs s).2)):=by unfold Hid yv;rw[if_pos h256]
  have hb:=Xo bs s;obtain⟨x,hx⟩:∃x,x=(yN bs s).1:=⟨_,rfl⟩;have HX:=Hm hx;rw[←hx]at HV hb;have e1:Int.tmod (x:Int) (n:Int)=((x % n:Nat):Int):=by rw[Int.tmod_eq_emod_of_nonneg (by omega)];simp
  clear hx;go_enter Tryz.func27,Tryz.ntmps27;go_wp2_with (go_at_call 57;refine(UX B g bs s _ hB HD.out hl).mono ?_;rintro e w1 ⟨rfl,d1,g1⟩;rw[←HX.out];have D1:=Hm d1;have G1:=Hm g1;clear d1 g1);go_ret;rw[HV.out];exact⟨rfl,D1.out,G1.out⟩
 ·have t1:decide ((n:Int)≤256)=false:=by simp;omega
  obtain⟨s1,hs1⟩:∃s1,s1=(yN bs s).2:=⟨_,rfl⟩;obtain⟨x,hx⟩:∃x,x=(yN bs s).1:=⟨_,rfl⟩;obtain⟨s2,hs2⟩:∃s2,s2=(yN bs s1).2:=⟨_,rfl⟩;obtain⟨y,hy⟩:∃y,y=(yN bs s1).1:=⟨_,rfl⟩;obtain⟨s3,hs3⟩:∃s3,s3=(yN bs s2).2:=⟨_,rfl⟩;obtain⟨z,hz⟩:∃z,z=(yN bs s2).1:=⟨_,rfl⟩
  have HV:Hid (yv bs s n=((x*65536+y*256+z) % n,s3)):=by
   unfold Hid yv;rw[if_neg h256,hs3,hz,hs2,hy,hs1,hx]
  have bx:x<256:=by rw[hx];exact Xo _ _
  have by':y<256:=by rw[hy];exact Xo _ _
  have bz:z<256:=by rw[hz];exact Xo _ _
  have C1:Hid (∀w,DC B g w bs s→Calls Tryz.prog 57 #[.pointer (some ⟨g,0,none⟩)] w fun e w'=>e=.returned (.int .i64 (x:Int))∧DC B g w' bs s1∧w.grownBy w' (some g)):=fun w hd=>by rw[hx,hs1];exact UX B g bs s w hB hd hl
  have C2:Hid (∀w,DC B g w bs s1→Calls Tryz.prog 57 #[.pointer (some ⟨g,0,none⟩)] w fun e w'=>e=.returned (.int .i64 (y:Int))∧DC B g w' bs s2∧w.grownBy w' (some g)):=fun w hd=>by rw[hy,hs2];exact UX B g bs s1 w hB hd hl
  have C3:Hid (∀w,DC B g w bs s2→Calls Tryz.prog 57 #[.pointer (some ⟨g,0,none⟩)] w fun e w'=>e=.returned (.int .i64 (z:Int))∧DC B g w' bs s3∧w.grownBy w' (some g)):=fun w hd=>by rw[hz,hs3];exact UX B g bs s2 w hB hd hl
  clear hx hy hz hs1 hs2 hs3;have e0:IntKind.i64.wrap ((x:Int)*65536)=(x:Int)*65536:=by rw[IntKind.wrap_i64];omega
  have e1:IntKind.i64.wrap ((y:Int)*256)=(y:Int)*256:=by rw[IntKind.wrap_i64];omega
  have e2:IntKind.i64.wrap ((x:Int)*65536+(y:Int)*256)=(x:Int)*65536+(y:Int)*256:=by rw[IntKind.wrap_i64];omega
  have e3:IntKind.i64.wrap ((x:Int)*65536+(y:Int)*256+(z:Int))=(x:Int)*65536+(y:Int)*256+(z:Int):=by rw[IntKind.wrap_i64];omega
  have e4:Int.tmod ((x:Int)*65536+(y:Int)*256+(z:Int)) (n:Int)=(((x*65536+y*256+z) % n:Nat):Int):=by rw[Int.tmod_eq_emod_of_nonneg (by omega)];simp
  go_enter Tryz.func27,Tryz.ntmps27;go_wp2_with fail;refine(C1.out _ HD.out).mono ?_;rintro e w1 ⟨rfl,d1,g1⟩;have D1:=Hm d1;have G1:=Hm g1;clear d1 g1;go_wp2_with fail;refine(C2.out _ D1.out).mono ?_;rintro e w2 ⟨rfl,d2,g2⟩;have D2:=Hm d2;have G2:=Hm (zi G1.out g2);clear d2 g2;go_wp2_with fail;refine(C3.out _ D2.out).mono ?_;rintro e w3 ⟨rfl,d3,g3⟩;have D3:=Hm d3;have G3:=Hm (zi G2.out g3);clear d3 g3;go_wp2;go_ret;rw[HV.out];exact⟨by first|rfl|simp[e4],D3.out,G3.out⟩
def YW (bs:List UInt8) (s:DS) (lo hi:Int):Int×DS:=(lo+((yv bs s (hi-lo+1).toNat).1:Int),(yv bs s (hi-lo+1).toNat).2)
def Wt (bs:List UInt8) (s:DS) (n:Nat):Bool×DS:=((yv bs s n).1==0,(yv bs s n).2)
theorem rangeD (B g:Nat) (bs:List UInt8) (s:DS) (lo hi:Int) (w:World) (hB:B≤g) (h:DC B g w bs s) (hl:bs.length≤1048576) (h0:lo≤hi) (h1:hi≤100000) (h2:-100000≤lo):
  Calls Tryz.prog 68 #[.pointer (some ⟨g,0,none⟩),.int .i64 lo,.int .i64 hi] w fun e w'=>e=.returned (.int .i64 (YW bs s lo hi).1)∧DC B g w' bs (YW bs s lo hi).2∧w.grownBy w' (some g):=by
 have HD:=Hm h;clear h;obtain⟨n,hn⟩:=Int.eq_ofNat_of_zero_le (show 0≤hi-lo+1 by omega);have hn0:0<n:=by omega
 have hn1:n≤1000000:=by omega
 have hlt:=XN bs s hn0;have HC:=Hm (Ud B g bs s n w hB HD.out hl hn0 hn1);have HV:Hid (YW bs s lo hi=(lo+((yv bs s n).1:Int),(yv bs s n).2)):=by unfold Hid YW;rw[hn];rfl
 obtain⟨x,hx⟩:∃x,x=(yv bs s n).1:=⟨_,rfl⟩;rw[←hx]at HC HV hlt;have e1:IntKind.i64.wrap (hi-lo)=hi-lo:=by rw[IntKind.wrap_i64];omega
 have e2:IntKind.i64.wrap (hi-lo+1)=(n:Int):=by rw[IntKind.wrap_i64];omega
 have e3:IntKind.i64.wrap (lo+(x:Int))=lo+(x:Int):=by rw[IntKind.wrap_i64];omega
 have HN:=Hm hn;clear hx;rw[hn]at e2;go_enter Tryz.func68,Tryz.ntmps68;go_wp2_with (go_at_call 27;refine HC.out.mono ?_;rintro e w1 ⟨rfl,d1,g1⟩;have D1:=Hm d1;have G1:=Hm g1;clear d1 g1);go_ret;rw[HV.out];exact⟨rfl,D1.out,G1.out⟩
theorem onceD (B g:Nat) (bs:List UInt8) (s:DS) (n:Nat) (w:World) (hB:B≤g) (h:DC B g w bs s) (hl:bs.length≤1048576) (hn:0<n) (hn1:n≤1000000):
  Calls Tryz.prog 25 #[.pointer (some ⟨g,0,none⟩),.int .i64 (n:Int)] w fun e w'=>e=.returned (.bool (Wt bs s n).1)∧DC B g w' bs (Wt bs s n).2∧w.grownBy w' (some g):=by
 have HC:=Hm (Ud B g bs s n w hB h hl hn hn1);have HV:Hid (Wt bs s n=((yv bs s n).1==0,(yv bs s n).2)):=rfl;obtain⟨x,hx⟩:∃x,x=(yv bs s n).1:=⟨_,rfl⟩;rw[←hx]at HC HV;clear hx h;by_cases h0:x=0
 ·have t0:((x:Int)==0)=true:=by simp;omega
  have h0':=Hm h0;clear h0;go_enter Tryz.func25,Tryz.ntmps25;go_wp2_with (go_at_call 27;refine HC.out.mono ?_;rintro e w1 ⟨rfl,d1,g1⟩;have D1:=Hm d1;have G1:=Hm g1;clear d1 g1);go_ret;rw[HV.out];exact⟨by rw[h0'.out];rfl,D1.out,G1.out⟩
 ·have t0:((x:Int)==0)=false:=by simp;omega
  go_enter Tryz.func25,Tryz.ntmps25;go_wp2_with (go_at_call 27;refine HC.out.mono ?_;rintro e w1 ⟨rfl,d1,g1⟩;have D1:=Hm d1;have G1:=Hm g1;clear d1 g1);go_ret;rw[HV.out];exact⟨by rw[show(x==0)=false by simpa using h0];rfl,D1.out,G1.out⟩
def x8 (n:Nat) (bs:List UInt8):Nat:=bs.foldl (fun h b=>(h*131+b.toNat+7) % 1073741824) (12345+n)
theorem VO {n:Nat} {bs:List UInt8} {k:Nat} (hk:k<bs.length):x8 n (bs.take (k+1))=(x8 n (bs.take k)*131+bs[k].toNat+7) % 1073741824:=by
 unfold x8;rw[List.take_succ_eq_append_getElem hk,List.foldl_append];rfl
theorem newD (B:Nat) (v:Value) (bs:List UInt8) (w:World) (hBs:B≤w.heap.size) (ht:Txt B w v bs) (hl:bs.length≤1048576):
  Calls Tryz.prog 24 #[v] w fun e w'=>∃g,e=.returned (.pointer (some ⟨g,0,none⟩))∧w.heap.size≤g∧DC B g w' bs ⟨0,x8 bs.length bs⟩∧Below w.heap.size w w':=by
 obtain⟨p,c,rfl,hc,hp,hr⟩:=ht.rd;have HR:=Hm hr;have HT:=Hm ht;obtain⟨n,hn⟩:∃n,n=bs.length:=⟨_,rfl⟩;have HN:=Hm hn;rw[←hn]at hl hc HT ⊢;clear hr ht hp hn;have e0:IntKind.i64.wrap (12345+(n:Int))=12345+(n:Int):=by rw[IntKind.wrap_i64];omega
 go_enter Tryz.func24,Tryz.ntmps24;go_wp2;go_loopw [3,4] (fun h i wr=>wr=w∧∃k:Nat,k≤n∧i=.int .i64 (k:Int)∧∃H:Nat,h=.int .i64 (H:Int)∧H<2147483648∧Hid (H=x8 n (bs.take k))) (fun _ i _=>n- (intOf i).toNat)
 case atStart=>exact⟨rfl,0,Nat.zero_le _,rfl,12345+n,by simp,by omega,by simp[Hid,x8]⟩
 case round=>
  obtain⟨rfl,k,hk,rfl,H,rfl,hH,hHe⟩:=hrel;by_cases hlt:k<n
  ·have hkl:k<bs.length:=by rw[←HN.out];exact hlt
   obtain⟨g,o,rfl,y1⟩:=HR.out k hkl;obtain⟨q,hq⟩:∃q,q=bs[k].toNat:=⟨_,rfl⟩;rw[←hq]at y1;have hq8:q<256:=by rw[hq];exact UInt8.toNat_lt _
   have k1:(k:Int)<(n:Int):=by omega
   have e1:IntKind.i64.wrap ((H:Int)*131)=(H:Int)*131:=by rw[IntKind.wrap_i64];omega
   have e2:IntKind.i64.wrap ((H:Int)*131+(q:Int))=(H:Int)*131+(q:Int):=by rw[IntKind.wrap_i64];omega
   have e3:IntKind.i64.wrap ((H:Int)*131+(q:Int)+7)=(H:Int)*131+(q:Int)+7:=by rw[IntKind.wrap_i64];omega
   obtain⟨H',hH'⟩:∃H',H'=(H*131+q+7) % 1073741824:=⟨_,rfl⟩;have hlt2:H'<2147483648:=by have:=Nat.mod_lt (H*131+q+7) (show 1073741824 > 0 by omega);omega
   have ec:((H*131+q+7:Nat):Int)=(H:Int)*131+(q:Int)+7:=by simp
   have e4:bits BinOp.and IntKind.i64 ((H:Int)*131+(q:Int)+7) 1073741823=(H':Int):=by
    rw[hH',←ec];exact YP (a:=H*131+q+7) (k:=30) (by decide) (by omega)
   have hHe':Hid (H'=x8 n (bs.take (k+1))):=by unfold Hid;rw[VO hkl,←hHe.out,hH',hq]
   have e5:IntKind.i64.wrap ((k:Int)+1)=(k:Int)+1:=by rw[IntKind.wrap_i64];omega
   clear hq hH' ec;go_wp2;exact⟨⟨by first|exact trivial|rfl,k+1,by omega,by go_num,H',by first|rfl|simp[e4],hlt2,hHe'⟩,by simp[intOf];omega⟩
  ·obtain rfl:k=n:=by omega
   have hv:Hid (H=x8 k bs):=by unfold Hid;rw[hHe.out,List.take_of_length_le (by rw[←HN.out];omega)]
   have k1:decide ((k:Int)<(k:Int))=false:=by simp
   go_wp2;go_ret;refine⟨_,rfl,qp _,⟨?_,Nat.zero_le _,_,?_,HT.out.below ((Below.refl _ _).alloc hBs _)⟩,by go_grown⟩
   ·show x8 k bs<_
    rw[←hv.out];exact hH
   ·rw[←hv.out]
    exact zo _ _
def Yh (n top:Nat):Nat:=if top<(2*top+2) / 3+n / 48 then top else (2*top+2) / 3+n / 48
theorem sizeD (p:Option Addr) (n c top:Nat) (w:World) (hn:n≤1048576) (ht:top≤1000):
  Calls Tryz.prog 30 #[.slice p n c,.int .i64 (top:Int)] w fun e w'=>e=.returned (.int .i64 (Yh n top:Int))∧w'=w:=by
 have e1:IntKind.i64.wrap (2*(top:Int))=2*(top:Int):=by rw[IntKind.wrap_i64];omega
 have e2:IntKind.i64.wrap (2*(top:Int)+2)=2*(top:Int)+2:=by rw[IntKind.wrap_i64];omega
 have e3:Int.tdiv (2*(top:Int)+2) 3=(((2*top+2) / 3:Nat):Int):=by rw[Int.tdiv_eq_ediv_of_nonneg (by omega)];omega
 have e4:Int.tdiv (n:Int) 48=((n / 48:Nat):Int):=by rw[Int.tdiv_eq_ediv_of_nonneg (by omega)];omega
 obtain⟨x,hx⟩:∃x,x=(2*top+2) / 3:=⟨_,rfl⟩;obtain⟨y,hy⟩:∃y,y=n / 48:=⟨_,rfl⟩;have HV:Hid (Yh n top=if top<x+y then top else x+y):=by unfold Hid Yh;rw[hx,hy]
 rw[←hx]at e3;rw[←hy]at e4;have hx1:x≤1000:=by omega
 have hy1:y≤100000:=by omega
 clear hx hy;have e5:IntKind.i64.wrap ((x:Int)+(y:Int))=(x:Int)+(y:Int):=by rw[IntKind.wrap_i64];omega
 by_cases h:top<x+y
 ·have t1:(top:Int)<(x:Int)+(y:Int):=by omega
  have HV2:Hid (Yh n top=top):=by unfold Hid;rw[HV.out,if_pos h]
  go_enter Tryz.func30,Tryz.ntmps30;go_wp2;go_ret;rw[HV2.out];exact⟨rfl,rfl⟩
 ·have t1:decide ((top:Int)<(x:Int)+(y:Int))=false:=by simp;omega
  have HV2:Hid (Yh n top=x+y):=by unfold Hid;rw[HV.out,if_neg h]
  go_enter Tryz.func30,Tryz.ntmps30;go_wp2;go_ret;rw[HV2.out];exact⟨by simp,rfl⟩
end Go.Proofs.YtbkajklninmhiaaGreatDoor.Draw
namespace Go.Proofs.YtbkajklninmhiaaGreatDoor.Syn
open Go Go.RowKit Mem
structure Po where
 (k v:Int) (n:List UInt8)
instance : Inhabited Po:=⟨⟨0,0,[]⟩⟩
def Po.cells (o:Po):List Value:=[.int .i64 o.k,.int .i64 o.v,.string ⟨o.n.toArray⟩]
theorem Po.len (v:Po):v.cells.length=3:=rfl
theorem Po.one (v:Po):v.cells.toArray.all (·.oneCell')=true:=by simp[Po.cells,Value.oneCell']
theorem Po.at {w:World} {b o:Nat} {v:Po} (h:w.rangeAt b o v.cells):w.cell? ⟨b,o,none⟩=some (.int .i64 v.k)∧w.cell? ⟨b,o+1,none⟩=some (.int .i64 v.v)∧w.cell? ⟨b,o+2,none⟩=some (.string ⟨v.n.toArray⟩):=
 ⟨h 0 _ rfl,h 1 _ rfl,h 2 _ rfl⟩
def tw:List (List UInt8):=[[],[],[],[59],[44],[40],[41],[46,46],[42],[43],[45],[60],[60,61],[61],[97,110,100],[111,114],[108,101,116],[101,97,99,104],[101,110,100],[115,117,109],[110,101,118,101,114],[97,112,97,114,116],[108,105,102,111],[114,105,100,101],[115,116,114,101,97,107],[109,105,110],[109,97,120],[105,102],[102,97,108,115,101],[116,114,117,101],[116,105,109,101],[108,101,103],[119,97,105,116],[100,105,115,116],[108,111,97,100],[115,105,122,101],[111,112,101,110],[99,108,111,115,101],[104,111,108,100],[114,111,111,109],[112,111,115],[112,105,99,107],[100,114,111,112],[102,114,111,109],[105,110],[116,104,101,110],[109,111,115,116],[110,111,116],[104,97,115],[115,107,105,108,108]]
def zG (m:Nat):List UInt8:=tw.getD m []
def rw:List (List UInt8):=tw.drop 14
def Xt (n:List UInt8):Bool:=rw.contains n
def wkF (n:List UInt8) (m:Nat):Nat→Nat
 |0=>2
 |f+1=>if n==zG m then m else wkF n (m+1) f
def wk (n:List UInt8):Nat:=wkF n 14 36
theorem XZ {n:List UInt8} {m f k:Nat} (hk:k<f) (h1:∀j,j<k→(n==zG (m+j))=false) (h2:(n==zG (m+k))=true):wkF n m f=m+k:=by
 induction f generalizing m k with
 |zero=>omega
 |succ f ih=>
  unfold wkF
  cases k with
  |zero=>rw[if_pos (by simpa using h2)];rfl
  |succ k=>
   rw[if_neg (by have:=h1 0 (by omega);simpa using this),ih (k:=k) (by omega) (fun j hj=>by have:=h1 (j+1) (by omega);rwa[Nat.add_right_comm,Nat.add_assoc m j 1]) (by rwa[Nat.add_right_comm,Nat.add_assoc m k 1])];omega
theorem W8 {n:List UInt8} {m f:Nat} (h1:∀j,j<f→(n==zG (m+j))=false):wkF n m f=2:=by
 induction f generalizing m with
 |zero=>rfl
 |succ f ih=>
  unfold wkF;rw[if_neg (by have:=h1 0 (by omega);simpa using this),ih (fun j hj=>by have:=h1 (j+1) (by omega);rwa[Nat.add_right_comm,Nat.add_assoc m j 1])]
theorem Vi (n:List UInt8):Xt n=true↔∃j,j<36∧(n==zG (14+j))=true:=by
 unfold Xt;rw[List.contains_iff_mem];constructor
 ·intro h
  obtain⟨j,hj,he⟩:=List.mem_iff_getElem.1 h;have h36:rw.length=36:=by decide
  refine⟨j,by omega,?_⟩
  have:zG (14+j)=rw[j]:=by
   unfold zG;rw[List.getD_eq_getElem?_getD,←List.getElem?_drop];show(rw[j]?).getD []=_;rw[List.getElem?_eq_getElem hj];rfl
  rw[this,he];simp
 ·rintro⟨j,hj,he⟩
  have h36:rw.length=36:=by decide
  have:zG (14+j)=rw[j]'(by omega):=by
   unfold zG;rw[List.getD_eq_getElem?_getD,←List.getElem?_drop];show(rw[j]?).getD []=_;rw[List.getElem?_eq_getElem (by omega)];rfl
  have he':n=zG (14+j):=by simpa using he
  rw[he',this];exact List.getElem_mem _
theorem Um (n:List UInt8):((wk n:Int)==2)= !Xt n:=by
 cases h:Xt n with
 |true=>
  obtain⟨j,hj,he⟩:=(Vi n).1 h
  have:wk n≠2:=by
   unfold wk
   have hex:∃k,k<36∧(n==zG (14+k))=true∧∀j,j<k→(n==zG (14+j))=false:=by
    induction j using Nat.strongRecOn with
    |ind j ih=>
     by_cases hall:∀i,i<j→(n==zG (14+i))=false
     ·exact⟨j,hj,he,hall⟩
     ·simp only[Classical.not_forall]at hall
      obtain⟨i,hi,hne⟩:=hall;exact ih i hi (by omega) (by simpa using hne)
   obtain⟨k,hk,h1,h2⟩:=hex;rw[XZ hk h2 h1];omega
  simp;omega
 |false=>
  have hall:∀j,j<36→(n==zG (14+j))=false:=fun j hj=>by
   cases hc:(n==zG (14+j))with
   |false=>rfl
   |true=>rw[(Vi n).2 ⟨j,hj,hc⟩]at h;cases h
  unfold wk;rw[W8 hall];rfl
def xi (c:UInt8):Bool:=97≤c.toNat&&c.toNat≤122
def Yp (c:UInt8):Bool:=48≤c.toNat&&c.toNat≤57
def wB (c:UInt8):Bool:=xi c||Yp c||c.toNat==95
def yj (n:List UInt8):Bool:=1≤n.length&&n.length≤16&&xi (n.getD 0 0)&&n.all wB&&!Xt n
def yr (k:Int):Int:=if k=1 then 999999999 else if k=3 then 12 else if k=4 then 15 else if k=5 then 15 else if k=6 then 1 else if k=9 then 7 else if k=10 then 2 else 0
def opB (o:Po):Bool:=decide (1≤o.k)&&decide (o.k≤10)&&decide (0≤o.v)&&decide (o.v≤yr o.k)&&(if o.k=2 then yj o.n else o.n==[])
def ar (o:Po):Nat:=if o.k=7∨o.k=8 then 1 else if o.k=9 then 2 else if o.k=10 then (if o.v=2 then 3 else 2)else 0
inductive Tr where
 |leaf (o:Po)
 |pre (o:Po) (a:Tr)
 |bin (o:Po) (a b:Tr)
 |two (o:Po) (a b:Tr)
 |three (o:Po) (a b c:Tr)
def Tr.op:Tr→Po
 |.leaf o|.pre o _|.bin o _ _|.two o _ _|.three o _ _ _=>o
def z9 (v:Int):Int:=if v=0 then 5 else if v=1∨v=2 then 4 else if v=6 then 2 else if v=7 then 1 else 3
def yS (o:Po):Int:=if o.k=9 then z9 o.v else if o.k=7∨o.k=8 then 6 else 7
def Tr.str (t:Tr):Int:=yS t.op
def lL (s:Int):Int:=if s=3 then 4 else s
def opn (n s least:Int):Int:=if s<least then n+1 else n
def Tr.nst:Tr→Int
 |.leaf _=>0
 |.pre _ a=>1+opn a.nst a.str 6
 |.bin o a b=>max (opn a.nst a.str (lL (z9 o.v))) (opn b.nst b.str (z9 o.v+1))
 |.two _ a b=>1+max a.nst b.nst
 |.three _ a b c=>1+max (max a.nst b.nst) c.nst
def mk (o:Po):List Tr→Tr
 |[a]=>.pre o a
 |[a,b]=>if o.k=9 then .bin o a b else .two o a b
 |[a,b,c]=>.three o a b c
 |_=>.leaf o
def stk (E:Nat→Po):Nat→Option (List Tr)
 |0=>some []
 |n+1=>(stk E n).bind fun s=>if opB (E n)=true∧ar (E n)≤s.length then some (s.take (s.length-ar (E n))++[mk (E n) (s.drop (s.length-ar (E n)))])else none
def yp (E:Nat→Po) (n:Nat):Bool:=match stk E n with
 |some [t]=>decide (t.nst≤64)
 |_=>false
theorem TC {E:Nat→Po} {m n:Nat} (h:stk E m=none) (hmn:m≤n):stk E n=none:=by
 induction n with
 |zero=>obtain rfl:m=0:=by omega
        exact h
 |succ n ih=>
  by_cases e:m=n+1
  ·rw[←e];exact h
  ·simp[stk,ih (by omega)]
end Go.Proofs.YtbkajklninmhiaaGreatDoor.Syn
