import Derived.Test.YtbkajklninmhiaaGreatDoorPm07
import Derived.WalkMore
import Derived.Deep.LoopGhost
set_option maxHeartbeats 3200000
set_option maxRecDepth 1000000
set_option linter.unusedVariables false
set_option linter.unusedSimpArgs false
open Nat renaming le_refl → qp
namespace Go.Proofs.YtbkajklninmhiaaGreatDoor.Par
open Go Go.RowKit Mem Syn Parse
attribute [local go_sem ↓] Go.wp_at_zero Go.wp_at_succ
def tkV (k:Tk):Value:=.agg #[.int .i64 (k.k:Int),.int .i64 (k.at':Int),.string ⟨k.n.toArray⟩,.int .i64 k.v]
theorem UA {t:List UInt8} {i:Nat} (hi:i<t.length) (m:Bool):skL m (t.drop i)=match m with
  |true=>if (t[i]).toNat=10 then skL false (t.drop (i+1))+1 else skL true (t.drop (i+1))+1
  |false=>if (t[i]).toNat=32∨(t[i]).toNat=10 then skL false (t.drop (i+1))+1 else if (t[i]).toNat=35 then skL true (t.drop (i+1))+1 else 0:=by
 rw[List.drop_eq_getElem_cons hi]
 cases m<;>rw[skL]
theorem TK {t:List UInt8} {i:Nat} (hi:t.length≤i) (m:Bool):skL m (t.drop i)=0:=by
 rw[List.drop_eq_nil_of_le hi];cases m<;>rfl
theorem YV {t:List UInt8} {i:Nat} (hi:i<t.length):t.drop i=t[i]::t.drop (i+1):=List.drop_eq_getElem_cons hi
theorem Qf {t:List UInt8} {i:Nat} (hi:t.length≤i):xy t i=(⟨0,i,[],0⟩,i):=by
 unfold xy;rw[List.drop_eq_nil_of_le hi]
theorem Qe {t:List UInt8} {i:Nat} (hi:i<t.length) (h:xi t[i]=true):xy t i=if (run (t.drop i)).length≤16 then (⟨wk (run (t.drop i)),i,run (t.drop i),0⟩,i+(run (t.drop i)).length)else (⟨51,i,[],0⟩,i):=by
 unfold xy;rw[YV hi];dsimp only;rw[if_pos h]
theorem Qg {t:List UInt8} {i:Nat} (hi:i<t.length) (h:xi t[i]=false) (h':Yp t[i]=true):xy t i=if plain (run (t.drop i))=true then (⟨1,i,[],dec (run (t.drop i))⟩,i+(run (t.drop i)).length)else (⟨51,i,[],0⟩,i):=by
 unfold xy;rw[YV hi];dsimp only;rw[if_neg (by rw[h];simp),if_pos h']
theorem Qd {t:List UInt8} {i:Nat} (hi:i<t.length) (h:xi t[i]=false) (h':Yp t[i]=false):xy t i=if yB (t.drop i)=0 then (⟨50,i,[],0⟩,i)else (⟨yB (t.drop i),i,[],0⟩,i+(zG (yB (t.drop i))).length):=by
 unfold xy;rw[YV hi];dsimp only;rw[if_neg (by rw[h];simp),if_neg (by rw[h'];simp)]
structure Nx (B b:Nat) (a:Option Addr) (c:Nat) (t:List UInt8) (z:Pz) (w:World) (J i:Nat) (m:Bool) (wr:World):Prop where
 px:Px B b a c t ⟨i,z.k,z.o,z.d⟩ wr
 gb:w.grownBy wr (some b)
 rb:wr.heap[w.heap.size]? =some (.cells #[.int .i64 0,.int .i64 0,.string ⟨#[]⟩,.int .i64 0] 48)
 sk:i+skL m (t.drop i)=J
theorem Nx.below {B b:Nat} {a:Option Addr} {c:Nat} {t:List UInt8} {z:Pz} {w:World} {J i:Nat} {m:Bool} {wr w':World} (h:Nx B b a c t z w J i m wr) (hb:Below wr.heap.size wr w'):Nx B b a c t z w J i m w':=
 ⟨h.px.below hb,zi h.gb (zD hb),zg h.rb hb,h.sk⟩
theorem Nx.step {B b:Nat} {a:Option Addr} {c:Nat} {t:List UInt8} {z:Pz} {w:World} {J i:Nat} {m:Bool} {wr:World} (h:Nx B b a c t z w J i m wr) (hlt:b<w.heap.size) {i':Nat} {x:Int} (hx:x=(i':Int)) (hi:i'≤t.length) {m':Bool} (hs:i'+skL m' (t.drop i')=J):Nx B b a c t z w J i' m' (wr.setCell ⟨b,1,none⟩ (.int .i64 x)):=
 ⟨h.px.set1 hx hi,zi h.gb (yJ _ _ _ _),zt h.rb (show w.heap.size≠b by omega) _,hs⟩
theorem nextI (B b:Nat) (a:Option Addr) (c:Nat) (t:List UInt8) (z:Pz) (w:World) (h:Px B b a c t z w) (x:Tk×Nat) (hx:x=lx t z.s):
  Calls Tryz.prog 82 #[.pointer (some ⟨b,0,none⟩)] w fun e w'=>
   (x.1.k<50→e=.returned (tkV x.1)∧Px B b a c t ⟨x.2,z.k,z.o,z.d⟩ w')∧(x.1.k=50→e=.panicked (flV 2 x.1.at'))∧(x.1.k=51→e=.panicked (flV 3 x.1.at'))∧w.grownBy w' (some b):=by
 have hsm:=h.sm;have hlt:=h.lt;obtain⟨J,hJ⟩:∃J,J=z.s+skL false (t.drop z.s):=⟨_,rfl⟩;have HX:Hid (x=xy t J):=by unfold Hid;rw[hx,lx,←hJ]
 obtain⟨W1,hW1⟩:∃W,W=w.alloc (.cells #[.int .i64 0,.int .i64 0,.string ⟨#[]⟩,.int .i64 0] 48):=⟨_,rfl⟩;have A1:Hid (Below w.heap.size w W1):=by rw[hW1];exact zd (Below.refl _ _) _
 have N1:Hid (Nx B b a c t z w J z.s false W1):=⟨h.below A1.out,zD A1.out,by rw[hW1];exact zo _ _,hJ.symm⟩;obtain⟨n,hn⟩:∃n,n=t.length:=⟨_,rfl⟩;have HN:=Hm hn;clear hx hJ h;rw[←hn]at hsm;clear hn;go_enter Tryz.func82,Tryz.ntmps82;go_wp2_with fail
 go_step3
 go_wp2_with fail
 go_step3
 go_wp2_with fail;rw[←hW1];clear hW1;go_loopg [3] (n-z.s) (fun k _ wr=>∃i,i≤n∧k=n-i∧Hid (Nx B b a c t z w J i false wr))
 case atStart=>exact⟨z.s,by rw[HN.out];exact N1.out.px.sz,rfl,N1⟩
 case round=>
  obtain⟨i,hi,rfl,hr⟩:=hrel;have x0:wr.cell? ⟨b,0,none⟩=some (.slice a n c):=by rw[zb hr.out.px.blk 0,HN.out];rfl
  have x1:wr.cell? ⟨b,1,none⟩=some (.int .i64 (i:Int)):=by rw[zb hr.out.px.blk 1];rfl
  have f1:=zc hr.out.px.blk 1;by_cases hin:i<n
  ·have k1:(i:Int)<(n:Int):=by omega
   have k0:(0:Int)≤(i:Int):=by omega
   have hit:i<t.length:=by rw[←HN.out];exact hin
   obtain⟨g,q,rfl,y0⟩:∃g q,a=some ⟨g,q,none⟩∧wr.cell? ⟨g,q+i,none⟩=some (.int .u8 ((t[i]).toNat:Int)):=by
    obtain⟨p,c',e,hc,hp,hrd⟩:=hr.out.px.txt.rd;injection e with e1 e2 e3;subst e1;exact hrd i hit
   obtain⟨u,hu⟩:∃u,u=t[i]:=⟨_,rfl⟩;rw[←hu]at y0;have skF:=UA hit false;have skT:=UA hit true;dsimp only at skF skT;rw[←hu]at skF skT;by_cases h32:u.toNat=32∨u.toNat=10
   ·rw[if_pos h32]at skF
    have hz:Hid (i+1+skL false (t.drop (i+1))=J):=by have:=hr.out.sk;unfold Hid;omega
    clear skF skT hu;have e9:IntKind.i64.wrap ((i:Int)+1)=(i:Int)+1:=by rw[IntKind.wrap_i64];omega
    by_cases h3:u.toNat=32
    ·have b1:((u.toNat:Int)==32)=true:=by simp;omega
     clear h3 h32;go_wp2_with fail;go_region;go_wp2_with fail;go_region;go_wp2_with fail
     go_roundg (n- (i+1))
     case measure=>omega
     case rel=>exact⟨i+1,by omega,rfl,(hr.out.step hlt (i':=i+1) (x:=(i:Int)+1) (by omega) (by omega) hz.out).below ((Below.refl _ _).drew.drew)⟩
    ·have b1:((u.toNat:Int)==32)=false:=by simp;omega
     have b2:((u.toNat:Int)==10)=true:=by simp;omega
     clear h3 h32;go_wp2_with fail;go_region;go_wp2_with fail;go_region;go_wp2_with fail
     go_roundg (n- (i+1))
     case measure=>omega
     case rel=>exact⟨i+1,by omega,rfl,(hr.out.step hlt (i':=i+1) (x:=(i:Int)+1) (by omega) (by omega) hz.out).below ((Below.refl _ _).drew.drew)⟩
   rw[if_neg h32]at skF;have b1:((u.toNat:Int)==32)=false:=by simp;omega
   have b2:((u.toNat:Int)==10)=false:=by simp;omega
   by_cases h35:u.toNat=35
   ·rw[if_pos h35]at skF
    have b3:((u.toNat:Int)==35)=true:=by simp;omega
    have hz:Hid (Nx B b (some ⟨g,q,none⟩) c t z w J i true wr):=⟨hr.out.px,hr.out.gb,hr.out.rb,by
     have h1:=hr.out.sk;rw[if_neg (by omega)]at skT
     omega⟩
    have HU:Hid ((t[i]).toNat≠10):=by unfold Hid;rw[←hu];omega
    clear skF skT hu h32 h35;go_wp2_with fail;go_region;go_wp2_with fail;go_region;go_wp2_with fail;go_loopg [] (n-i) (fun k wy=>∃i',i≤i'∧i'≤n∧k=n-i'∧Hid (Nx B b (some ⟨g,q,none⟩) c t z w J i' true wy))
    case atStart=>exact⟨i,qp _,hi,rfl,hz.out.below ((Below.refl _ _).drew.drew)⟩
    case round=>
     obtain⟨i',hii,hin',rfl,hr'⟩:=hrel;clear x0 x1 f1 y0 k1 k0 hr hz;have x0:wr.cell? ⟨b,0,none⟩=some (.slice (some ⟨g,q,none⟩) n c):=by rw[zb hr'.out.px.blk 0,HN.out];rfl
     have x1:wr.cell? ⟨b,1,none⟩=some (.int .i64 (i':Int)):=by rw[zb hr'.out.px.blk 1];rfl
     have f1:=zc hr'.out.px.blk 1;by_cases hlt':i'<n
     ·have k1:(i':Int)<(n:Int):=by omega
      have k0:(0:Int)≤(i':Int):=by omega
      have hit':i'<t.length:=by rw[←HN.out];exact hlt'
      have y0:wr.cell? ⟨g,q+i',none⟩=some (.int .u8 ((t[i']).toNat:Int)):=by
       obtain⟨p,c',e,hc,hp,hrd⟩:=hr'.out.px.txt.rd;injection e with e1 e2 e3;subst e1;exact hrd.at i' hit'
      obtain⟨v,hv⟩:∃v,v=t[i']:=⟨_,rfl⟩;have skF:=UA hit' false;have skT:=UA hit' true;dsimp only at skF skT;rw[←hv]at y0 skF skT;have HV:Hid ((t[i']).toNat=v.toNat):=by unfold Hid;rw[hv]
      clear hv;by_cases h10:v.toNat=10
      ·have c1:((v.toNat:Int)==10)=true:=by simp;omega
       rw[if_pos h10]at skT;rw[if_pos (Or.inr h10)]at skF;have hz:Hid (Nx B b (some ⟨g,q,none⟩) c t z w J i' false wr):=⟨hr'.out.px,hr'.out.gb,hr'.out.rb,by have:=hr'.out.sk;omega⟩;have hgt:i<i':=Nat.lt_of_le_of_ne hii (fun e=>by subst e;exact HU.out (HV.out.trans h10));clear skF skT h10;go_wp2_with fail;go_region;go_wp2_with fail;go_region;go_wp2_with fail
       go_roundg (n-i')
       case measure=>omega
       case rel=>exact⟨i',hin',rfl,hz.out.below ((Below.refl _ _).drew.drew)⟩
      ·have c1:((v.toNat:Int)==10)=false:=by simp;omega
       rw[if_neg h10]at skT;have hz:Hid (i'+1+skL true (t.drop (i'+1))=J):=by have:=hr'.out.sk;unfold Hid;omega
       have e9:IntKind.i64.wrap ((i':Int)+1)=(i':Int)+1:=by rw[IntKind.wrap_i64];omega
       clear skF skT h10;go_wp2_with fail;go_region;go_wp2_with fail;go_region;go_wp2_with fail
       go_roundg (n- (i'+1))
       case measure=>omega
       case rel=>exact⟨i'+1,by omega,by omega,rfl,(hr'.out.step hlt (i':=i'+1) (x:=(i':Int)+1) (by omega) (by omega) hz.out).below ((Below.refl _ _).drew.drew)⟩
     ·have k1:decide ((i':Int)<(n:Int))=false:=by simp;omega
      have hz:Hid (Nx B b (some ⟨g,q,none⟩) c t z w J i' false wr):=⟨hr'.out.px,hr'.out.gb,hr'.out.rb,by
       have:=hr'.out.sk;rw[TK (by rw[←HN.out];omega)]at this ⊢
       exact this⟩
      go_wp2_with fail;go_region;go_wp2_with fail
      go_roundg (n-i')
      case measure=>omega
      case rel=>exact⟨i',hin',rfl,hz.out.below ((Below.refl _ _).drew)⟩
   rw[if_neg h35]at skF;have b3:((u.toNat:Int)==35)=false:=by simp;omega
   have hJi:J=i:=by have:=hr.out.sk;omega
   have HR2:=Hm (hr.out.below ((Below.refl _ _).drew.drew))
   cases hl:xi u with
   |true=>
    have HXX:=HX.out;rw[hJi,Qe hit (by rw[←hu];exact hl)]at HXX;obtain⟨nm,hnm⟩:∃nm,nm=run (t.drop i):=⟨_,rfl⟩;rw[←hnm]at HXX;have HNM:=Hm hnm;clear hJi skF skT hu hnm h32 h35;by_cases h16:nm.length≤16
    ·rw[if_pos h16]at HXX
     have HXX:=Hm HXX;have hwk:=Un nm;go_wp2_with fail;go_region;go_wp2_with fail;go_region;go_wp2_with (first|(go_at_call 124;go_must (refine(xD u _).mono ?_;rintro e w2 ⟨rfl,rfl⟩;rw[hl]))|(go_at_call 125;go_must (refine(QP B b g q c t ⟨i,z.k,z.o,z.d⟩ _ HR2.out.px hit nm HNM.out).mono ?_;rintro e w3 ⟨p1,p2,g3⟩;obtain⟨rfl,p3⟩:=p1 h16;have P3:=Hm p3;clear p1 p2 p3;have R3:=Hm (zl HR2.out.rb g3 (by omega));have G3:=Hm (zi HR2.out.gb g3);clear g3;have r0:=(zb R3.out 0).trans rfl;have r1:=(zb R3.out 1).trans rfl;have r2:=(zb R3.out 2).trans rfl;have r3:=(zb R3.out 3).trans rfl;have q0:=zc R3.out 0;have q1:=zc R3.out 1;have q2:=zc R3.out 2;have q3:=zc R3.out 3)))
     (try rw[Exit.noGoto_ret])
     refine bodyPost_ret (by simp[results,Tryz.results82,go_sem,r0,r1,r2,r3];try rfl) rfl ?_;rw[HXX.out];have hBb:=P3.out.hB;exact⟨fun _=>⟨rfl,(((P3.out.other (by omega) (by omega)).other (by omega) (by omega)).other (by omega) (by omega)).other (by omega) (by omega)⟩,fun h=>absurd h (by dsimp only;omega),fun h=>absurd h (by dsimp only;omega),zr (zr (zr (zr G3.out (qp _)) (qp _)) (qp _)) (qp _)⟩
    ·rw[if_neg h16]at HXX
     have HXX:=Hm HXX;go_wp2_with fail;go_region;go_wp2_with fail;go_region;go_wp2_with (first|(go_at_call 124;go_must (refine(xD u _).mono ?_;rintro e w2 ⟨rfl,rfl⟩;rw[hl]))|(go_at_call 125;go_must (refine(QP B b g q c t ⟨i,z.k,z.o,z.d⟩ _ HR2.out.px hit nm HNM.out).mono ?_;rintro e w3 ⟨p1,p2,g3⟩;obtain rfl:=p2 (by omega);clear p1 p2)));rw[HXX.out];exact⟨rfl,fun h=>absurd h (by dsimp only;omega),fun h=>absurd h (by dsimp only;omega),fun _=>rfl,zi HR2.out.gb g3⟩
   |false=>
    cases hd:Yp u with
    |true=>
     have HXX:=HX.out;rw[hJi,Qg hit (by rw[←hu];exact hl) (by rw[←hu];exact hd)]at HXX;obtain⟨nm,hnm⟩:∃nm,nm=run (t.drop i):=⟨_,rfl⟩;rw[←hnm]at HXX;have HNM:=Hm hnm;clear hJi skF skT hu hnm h32 h35;by_cases h16:plain nm=true
     ·rw[if_pos h16]at HXX
      have HXX:=Hm HXX;go_wp2_with fail;go_region;go_wp2_with fail;go_region
      go_wp2_with (first|(go_at_call 124;go_must (refine(xD u _).mono ?_;rintro e w2 ⟨rfl,rfl⟩;rw[hl]))|(go_at_call 126;go_must (refine(Syn.digitI u _).mono ?_;rintro e w2 ⟨rfl,rfl⟩;rw[hd]))|(go_at_call 127;go_must (refine(UL B b g q c t ⟨i,z.k,z.o,z.d⟩ _ HR2.out.px hit nm HNM.out).mono ?_;rintro e w3 ⟨p1,p2,g3⟩;obtain⟨rfl,p3⟩:=p1 h16;have P3:=Hm p3;clear p1 p2 p3;have R3:=Hm (zl HR2.out.rb g3 (by omega));have G3:=Hm (zi HR2.out.gb g3);clear g3;have r0:=(zb R3.out 0).trans rfl;have r1:=(zb R3.out 1).trans rfl;have r2:=(zb R3.out 2).trans rfl;have r3:=(zb R3.out 3).trans rfl;have q0:=zc R3.out 0;have q1:=zc R3.out 1;have q2:=zc R3.out 2;have q3:=zc R3.out 3)))
      (try rw[Exit.noGoto_ret])
      refine bodyPost_ret (by simp[results,Tryz.results82,go_sem,r0,r1,r2,r3];try rfl) rfl ?_;rw[HXX.out];have hBb:=P3.out.hB;exact⟨fun _=>⟨rfl,(((P3.out.other (by omega) (by omega)).other (by omega) (by omega)).other (by omega) (by omega)).other (by omega) (by omega)⟩,fun h=>absurd h (by dsimp only;omega),fun h=>absurd h (by dsimp only;omega),zr (zr (zr (zr G3.out (qp _)) (qp _)) (qp _)) (qp _)⟩
     ·rw[if_neg h16]at HXX
      have HXX:=Hm HXX;go_wp2_with fail;go_region;go_wp2_with fail;go_region;go_wp2_with (first|(go_at_call 124;go_must (refine(xD u _).mono ?_;rintro e w2 ⟨rfl,rfl⟩;rw[hl]))|(go_at_call 126;go_must (refine(Syn.digitI u _).mono ?_;rintro e w2 ⟨rfl,rfl⟩;rw[hd]))|(go_at_call 127;go_must (refine(UL B b g q c t ⟨i,z.k,z.o,z.d⟩ _ HR2.out.px hit nm HNM.out).mono ?_;rintro e w3 ⟨p1,p2,g3⟩;obtain rfl:=p2 (by simpa using h16);clear p1 p2)));rw[HXX.out];exact⟨rfl,fun h=>absurd h (by dsimp only;omega),fun h=>absurd h (by dsimp only;omega),fun _=>rfl,zi HR2.out.gb g3⟩
    |false=>
     have HXX:=HX.out;rw[hJi,Qd hit (by rw[←hu];exact hl) (by rw[←hu];exact hd)]at HXX;obtain⟨nm,hnm⟩:∃nm,nm=t.drop i:=⟨_,rfl⟩;rw[←hnm]at HXX;have HNM:=Hm hnm;clear hJi skF skT hu hnm h32 h35;by_cases h16:yB nm=0
     ·rw[if_pos h16]at HXX
      have HXX:=Hm HXX;go_wp2_with fail;go_region;go_wp2_with fail;go_region;go_wp2_with (first|(go_at_call 124;go_must (refine(xD u _).mono ?_;rintro e w2 ⟨rfl,rfl⟩;rw[hl]))|(go_at_call 126;go_must (refine(Syn.digitI u _).mono ?_;rintro e w2 ⟨rfl,rfl⟩;rw[hd]))|(go_at_call 128;go_must (refine(Ur B b g q c t ⟨i,z.k,z.o,z.d⟩ _ HR2.out.px hit nm HNM.out).mono ?_;rintro e w3 ⟨p1,p2,g3⟩;obtain rfl:=p2 h16;clear p1 p2)));rw[HXX.out];exact⟨rfl,fun h=>absurd h (by dsimp only;omega),fun _=>rfl,fun h=>absurd h (by dsimp only;omega),zi HR2.out.gb g3⟩
     ·rw[if_neg h16]at HXX
      have HXX:=Hm HXX;have hsl:=Xh nm;go_wp2_with fail;go_region;go_wp2_with fail;go_region
      go_wp2_with (first|(go_at_call 124;go_must (refine(xD u _).mono ?_;rintro e w2 ⟨rfl,rfl⟩;rw[hl]))|(go_at_call 126;go_must (refine(Syn.digitI u _).mono ?_;rintro e w2 ⟨rfl,rfl⟩;rw[hd]))|(go_at_call 128;go_must (refine(Ur B b g q c t ⟨i,z.k,z.o,z.d⟩ _ HR2.out.px hit nm HNM.out).mono ?_;rintro e w3 ⟨p1,p2,g3⟩;obtain⟨rfl,p3⟩:=p1 h16;have P3:=Hm p3;clear p1 p2 p3;have R3:=Hm (zl HR2.out.rb g3 (by omega));have G3:=Hm (zi HR2.out.gb g3);clear g3;have r0:=(zb R3.out 0).trans rfl;have r1:=(zb R3.out 1).trans rfl;have r2:=(zb R3.out 2).trans rfl;have r3:=(zb R3.out 3).trans rfl;have q0:=zc R3.out 0;have q1:=zc R3.out 1;have q2:=zc R3.out 2;have q3:=zc R3.out 3)))
      (try rw[Exit.noGoto_ret])
      refine bodyPost_ret (by simp[results,Tryz.results82,go_sem,r0,r1,r2,r3];try rfl) rfl ?_;rw[HXX.out];have hBb:=P3.out.hB;exact⟨fun _=>⟨rfl,(((P3.out.other (by omega) (by omega)).other (by omega) (by omega)).other (by omega) (by omega)).other (by omega) (by omega)⟩,fun h=>absurd h (by dsimp only;omega),fun h=>absurd h (by dsimp only;omega),zr (zr (zr (zr G3.out (qp _)) (qp _)) (qp _)) (qp _)⟩
  ·have k1:decide ((i:Int)<(n:Int))=false:=by simp;omega
   have hJi:J=i:=by have:=hr.out.sk;rw[TK (by rw[←HN.out];omega)]at this;omega
   have HXX:=HX.out;rw[hJi,Qf (by rw[←HN.out];omega)]at HXX;have HXX:=Hm HXX;clear hJi;have r0:=(zb hr.out.rb 0).trans rfl;have r1:=(zb hr.out.rb 1).trans rfl;have r2:=(zb hr.out.rb 2).trans rfl;have r3:=(zb hr.out.rb 3).trans rfl;have q0:=zc hr.out.rb 0;have q1:=zc hr.out.rb 1;have q2:=zc hr.out.rb 2;have q3:=zc hr.out.rb 3;go_wp2_with fail;go_region;go_wp2_with fail;rw[Exit.noGoto_ret];refine bodyPost_ret (by simp[results,Tryz.results82,go_sem,r0,r1,r2,r3];try rfl) rfl ?_;rw[HXX.out];have P3:=Hm hr.out.px;have hBb:=P3.out.hB
   refine⟨fun _=>⟨rfl,Px.below ((((P3.out.other (by omega) (by omega)).other (by omega) (by omega)).other (by omega) (by omega)).other (by omega) (by omega)) (Below.refl _ _).drew⟩,fun h=>absurd h (by dsimp only;omega),fun h=>absurd h (by dsimp only;omega),zi (zr (zr (zr (zr hr.out.gb (qp _)) (qp _)) (qp _)) (qp _)) (zD (Below.refl _ _).drew)⟩
def PS (B b:Nat) (a:Option Addr) (c:Nat) (t:List UInt8) (i o d:Nat) (w:World):Prop:=Px B b a c t ⟨Zq t (i+1),tkT t i,o,d⟩ w
def Res {α:Type} (r:Rs α) (ok:α→Ending→World→Prop) (e:Ending) (w:World):Prop:=match r with
 |.out=>False
 |.bad c a=>e=.panicked (flV c a)
 |.ok x=>ok x e w
theorem Px.c2 {B b:Nat} {a:Option Addr} {c:Nat} {t:List UInt8} {z:Pz} {w:World} (h:Px B b a c t z w):w.cell? ⟨b,2,none⟩=some (.int .i64 (z.k.k:Int)):=by rw[zb h.blk 2];rfl
theorem Px.c3 {B b:Nat} {a:Option Addr} {c:Nat} {t:List UInt8} {z:Pz} {w:World} (h:Px B b a c t z w):w.cell? ⟨b,3,none⟩=some (.int .i64 (z.k.at':Int)):=by rw[zb h.blk 3];rfl
theorem Px.c4 {B b:Nat} {a:Option Addr} {c:Nat} {t:List UInt8} {z:Pz} {w:World} (h:Px B b a c t z w):w.cell? ⟨b,4,none⟩=some (.string ⟨z.k.n.toArray⟩):=by rw[zb h.blk 4];rfl
theorem Px.c5 {B b:Nat} {a:Option Addr} {c:Nat} {t:List UInt8} {z:Pz} {w:World} (h:Px B b a c t z w):w.cell? ⟨b,5,none⟩=some (.int .i64 z.k.v):=by rw[zb h.blk 5];rfl
theorem Px.c6 {B b:Nat} {a:Option Addr} {c:Nat} {t:List UInt8} {z:Pz} {w:World} (h:Px B b a c t z w):w.cell? ⟨b,6,none⟩=some (.int .i64 (z.o:Int)):=by rw[zb h.blk 6];rfl
theorem Px.c7 {B b:Nat} {a:Option Addr} {c:Nat} {t:List UInt8} {z:Pz} {w:World} (h:Px B b a c t z w):w.cell? ⟨b,7,none⟩=some (.int .i64 (z.d:Int)):=by rw[zb h.blk 7];rfl
theorem Px.fz {B b:Nat} {a:Option Addr} {c:Nat} {t:List UInt8} {z:Pz} {w:World} (h:Px B b a c t z w) (i:Nat):w.frozen? ⟨b,i,none⟩=false:=zc h.blk i
theorem Px.set6 {B b:Nat} {a:Option Addr} {c:Nat} {t:List UInt8} {z:Pz} {w:World} (h:Px B b a c t z w) {o:Nat} {x:Int} (hx:x=(o:Int)):Px B b a c t ⟨z.s,z.k,o,z.d⟩ (w.setCell ⟨b,6,none⟩ (.int .i64 x)):=by
 refine h.turn (yJ _ _ _ _) ?_ h.sz;have:=zq h.blk 6 (.int .i64 x);rw[hx]at this ⊢;simpa[pzC]using this
theorem Px.set7 {B b:Nat} {a:Option Addr} {c:Nat} {t:List UInt8} {z:Pz} {w:World} (h:Px B b a c t z w) {d:Nat} {x:Int} (hx:x=(d:Int)):Px B b a c t ⟨z.s,z.k,z.o,d⟩ (w.setCell ⟨b,7,none⟩ (.int .i64 x)):=by
 refine h.turn (yJ _ _ _ _) ?_ h.sz;have:=zq h.blk 7 (.int .i64 x);rw[hx]at this ⊢;simpa[pzC]using this
theorem Px.tok {B b:Nat} {a:Option Addr} {c:Nat} {t:List UInt8} {z:Pz} {w:World} (h:Px B b a c t z w) (k:Tk):Px B b a c t ⟨z.s,k,z.o,z.d⟩ ((((w.setCell ⟨b,2,none⟩ (.int .i64 (k.k:Int))).setCell ⟨b,3,none⟩ (.int .i64 (k.at':Int))).setCell ⟨b,4,none⟩ (.string ⟨k.n.toArray⟩)).setCell ⟨b,5,none⟩ (.int .i64 k.v))∧w.grownBy ((((w.setCell ⟨b,2,none⟩ (.int .i64 (k.k:Int))).setCell ⟨b,3,none⟩ (.int .i64 (k.at':Int))).setCell ⟨b,4,none⟩ (.string ⟨k.n.toArray⟩)).setCell ⟨b,5,none⟩ (.int .i64 k.v)) (some b):=by
 have hg:w.grownBy ((((w.setCell ⟨b,2,none⟩ (.int .i64 (k.k:Int))).setCell ⟨b,3,none⟩ (.int .i64 (k.at':Int))).setCell ⟨b,4,none⟩ (.string ⟨k.n.toArray⟩)).setCell ⟨b,5,none⟩ (.int .i64 k.v)) (some b):=zi (zi (zi (yJ _ _ _ _) (yJ _ _ _ _)) (yJ _ _ _ _)) (yJ _ _ _ _);refine⟨h.turn hg ?_ h.sz,hg⟩;have:=zq (zq (zq (zq h.blk 2 (.int .i64 (k.k:Int))) 3 (.int .i64 (k.at':Int))) 4 (.string ⟨k.n.toArray⟩)) 5 (.int .i64 k.v);simpa[pzC]using this
theorem Zx (B b:Nat) (a:Option Addr) (c:Nat) (t:List UInt8) (i o d:Nat) (w:World) (h:PS B b a c t i o d w) (x:Int):
  Calls Tryz.prog 47 #[.pointer (some ⟨b,0,none⟩),.int .i64 x] w fun e w'=>e=.panicked (flV x (tkT t i).at')∧Below w.heap.size w w':=by
 have x3:=Px.c3 h;dsimp only at x3;clear h;go_enter Tryz.func47,Tryz.ntmps47;go_wp2;exact⟨rfl,rfl,Below.refl _ _⟩
theorem advX (B b:Nat) (a:Option Addr) (c:Nat) (t:List UInt8) (z:Pz) (w:World) (h:Px B b a c t z w) (x:Tk×Nat) (hx:x=lx t z.s) (hk:x.1.k≤51):
  Calls Tryz.prog 45 #[.pointer (some ⟨b,0,none⟩)] w fun e w'=>(x.1.k<50→e=.returned (.tuple #[])∧Px B b a c t ⟨x.2,x.1,z.o,z.d⟩ w')∧(x.1.k=50→e=.panicked (flV 2 x.1.at'))∧(x.1.k=51→e=.panicked (flV 3 x.1.at'))∧w.grownBy w' (some b):=by
 have CN:=Hm (nextI B b a c t z w h x hx);clear hx h;by_cases h50:x.1.k<50
 ·go_enter Tryz.func45,Tryz.ntmps45
  go_wp2_with fail;refine CN.out.mono ?_;rintro e w1 ⟨i1,-,-,g1⟩;obtain⟨rfl,p1⟩:=i1 h50;clear i1;have P1:=Hm p1;have G1:=Hm g1;have y2:=p1.c2;have y3:=p1.c3;have y4:=p1.c4;have y5:=p1.c5;have f2:=p1.fz 2;have f3:=p1.fz 3;have f4:=p1.fz 4;have f5:=p1.fz 5;dsimp only at y2 y3 y4 y5;clear p1 g1;unfold tkV;go_wp2
  go_end0
  obtain⟨P2,G2⟩:=P1.out.tok x.1;exact⟨fun _=>⟨rfl,P2⟩,fun h=>absurd h (by omega),fun h=>absurd h (by omega),zi G1.out G2⟩
 ·go_enter Tryz.func45,Tryz.ntmps45
  go_wp2_with fail;refine CN.out.mono ?_;rintro e w1 ⟨p1,p2,p3,g1⟩;by_cases h51:x.1.k=50
  ·obtain rfl:=p2 h51
   exact⟨rfl,fun h=>absurd h h50,fun _=>rfl,fun h=>absurd h (by omega),g1⟩
  ·obtain rfl:=p3 (by omega)
   exact⟨rfl,fun h=>absurd h h50,fun h=>absurd h h51,fun _=>rfl,g1⟩
theorem ZS (B b:Nat) (a:Option Addr) (c:Nat) (t:List UInt8) (i o d:Nat) (w:World) (h:PS B b a c t i o d w):
  Calls Tryz.prog 45 #[.pointer (some ⟨b,0,none⟩)] w fun e w'=>Res (adv (tkT t) i) (fun j e w'=>e=.returned (.tuple #[])∧PS B b a c t j o d w') e w'∧w.grownBy w' (some b):=by
 refine(advX B b a c t ⟨Zq t (i+1),tkT t i,o,d⟩ w h (lx t (Zq t (i+1))) rfl (Yv t (i+1)).le).mono ?_;rintro e w' ⟨p1,p2,p3,g⟩;refine⟨?_,g⟩;unfold adv;by_cases h0:(tkT t (i+1)).k=50
 ·rw[if_pos h0];exact p2 h0
 ·rw[if_neg h0]
  by_cases h1:(tkT t (i+1)).k=51
  ·rw[if_pos h1];exact p3 h1
  ·rw[if_neg h1]
   have:=X5 t (i+1);exact p1 (show(tkT t (i+1)).k<50 by omega)
end Go.Proofs.YtbkajklninmhiaaGreatDoor.Par
