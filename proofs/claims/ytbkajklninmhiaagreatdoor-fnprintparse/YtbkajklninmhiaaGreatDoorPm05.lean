import Derived.Test.YtbkajklninmhiaaGreatDoorPm04
import Derived.Lib.QuietBelow
set_option maxHeartbeats 1600000
set_option linter.unusedVariables false
set_option linter.unusedSimpArgs false
open Nat renaming le_refl → qp
namespace Go.Proofs.YtbkajklninmhiaaGreatDoor.Syn
open Go Go.RowKit Mem
attribute [local go_sem ↓] Go.wp_at_zero Go.wp_at_succ
theorem XY (c:UInt8) (w:World):Calls Tryz.prog 49 #[.int .u8 (c.toNat:Int)] w fun e w'=>e=.returned (.bool (wB c))∧w'=w:=by
 have hc:=c.toNat_lt;obtain⟨z,hz⟩:∃z:Int,z=(c.toNat:Int):=⟨_,rfl⟩
 have hb:wB c=((decide (97≤z)&&decide (z≤122))||(decide (48≤z)&&decide (z≤57))||z==95):=by
  rw[Bool.eq_iff_iff];simp[wB,xi,Yp,hz];omega
 rw[hb,←hz];clear hb;have z0:0≤z:=by omega
 have z1:z<256:=by omega
 clear hz hc;have d:(97≤z∧z≤122)∨(97≤z∧¬z≤122)∨(¬97≤z∧48≤z∧z≤57)∨(¬97≤z∧48≤z∧¬z≤57)∨(¬97≤z∧¬48≤z):=by omega
 rcases d with⟨h1,h2⟩|⟨h1,h2⟩|⟨h1,h3,h4⟩|⟨h1,h3,h4⟩|⟨h1,h3⟩
 ·go_enter Tryz.func49,Tryz.ntmps49
  go_wp2;go_ret;exact⟨zJ (by simp[*]),rfl⟩
 ·have d2:decide (z≤122)=false:=by simpa using h2
  have h3:48≤z:=by omega
  have d4:decide (z≤57)=false:=by simp;omega
  go_enter Tryz.func49,Tryz.ntmps49;go_wp2;go_ret;exact⟨zJ (by simp[*]),rfl⟩
 ·have d1:decide (97≤z)=false:=by simpa using h1
  go_enter Tryz.func49,Tryz.ntmps49;go_wp2;go_ret;exact⟨zJ (by simp[*]),rfl⟩
 ·have d1:decide (97≤z)=false:=by simpa using h1
  have d4:decide (z≤57)=false:=by simpa using h4
  go_enter Tryz.func49,Tryz.ntmps49;go_wp2;go_ret;exact⟨zJ (by simp[*]),rfl⟩
 ·have d1:decide (97≤z)=false:=by simpa using h1
  have d3:decide (48≤z)=false:=by simpa using h3
  go_enter Tryz.func49,Tryz.ntmps49;go_wp2;go_ret;exact⟨zJ (by simp[*]),rfl⟩
theorem Re {n:List UInt8} {k:Nat} (hk:k<n.length) (h:wB (n[k])=false):n.all wB=false:=by
 cases ha:n.all wB with
 |false=>rfl
 |true=>rw[List.all_eq_true]at ha;rw[ha _ (List.getElem_mem hk)]at h;cases h
theorem Rc {n:List UInt8} (h:∀j (hj:j<n.length),wB (n[j])=true):n.all wB=true:=by
 rw[List.all_eq_true];intro x hx;obtain⟨j,hj,rfl⟩:=List.mem_iff_getElem.1 hx;exact h j hj
theorem zI (n:List UInt8) (w:World):Calls Tryz.prog 35 #[.string ⟨n.toArray⟩] w fun e w'=>e=.returned (.bool (yj n))∧w'=w:=by
 by_cases h1:(n.length:Int)<1
 ·have hv:yj n=false:=by simp[yj];omega
  rw[hv];clear hv;go_enter Tryz.func35,Tryz.ntmps35;go_wp2_with (go_at_call 52;refine(ZY n _).mono ?_;rintro e w' ⟨rfl,rfl⟩);go_ret;exact⟨rfl,rfl⟩
 have d1:decide ((n.length:Int)<1)=false:=by simpa using h1
 by_cases h2:(16:Int)<(n.length:Int)
 ·have hv:yj n=false:=by simp[yj];omega
  rw[hv];clear hv;go_enter Tryz.func35,Tryz.ntmps35;go_wp2_with (go_at_call 52;refine(ZY n _).mono ?_;rintro e w' ⟨rfl,rfl⟩);go_ret;exact⟨rfl,rfl⟩
 have d2:decide ((16:Int)<(n.length:Int))=false:=by simpa using h2
 cases h3:Xt n with
 |true=>
  have hv:yj n=false:=by simp[yj,h3]
  rw[hv];clear hv;go_enter Tryz.func35,Tryz.ntmps35;go_wp2_with (go_at_call 52;refine(ZY n _).mono ?_;rintro e w' ⟨rfl,rfl⟩);go_ret;exact⟨rfl,rfl⟩
 |false=>
  have hv:Hid (yj n=(n.all wB&&xi (n.getD 0 0))):=by
   unfold Hid yj;rw[h3,show decide (1≤n.length)=true by simp;omega,show decide (n.length≤16)=true by simp;omega];simp[Bool.and_comm]
  go_enter Tryz.func35,Tryz.ntmps35;go_wp2_with (go_at_call 52;refine(ZY n _).mono ?_;rintro e w' ⟨rfl,hw⟩;rw[hw];clear hw)
  go_loop [3] (fun i=>∃k:Nat,k≤n.length∧i=.int .i64 (k:Int)∧Hid (∀j (hj:j<n.length),j<k→wB (n[j])=true)) (fun i=>n.length- (intOf i).toNat)
  case atStart=>exact⟨0,by omega,rfl,fun j hj hk=>by omega⟩
  case round=>
   obtain⟨k,hk,rfl,ha⟩:=hrel;by_cases hlt:k<n.length
   ·have k0:(0:Int)≤(k:Int):=by omega
    have k1:(k:Int)<(n.length:Int):=by omega
    cases hb:wB (n[k])with
    |false=>
     have hf:Hid (yj n=false):=by unfold Hid;rw[hv.out,Re hlt hb];rfl
     go_wp2_with (go_at_call 49;refine(XY (n[k]) _).mono ?_;rintro e w' ⟨rfl,hw⟩;rw[hw];clear hw);go_ret;rw[hf.out];exact⟨rfl,rfl⟩
    |true=>
     have hf:Hid (∀j (hj:j<n.length),j<k+1→wB (n[j])=true):=fun j hj hjk=>by
      by_cases e:j=k
      ·subst e;exact hb
      ·exact ha.out j hj (by omega)
     go_wp2_with (go_at_call 49;refine(XY (n[k]) _).mono ?_;rintro e w' ⟨rfl,hw⟩;rw[hw];clear hw);exact⟨⟨k+1,by omega,by go_num,hf⟩,by simp[intOf];omega⟩
   ·have hf:Hid (yj n=xi (n.getD 0 0)):=by unfold Hid;rw[hv.out,Rc (fun j hj=>ha.out j hj (by omega))];rfl
    have k1:decide ((k:Int)<(n.length:Int))=false:=by simp;omega
    have p0:0<n.length:=by omega
    have i0:(0:Int)<(n.length:Int):=by omega
    have hg:Hid (n.getD 0 0=n[0]):=by unfold Hid;simp[p0]
    by_cases h9:(97:Int)≤((n[0]).toNat:Int)
    ·go_wp2
     go_ret;rw[hf.out,hg.out];exact⟨zJ (by show decide (((n[0]).toNat:Int)≤122)=xi (n[0]);rw[Bool.eq_iff_iff];simp[xi];omega),rfl⟩
    ·have h9':decide ((97:Int)≤((n[0]).toNat:Int))=false:=by simpa using h9
     go_wp2;go_ret;rw[hf.out,hg.out];exact⟨zJ (by rw[Bool.eq_iff_iff];simp[xi];omega),rfl⟩
theorem xD (c:UInt8) (w:World):Calls Tryz.prog 124 #[.int .u8 (c.toNat:Int)] w fun e w'=>e=.returned (.bool (xi c))∧w'=w:=by
 have hc:=c.toNat_lt;by_cases h1:(97:Int)≤(c.toNat:Int)
 ·go_enter Tryz.func124,Tryz.ntmps124
  go_wp2;go_ret;exact⟨zJ (by rw[Bool.eq_iff_iff];simp[xi];omega),rfl⟩
 ·have d:decide ((97:Int)≤(c.toNat:Int))=false:=by simpa using h1
  go_enter Tryz.func124,Tryz.ntmps124;go_wp2;go_ret;exact⟨zJ (by rw[Bool.eq_iff_iff];simp[xi];omega),rfl⟩
theorem digitI (c:UInt8) (w:World):Calls Tryz.prog 126 #[.int .u8 (c.toNat:Int)] w fun e w'=>e=.returned (.bool (Yp c))∧w'=w:=by
 have hc:=c.toNat_lt;by_cases h1:(48:Int)≤(c.toNat:Int)
 ·go_enter Tryz.func126,Tryz.ntmps126
  go_wp2;go_ret;exact⟨zJ (by rw[Bool.eq_iff_iff];simp[Yp];omega),rfl⟩
 ·have d:decide ((48:Int)≤(c.toNat:Int))=false:=by simpa using h1
  go_enter Tryz.func126,Tryz.ntmps126;go_wp2;go_ret;exact⟨zJ (by rw[Bool.eq_iff_iff];simp[Yp];omega),rfl⟩
theorem ZV (c:UInt8) (w:World):Calls Tryz.prog 138 #[.int .u8 (c.toNat:Int)] w fun e w'=>e=.returned (.bool (wB c))∧w'=w:=by
 have hb:wB c=((xi c||Yp c)||((c.toNat:Int)==95)):=by
  have:(((c.toNat:Int))==95)=(c.toNat==95):=by rw[Bool.eq_iff_iff];simp;omega
  rw[this];rfl
 rw[hb];clear hb
 cases h1:xi c with
 |true=>
  go_enter Tryz.func138,Tryz.ntmps138;go_wp2_with (first|(go_at_call 124;refine(xD c _).mono ?_;rintro e w' ⟨rfl,hw⟩;rw[hw];clear hw)|(go_at_call 126;refine(digitI c _).mono ?_;rintro e w' ⟨rfl,hw⟩;rw[hw];clear hw));go_ret;exact⟨zJ (by simp[*]),rfl⟩
 |false=>
  cases h2:Yp c with
  |true=>
   go_enter Tryz.func138,Tryz.ntmps138;go_wp2_with (first|(go_at_call 124;refine(xD c _).mono ?_;rintro e w' ⟨rfl,hw⟩;rw[hw];clear hw)|(go_at_call 126;refine(digitI c _).mono ?_;rintro e w' ⟨rfl,hw⟩;rw[hw];clear hw));go_ret;exact⟨zJ (by simp[*]),rfl⟩
  |false=>
   go_enter Tryz.func138,Tryz.ntmps138;go_wp2_with (first|(go_at_call 124;refine(xD c _).mono ?_;rintro e w' ⟨rfl,hw⟩;rw[hw];clear hw)|(go_at_call 126;refine(digitI c _).mono ?_;rintro e w' ⟨rfl,hw⟩;rw[hw];clear hw));go_ret;exact⟨zJ (by simp[*]),rfl⟩
def Xg (w:World):Prop:=∀m,m<50→w.cell? ⟨0,m,none⟩=some (.string ⟨(zG m).toArray⟩)
theorem Xg.below {w w':World} (h:Xg w) (hb:Below w.heap.size w w'):Xg w':=fun m hm=>zB hb (h m hm)
theorem XX (n:List UInt8) (w:World) (hT:Xg w):Calls Tryz.prog 139 #[.string ⟨n.toArray⟩] w fun e w'=>e=.returned (.int .i64 (wk n:Int))∧w'=w:=by
 have HT:=Hm hT;clear hT;go_enter Tryz.func139,Tryz.ntmps139;go_wp2
 go_loop [3] (fun i=>∃k:Nat,k≤36∧i=.int .i64 ((14+k:Nat):Int)∧Hid (∀j,j<k→(n==zG (14+j))=false)) (fun i=>50- (intOf i).toNat)
 case atStart=>exact⟨0,by omega,rfl,fun j hj=>by omega⟩
 case round=>
  obtain⟨k,hk,rfl,ha⟩:=hrel;obtain⟨m,hm⟩:∃m,m=14+k:=⟨_,rfl⟩;rw[←hm];have HM:=Hm hm;have hm36:m<50→k<36:=by omega
  have hm37:¬m<50→k=36:=by omega
  clear hm;by_cases hlt:m<50
  ·have e0:=HT.out m hlt
   have k0:(0:Int)≤(m:Int):=by omega
   have k1:(m:Int)<50:=by omega
   cases he:(n==zG m)with
   |true=>
    have hv:Hid (wk n=m):=by
     unfold Hid wk;rw[HM.out]at he ⊢;exact XZ (hm36 hlt) ha.out he
    go_wp2;go_ret;rw[hv.out];exact⟨rfl,rfl⟩
   |false=>
    have hv:Hid (∀j,j<k+1→(n==zG (14+j))=false):=fun j hj=>by
     by_cases e:j=k
     ·rw[e,←HM.out];exact he
     ·exact ha.out j (by omega)
    go_wp2;exact⟨⟨k+1,hm36 hlt,by rw[HM.out];go_num,hv⟩,by simp[intOf];omega⟩
  ·have hv:Hid (wk n=2):=by
    unfold Hid wk;exact W8 (fun j hj=>ha.out j (by have:=hm37 hlt;omega))
   have k1:decide ((m:Int)<50)=false:=by simp;omega
   go_wp2;go_ret;rw[hv.out];exact⟨rfl,rfl⟩
theorem Xp (n:List UInt8) (w:World) (hT:Xg w):Calls Tryz.prog 112 #[.string ⟨n.toArray⟩] w fun e w'=>e=.returned (.bool (yj n))∧w'=w:=by
 have HT:=Hm hT;clear hT;by_cases h1:n.length=0
 ·have hv:yj n=false:=by simp[yj];omega
  rw[hv];clear hv;have d1:((n.length:Int)==0)=true:=by simp[h1]
  go_enter Tryz.func112,Tryz.ntmps112;go_wp2_with fail;go_ret;exact⟨rfl,rfl⟩
 have d1:((n.length:Int)==0)=false:=by simp;intro e;exact h1 (by rw[e];rfl)
 by_cases h2:(16:Int)<(n.length:Int)
 ·have hv:yj n=false:=by simp[yj];omega
  rw[hv];clear hv;go_enter Tryz.func112,Tryz.ntmps112;go_wp2_with fail;go_ret;exact⟨rfl,rfl⟩
 have d2:decide ((16:Int)<(n.length:Int))=false:=by simpa using h2
 have p0:0<n.length:=by omega
 have i0:(0:Int)<(n.length:Int):=by omega
 have hg:Hid (n.getD 0 0=n[0]):=by unfold Hid;simp[p0]
 cases h3:xi (n[0])with
 |false=>
  have hv:yj n=false:=by unfold yj;rw[hg.out,h3];simp
  rw[hv];clear hv;go_enter Tryz.func112,Tryz.ntmps112;go_wp2_with (go_at_call 124;refine(xD (n[0]) _).mono ?_;rintro e w' ⟨rfl,hw⟩;rw[hw];clear hw);go_ret;exact⟨rfl,rfl⟩
 |true=>
  have hv:Hid (yj n=(n.all wB&&!Xt n)):=by
   unfold Hid yj;rw[hg.out,h3,show decide (1≤n.length)=true by simp;omega,show decide (n.length≤16)=true by simp;omega];simp
  go_enter Tryz.func112,Tryz.ntmps112;go_wp2_with (go_at_call 124;refine(xD (n[0]) _).mono ?_;rintro e w' ⟨rfl,hw⟩;rw[hw];clear hw)
  go_loop [20] (fun i=>∃k:Nat,k≤n.length∧i=.int .i64 (k:Int)∧Hid (∀j (hj:j<n.length),j<k→wB (n[j])=true)) (fun i=>n.length- (intOf i).toNat)
  case atStart=>exact⟨0,by omega,rfl,fun j hj hk=>by omega⟩
  case round=>
   obtain⟨k,hk,rfl,ha⟩:=hrel;by_cases hlt:k<n.length
   ·have k0:(0:Int)≤(k:Int):=by omega
    have k1:(k:Int)<(n.length:Int):=by omega
    cases hb:wB (n[k])with
    |false=>
     have hf:Hid (yj n=false):=by unfold Hid;rw[hv.out,Re hlt hb];rfl
     go_wp2_with (go_at_call 138;refine(ZV (n[k]) _).mono ?_;rintro e w' ⟨rfl,hw⟩;rw[hw];clear hw);go_ret;rw[hf.out];exact⟨rfl,rfl⟩
    |true=>
     have hf:Hid (∀j (hj:j<n.length),j<k+1→wB (n[j])=true):=fun j hj hjk=>by
      by_cases e:j=k
      ·subst e;exact hb
      ·exact ha.out j hj (by omega)
     go_wp2_with (go_at_call 138;refine(ZV (n[k]) _).mono ?_;rintro e w' ⟨rfl,hw⟩;rw[hw];clear hw);exact⟨⟨k+1,by omega,by go_num,hf⟩,by simp[intOf];omega⟩
   ·have hf:Hid (yj n=((wk n:Int)==2)):=by unfold Hid;rw[hv.out,Rc (fun j hj=>ha.out j hj (by omega)),Um];rfl
    have k1:decide ((k:Int)<(n.length:Int))=false:=by simp;omega
    go_wp2_with (go_at_call 139;refine(XX n _ HT.out).mono ?_;rintro e w' ⟨rfl,hw⟩;rw[hw];clear hw);go_ret;rw[hf.out];exact⟨rfl,rfl⟩
def inR (x lo hi:Int):Bool:=decide (lo≤x)&&decide (x≤hi)
theorem V0 (x lo hi:Int) (w:World):Calls Tryz.prog 75 #[.int .i64 x,.int .i64 lo,.int .i64 hi] w fun e w'=>e=.returned (.bool (inR x lo hi))∧w'=w:=by
 by_cases h1:lo≤x
 ·go_enter Tryz.func75,Tryz.ntmps75
  go_wp2;go_ret;exact⟨zJ (by simp[inR,h1]),rfl⟩
 ·have hd:decide (lo≤x)=false:=by simpa using h1
  go_enter Tryz.func75,Tryz.ntmps75;go_wp2;go_ret;exact⟨zJ (by simp[inR,hd]),rfl⟩
theorem ym (x lo hi:Int) (w:World):Calls Tryz.prog 34 #[.int .i64 x,.int .i64 lo,.int .i64 hi] w fun e w'=>e=.returned (.bool (inR x lo hi))∧w'=w:=by
 by_cases h1:lo≤x
 ·go_enter Tryz.func34,Tryz.ntmps34
  go_wp2;go_ret;exact⟨zJ (by simp[inR,h1]),rfl⟩
 ·have hd:decide (lo≤x)=false:=by simpa using h1
  go_enter Tryz.func34,Tryz.ntmps34;go_wp2;go_ret;exact⟨zJ (by simp[inR,hd]),rfl⟩
theorem Xm (x lo hi:Int):inR x lo hi=true↔lo≤x∧x≤hi:=by simp[inR]
theorem Xx {o:Po} (h:o.k=2):opB o=(o.v==0&&yj o.n):=by
 unfold opB yr;rw[if_pos h,h];rw[Bool.eq_iff_iff];simp;omega
theorem YB {o:Po} (h:¬(1≤o.k∧o.k≤10)):opB o=false:=by
 unfold opB
 cases hh:(decide (1≤o.k)&&decide (o.k≤10))with
 |false=>rfl
 |true=>simp at hh;omega
theorem ZZ {o:Po} (h1:1≤o.k) (h2:o.k≤10) (h3:o.k≠2):opB o=(inR o.v 0 (yr o.k)&&o.n==[]):=by
 unfold opB inR;rw[if_neg h3];simp[h1,h2]
def Uk (w:World):Prop:=∀m:Nat,m<11→w.cell? ⟨2,m,none⟩=some (.int .i64 (yr m))
theorem Uk.below {w w':World} (h:Uk w) (hb:Below w.heap.size w w'):Uk w':=fun m hm=>zB hb (h m hm)
theorem Tp (o:Po) (w:World) (hW:Xg w) (hO:Uk w):Calls Tryz.prog 115 #[.agg #[.int .i64 o.k,.int .i64 o.v,.string ⟨o.n.toArray⟩]] w fun e w'=>e=.returned (.bool (opB o))∧Below w.heap.size w w':=by
 have HW:=Hm hW;have HO:=Hm hO;clear hW hO;obtain⟨k,v,n⟩:=o;simp only
 cases hp:inR k 1 10 with
 |false=>
  have hv:opB ⟨k,v,n⟩=false:=YB (by have:=Xm k 1 10;rw[hp]at this;simpa using this);rw[hv];clear hv;go_enter Tryz.func115,Tryz.ntmps115;go_wp2
  go_quiet ((go_at_call 75;exact Calls.quiet_of_same (V0 _ _ _ _)))
  go_wp2;go_ret;exact⟨rfl,below_drewN' (by go_grown) _⟩
 |true=>
  have hk:=(Xm k 1 10).1 hp;obtain⟨m,rfl⟩:∃m:Nat,k=(m:Int):=⟨k.toNat,by omega⟩;have m0:m<11:=by omega
  have i0:(0:Int)≤(m:Int):=by omega
  have i1:(m:Int)<11:=by omega
  have t0:=HO.out m m0;have g5:=lt_of_cell t0
  cases hq:inR v 0 (yr m)with
  |false=>
   have hv:opB ⟨m,v,n⟩=false:=by
    by_cases h2:(m:Int)=2
    ·rw[Xx (o:=⟨m,v,n⟩) h2]
     have hv0:(v==0)=false:=by
      rw[h2]at hq;simp[inR,yr]at hq;simp;omega
     simp[hv0]
    ·rw[ZZ (o:=⟨m,v,n⟩) hk.1 hk.2 h2,hq];rfl
   rw[hv];clear hv;go_enter Tryz.func115,Tryz.ntmps115;go_wp2
   go_quiet ((go_at_call 75;exact Calls.quiet_of_same (V0 _ _ _ _)))
   go_wp2;go_ret;exact⟨rfl,below_drewN' (by go_grown) _⟩
  |true=>
   by_cases h2:m=2
   ·subst h2
    have hv:Hid (opB ⟨(2:Nat),v,n⟩=yj n):=by
     have hv0:v=0:=by simp[inR,yr]at hq;omega
     unfold Hid;rw[Xx (o:=⟨(2:Nat),v,n⟩) rfl,hv0];simp
    have hp':inR 2 1 10=true:=by decide
    have hq':inR v 0 (yr 2)=true:=hq;clear hp hq;go_enter Tryz.func115,Tryz.ntmps115;go_wp2
    go_quiet ((go_at_call 75;exact Calls.quiet_of_same (V0 _ _ _ _)))
    clear t0;go_wp2_with fail;refine(Xp n _ ((HW.out.below (Below.alloc (Below.refl _ _) (qp _) _)).below (below_drewN' (Below.refl _ _) _))).mono ?_;rintro e w' ⟨rfl,hw⟩;rw[hw];clear hw;go_wp2;go_ret;rw[hv.out];exact⟨rfl,below_drewN' (by go_grown) _⟩
   ·have hv:Hid (opB ⟨m,v,n⟩=(n==[])):=by
     unfold Hid;rw[ZZ (o:=⟨m,v,n⟩) hk.1 hk.2 (show(m:Int)≠2 by omega),hq];rfl
    have e2:((m:Int)==2)=false:=by simp;omega
    go_enter Tryz.func115,Tryz.ntmps115;go_wp2
    go_quiet ((go_at_call 75;exact Calls.quiet_of_same (V0 _ _ _ _)))
    clear t0;go_wp2;go_ret;rw[hv.out];exact⟨zJ (by cases n<;>rfl),below_drewN' (by go_grown) _⟩
theorem Qs (o:Po) (w:World):Calls Tryz.prog 110 #[.agg #[.int .i64 o.k,.int .i64 o.v,.string ⟨o.n.toArray⟩]] w fun e w'=>e=.returned (.bool (opB o))∧Below w.heap.size w w':=by
 obtain⟨k,v,n⟩:=o;simp only;by_cases h2:k=2
 ·subst h2
  have hv:Hid (opB ⟨2,v,n⟩=(v==0&&yj n)):=Xx (o:=⟨2,v,n⟩) rfl
  cases hv0:(v==0)with
  |false=>
   go_enter Tryz.func110,Tryz.ntmps110;go_wp2_with (go_at_call 35;refine(zI n _).mono ?_;rintro e w' ⟨rfl,hw⟩;rw[hw];clear hw);go_ret;rw[hv.out];exact⟨zJ (by simp[hv0]),by go_grown⟩
  |true=>
   go_enter Tryz.func110,Tryz.ntmps110;go_wp2_with (go_at_call 35;refine(zI n _).mono ?_;rintro e w' ⟨rfl,hw⟩;rw[hw];clear hw);go_ret;rw[hv.out];exact⟨zJ (by simp[hv0]),by go_grown⟩
 have e2:(k==2)=false:=by simpa using h2
 cases hn:(n==[])with
 |false=>
  have hv:opB ⟨k,v,n⟩=false:=by
   by_cases hk:1≤k∧k≤10
   ·rw[ZZ (o:=⟨k,v,n⟩) hk.1 hk.2 h2,hn];simp
   ·exact YB hk
  rw[hv];clear hv;go_enter Tryz.func110,Tryz.ntmps110;go_wp2_with fail;go_ret;exact⟨rfl,by go_grown⟩
 |true=>
  by_cases hk:1≤k∧k≤10
  ·have hv:Hid (opB ⟨k,v,n⟩=inR v 0 (yr k)):=by unfold Hid;rw[ZZ (o:=⟨k,v,n⟩) hk.1 hk.2 h2,hn];simp
   have:k=1∨k=3∨k=4∨k=5∨k=6∨k=7∨k=8∨k=9∨k=10:=by omega
   rcases this with rfl|rfl|rfl|rfl|rfl|rfl|rfl|rfl|rfl
   all_goals
    go_enter Tryz.func110,Tryz.ntmps110;go_wp2_with (go_at_call 34;refine(ym _ _ _ _).mono ?_;rintro e w' ⟨rfl,hw⟩;rw[hw];clear hw);go_ret;rw[hv.out];exact⟨zJ (by first|rfl|(rw[Bool.eq_iff_iff];simp[inR,yr];omega)),by go_grown⟩
  ·have hv:opB ⟨k,v,n⟩=false:=YB hk
   rw[hv];clear hv;have f1:(k==1)=false:=by simp;omega
   have f3:(k==3)=false:=by simp;omega
   have f4:(k==4)=false:=by simp;omega
   have f5:(k==5)=false:=by simp;omega
   have f6:(k==6)=false:=by simp;omega
   have f7:(k==7)=false:=by simp;omega
   have f8:(k==8)=false:=by simp;omega
   have f9:(k==9)=false:=by simp;omega
   have f10:(k==10)=false:=by simp;omega
   go_enter Tryz.func110,Tryz.ntmps110;go_wp2_with fail;go_ret;exact⟨rfl,by go_grown⟩
theorem arityS (o:Po) (w:World) (h:opB o=true):Calls Tryz.prog 73 #[.agg #[.int .i64 o.k,.int .i64 o.v,.string ⟨o.n.toArray⟩]] w fun e w'=>e=.returned (.int .i64 (ar o:Int))∧Below w.heap.size w w':=by
 obtain⟨k,v,n⟩:=o
 have hk:1≤k∧k≤10:=by
  by_cases hk:1≤k∧k≤10
  ·exact hk
  ·rw[YB (o:=⟨k,v,n⟩) hk]at h;cases h
 clear h;simp only;by_cases h6:k≤6
 ·have hv:Hid (ar ⟨k,v,n⟩=0):=by unfold Hid ar;simp only;rw[if_neg (by omega),if_neg (by omega),if_neg (by omega)]
  go_enter Tryz.func73,Tryz.ntmps73;go_wp2;go_ret;rw[hv.out];exact⟨rfl,by go_grown⟩
 have:k=7∨k=8∨k=9∨k=10:=by omega
 clear h6 hk;rcases this with rfl|rfl|rfl|rfl
 ·have hv:Hid (ar ⟨7,v,n⟩=1):=by unfold Hid ar;simp
  go_enter Tryz.func73,Tryz.ntmps73;go_wp2;go_ret;rw[hv.out];exact⟨rfl,by go_grown⟩
 ·have hv:Hid (ar ⟨8,v,n⟩=1):=by unfold Hid ar;simp
  go_enter Tryz.func73,Tryz.ntmps73;go_wp2;go_ret;rw[hv.out];exact⟨rfl,by go_grown⟩
 ·have hv:Hid (ar ⟨9,v,n⟩=2):=by unfold Hid ar;simp
  go_enter Tryz.func73,Tryz.ntmps73;go_wp2;go_ret;rw[hv.out];exact⟨rfl,by go_grown⟩
 ·cases hq:(v==2)with
  |true=>
   have hv:Hid (ar ⟨10,v,n⟩=3):=by unfold Hid ar;simp at hq;simp[hq]
   have hq':(v !=2)=false:=by simpa using hq
   go_enter Tryz.func73,Tryz.ntmps73;go_wp2;go_ret;rw[hv.out];exact⟨rfl,by go_grown⟩
  |false=>
   have hv:Hid (ar ⟨10,v,n⟩=2):=by unfold Hid ar;simp at hq;simp[hq]
   have hq':(v !=2)=true:=by simpa using hq
   go_enter Tryz.func73,Tryz.ntmps73;go_wp2;go_ret;rw[hv.out];exact⟨rfl,by go_grown⟩
def cop (v:Int):Int:=if v=2 then 3 else 2
theorem VD (v:Int) (w:World):Calls Tryz.prog 140 #[.int .i64 v] w fun e w'=>e=.returned (.int .i64 (cop v))∧w'=w:=by
 cases hq:(v==2)with
 |true=>
  have hv:Hid (cop v=3):=by unfold Hid cop;rw[if_pos (by simpa using hq)]
  go_enter Tryz.func140,Tryz.ntmps140;go_wp2;go_ret
  (rw[hv.out];exact⟨rfl,rfl⟩)
 |false=>
  have hv:Hid (cop v=2):=by unfold Hid cop;rw[if_neg (by simpa using hq)]
  go_enter Tryz.func140,Tryz.ntmps140;go_wp2;go_ret
  (rw[hv.out];exact⟨rfl,rfl⟩)
theorem countI (o:Po) (w:World):Calls Tryz.prog 114 #[.agg #[.int .i64 o.k,.int .i64 o.v,.string ⟨o.n.toArray⟩]] w fun e w'=>e=.returned (.int .i64 (ar o:Int))∧Below w.heap.size w w':=by
 obtain⟨k,v,n⟩:=o;simp only;by_cases h7:k=7
 ·subst h7
  go_enter Tryz.func114,Tryz.ntmps114;go_wp2;go_ret;exact⟨rfl,by go_grown⟩
 by_cases h8:k=8
 ·subst h8
  go_enter Tryz.func114,Tryz.ntmps114;go_wp2;go_ret;exact⟨rfl,by go_grown⟩
 by_cases h9:k=9
 ·subst h9
  go_enter Tryz.func114,Tryz.ntmps114;go_wp2;go_ret;exact⟨rfl,by go_grown⟩
 by_cases h10:k=10
 ·subst h10
  have hv:Hid ((ar ⟨10,v,n⟩:Int)=cop v):=by unfold Hid ar cop;simp;split<;>rfl
  go_enter Tryz.func114,Tryz.ntmps114;go_wp2_with (go_at_call 140;refine(VD v _).mono ?_;rintro e w' ⟨rfl,hw⟩;rw[hw];clear hw);go_ret;rw[hv.out];exact⟨rfl,by go_grown⟩
 have hv:Hid (ar ⟨k,v,n⟩=0):=by unfold Hid ar;simp[h7,h8,h9,h10]
 have f7:(k==7)=false:=by simpa using h7
 have f8:(k==8)=false:=by simpa using h8
 have f9:(k==9)=false:=by simpa using h9
 have f10:(k==10)=false:=by simpa using h10
 go_enter Tryz.func114,Tryz.ntmps114;go_wp2;go_ret;rw[hv.out];exact⟨rfl,by go_grown⟩
def Nk (w:World) (g:Nat):Prop:=∃C fr,w.heap[g]? =some (.cells C 130 fr)
theorem Nk.below {w w':World} {g:Nat} (h:Nk w g) (hb:Below w.heap.size w w'):Nk w' g:=by
 obtain⟨C,fr,h⟩:=h;exact⟨C,fr,by rw[hb.block g (zN h)];exact h⟩
theorem Nk.grown {w w':World} {g:Nat} {r:Option Nat} (h:Nk w g) (hb:w.grownBy w' r) (hr:some g≠r):Nk w' g:=by
 obtain⟨C,fr,h⟩:=h;exact⟨C,fr,by rw[hb.block g (zN h) hr];exact h⟩
inductive Nd (w:World) (r:Option Nat):Value→Tr→Prop
 |leaf (o:Po):Nd w r (.iface 164 (.agg #[.int .i64 o.k,.int .i64 o.v,.string ⟨o.n.toArray⟩])) (.leaf o)
 |pre (o:Po) (v:Value) (a:Tr) (h:Nd w r v a):Nd w r (.iface 167 (.agg #[.int .i64 o.k,.int .i64 o.v,.string ⟨o.n.toArray⟩,v])) (.pre o a)
 |bin (o:Po) (v u:Value) (a b:Tr) (h:Nd w r v a) (h':Nd w r u b):Nd w r (.iface 171 (.agg #[.int .i64 o.k,.int .i64 o.v,.string ⟨o.n.toArray⟩,v,u])) (.bin o a b)
 |two (o:Po) (g off c:Nat) (v u:Value) (a b:Tr) (hr:some g≠r) (hk:Nk w g) (c1:w.cell? ⟨g,off,none⟩=some v) (c2:w.cell? ⟨g,off+1,none⟩=some u) (h:Nd w r v a) (h':Nd w r u b):Nd w r (.iface 174 (.agg #[.int .i64 o.k,.int .i64 o.v,.string ⟨o.n.toArray⟩,.slice (some ⟨g,off,none⟩) 2 c])) (.two o a b)
 |three (o:Po) (g off c:Nat) (v u x:Value) (a b d:Tr) (hr:some g≠r) (hk:Nk w g) (c1:w.cell? ⟨g,off,none⟩=some v) (c2:w.cell? ⟨g,off+1,none⟩=some u) (c3:w.cell? ⟨g,off+2,none⟩=some x) (h:Nd w r v a) (h':Nd w r u b) (h'':Nd w r x d):Nd w r (.iface 174 (.agg #[.int .i64 o.k,.int .i64 o.v,.string ⟨o.n.toArray⟩,.slice (some ⟨g,off,none⟩) 3 c])) (.three o a b d)
theorem Nd.kept {w w':World} {r:Option Nat} {v:Value} {t:Tr} (h:Nd w r v t) (hb:Below w.heap.size w w'):Nd w' r v t:=by
 induction h with
 |leaf o=>exact .leaf o
 |pre o v a h ih=>exact .pre o v a ih
 |bin o v u a b h h' ih ih'=>exact .bin o v u a b ih ih'
 |two o g off c v u a b hr hk c1 c2 h h' ih ih'=>exact .two o g off c v u a b hr (hk.below hb) (zB hb c1) (zB hb c2) ih ih'
 |three o g off c v u x a b d hr hk c1 c2 c3 h h' h'' ih ih' ih''=>exact .three o g off c v u x a b d hr (hk.below hb) (zB hb c1) (zB hb c2) (zB hb c3) ih ih' ih''
theorem Nd.grown {w w':World} {r:Option Nat} {v:Value} {t:Tr} (h:Nd w r v t) (hb:w.grownBy w' r):Nd w' r v t:=by
 induction h with
 |leaf o=>exact .leaf o
 |pre o v a h ih=>exact .pre o v a ih
 |bin o v u a b h h' ih ih'=>exact .bin o v u a b ih ih'
 |two o g off c v u a b hr hk c1 c2 h h' ih ih'=>exact .two o g off c v u a b hr (hk.grown hb hr) (hb.cell c1 hr) (hb.cell c2 hr) ih ih'
 |three o g off c v u x a b d hr hk c1 c2 c3 h h' h'' ih ih' ih''=>exact .three o g off c v u x a b d hr (hk.grown hb hr) (hb.cell c1 hr) (hb.cell c2 hr) (hb.cell c3 hr) ih ih' ih''
theorem Nd.free {w:World} {r r':Option Nat} {v:Value} {t:Tr} (h:Nd w r v t) (hr:∀g,g<w.heap.size→some g≠r→some g≠r'):Nd w r' v t:=by
 induction h with
 |leaf o=>exact .leaf o
 |pre o v a h ih=>exact .pre o v a ih
 |bin o v u a b h h' ih ih'=>exact .bin o v u a b ih ih'
 |two o g off c v u a b h0 hk c1 c2 h h' ih ih'=>exact .two o g off c v u a b (hr g (lt_of_cell c1) h0) hk c1 c2 ih ih'
 |three o g off c v u x a b d h0 hk c1 c2 c3 h h' h'' ih ih' ih''=>exact .three o g off c v u x a b d (hr g (lt_of_cell c1) h0) hk c1 c2 c3 ih ih' ih''
theorem Nd.one {w:World} {r:Option Nat} {v:Value} {t:Tr} (h:Nd w r v t):v.oneCell'=true:=by cases h<;>rfl
theorem Nd.form {w:World} {r:Option Nat} {v:Value} {t:Tr} (h:Nd w r v t):∃T u,v=.iface T u:=by cases h<;>exact⟨_,_,rfl⟩
def Tr.wf:Tr→Prop
 |.leaf o=>1≤o.k∧o.k≤6
 |.pre o a=>(o.k=7∨o.k=8)∧a.wf
 |.bin o a b=>(o.k=9∧0≤o.v∧o.v≤7)∧a.wf∧b.wf
 |.two o a b=>(o.k=10∧0≤o.v∧o.v≤1)∧a.wf∧b.wf
 |.three o a b c=>(o.k=10∧o.v=2)∧a.wf∧b.wf∧c.wf
def Tr.sz:Tr→Nat
 |.leaf _=>1
 |.pre _ a=>1+a.sz
 |.bin _ a b=>1+a.sz+b.sz
 |.two _ a b=>1+a.sz+b.sz
 |.three _ a b c=>1+a.sz+b.sz+c.sz
theorem yU (t:Tr):0≤t.nst∧t.nst≤2*(t.sz:Int):=by
 induction t with
 |leaf o=>simp[Tr.nst,Tr.sz]
 |pre o a ih=>simp only[Tr.nst,Tr.sz,opn];split<;>omega
 |bin o a b ih ih'=>simp only[Tr.nst,Tr.sz,opn];split<;>split<;>omega
 |two o a b ih ih'=>simp only[Tr.nst,Tr.sz];omega
 |three o a b c ih ih' ih''=>simp only[Tr.nst,Tr.sz];omega
theorem QI (v:Int):1≤z9 v∧z9 v≤5:=by unfold z9;split<;>(try split)<;>(try split)<;>(try split)<;>omega
def ZT (w:World):Prop:=∀m:Nat,m<8→w.cell? ⟨3,m,none⟩=some (.int .i64 (z9 m))
theorem ZT.below {w w':World} (h:ZT w) (hb:Below w.heap.size w w'):ZT w':=fun m hm=>zB hb (h m hm)
end Go.Proofs.YtbkajklninmhiaaGreatDoor.Syn
