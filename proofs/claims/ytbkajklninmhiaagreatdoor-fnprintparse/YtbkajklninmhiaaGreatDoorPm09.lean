import Derived.Test.YtbkajklninmhiaaGreatDoorPm08
set_option maxHeartbeats 1600000
set_option maxRecDepth 1000000
set_option linter.unusedVariables false
set_option linter.unusedSimpArgs false
open Nat renaming le_refl → qp
namespace Go.Proofs.YtbkajklninmhiaaGreatDoor.Par
open Go Go.RowKit Mem Syn Parse
attribute [local go_sem ↓] Go.wp_at_zero Go.wp_at_succ
def Yo (T:Nat→Tk) (i:Nat):Rs (Int×Nat):=(exp T 1 i).bnd fun j=>.ok ((T i).v,j)
def Wi (T:Nat→Tk) (i:Nat):Rs (List UInt8×Nat):=(exp T 2 i).bnd fun j=>.ok ((T i).n,j)
def Xc (T:Nat→Tk) (i:Nat):Rs (Int×Nat):=if (T i).k=10 then (adv T i).bnd fun j=>(Yo T j).bnd fun x=>.ok (-x.1,x.2)else Yo T i
def Yz (T:Nat→Tk) (i:Nat):Rs ((Int×Int)×Nat):=(exp T 44 i).bnd fun j=>(Xc T j).bnd fun x=>(exp T 7 x.2).bnd fun j'=>(Xc T j').bnd fun y=>.ok ((x.1,y.1),y.2)
def Zk (T:Nat→Tk) (i o:Nat):Rs (Nat×Nat):=(cnt T i o).bnd fun o1=>(adv T i).bnd fun j=>.ok (j,o1)
def wopP (T:Nat→Tk) (i:Nat):Rs Po:=match wop (T i)with
 |none=>.bad 4 (T i).at'
 |some p=>.ok p
def opV (p:Po):Value:=.agg #[.int .i64 p.k,.int .i64 p.v,.string ⟨p.n.toArray⟩]
theorem num_bd {t:List UInt8} {i:Nat} {x:Int×Nat} (h:Yo (tkT t) i=.ok x):0≤x.1∧x.1≤1000000000:=by
 unfold Yo at h
 cases hr:exp (tkT t) 1 i with
 |out=>rw[hr]at h;cases h
 |bad c a=>rw[hr]at h;cases h
 |ok j=>
  rw[hr,zj]at h;injection h with h;rw[←h];exact(Yv t i).vl
theorem ZE (B b:Nat) (a:Option Addr) (c:Nat) (t:List UInt8) (i o d:Nat) (w:World) (h:PS B b a c t i o d w) (k:Nat):
  Calls Tryz.prog 84 #[.pointer (some ⟨b,0,none⟩),.int .i64 (k:Int)] w fun e w'=>Res (exp (tkT t) k i) (fun x e w'=>e=.returned (.tuple #[])∧PS B b a c t x o d w') e w'∧w.grownBy w' (some b):=by
 have y2:=Px.c2 h;dsimp only at y2;have H:=Hm h;clear h;unfold exp;by_cases hk:(tkT t i).k=k
 ·rw[if_pos hk]
  have k2:(((tkT t i).k:Int)!=(k:Int))=false:=by simp;omega
  have CA:=Hm (ZS B b a c t i o d w H.out);clear hk;go_enter Tryz.func84,Tryz.ntmps84;go_wp2_with fail;refine(CA.out).mono ?_;rintro e w1 ⟨p,g⟩
  cases hr1:adv (tkT t) i with
  |out=>rw[hr1]at p;exact p.elim
  |bad cc aa=>rw[hr1]at p;have p:e=.panicked (flV cc aa):=p;subst p;exact⟨rfl,(by simp only[hr1,zj,zx];exact rfl),zi (World.grownBy.refl _ _) g⟩
  |ok x1=>
   rw[hr1]at p;obtain⟨rfl,p1⟩:=p;have P1:=Hm p1;have G1:=Hm (zi (World.grownBy.refl _ _) g);clear p1 g;go_wp2
   go_end0
   exact⟨(by simp only[hr1];exact⟨rfl,P1.out⟩),G1.out⟩
 ·rw[if_neg hk]
  have k2:((tkT t i).k:Int)≠(k:Int):=by omega
  go_enter Tryz.func84,Tryz.ntmps84;go_wp2_with (go_at_call 47;go_must (refine(Zx B b a c t i o d _ H.out 4).mono ?_;rintro e w1 ⟨rfl,hb⟩));exact⟨rfl,rfl,zD hb⟩
theorem nameI (B b:Nat) (a:Option Addr) (c:Nat) (t:List UInt8) (i o d:Nat) (w:World) (h:PS B b a c t i o d w):
  Calls Tryz.prog 83 #[.pointer (some ⟨b,0,none⟩)] w fun e w'=>Res (Wi (tkT t) i) (fun x e w'=>e=.returned (.string ⟨x.1.toArray⟩)∧PS B b a c t x.2 o d w') e w'∧w.grownBy w' (some b):=by
 have y:=Px.c4 h;dsimp only at y;have CA:=Hm (ZE B b a c t i o d w h 2);clear h;unfold Wi;go_enter Tryz.func83,Tryz.ntmps83;go_wp2_with fail;refine(CA.out).mono ?_;rintro e w1 ⟨p,g⟩
 cases hr1:exp (tkT t) 2 i with
 |out=>rw[hr1]at p;exact p.elim
 |bad cc aa=>rw[hr1]at p;have p:e=.panicked (flV cc aa):=p;subst p;exact⟨rfl,(by simp only[hr1,zj,zx];exact rfl),zi (World.grownBy.refl _ _) g⟩
 |ok x1=>
  rw[hr1]at p;obtain⟨rfl,p1⟩:=p;have P1:=Hm p1;have G1:=Hm (zi (World.grownBy.refl _ _) g);clear p1 g;go_wp2;go_ret;exact⟨(by simp only[hr1,zj];exact⟨rfl,P1.out⟩),G1.out⟩
theorem Xk (B b:Nat) (a:Option Addr) (c:Nat) (t:List UInt8) (i o d:Nat) (w:World) (h:PS B b a c t i o d w):
  Calls Tryz.prog 89 #[.pointer (some ⟨b,0,none⟩)] w fun e w'=>Res (Yo (tkT t) i) (fun x e w'=>e=.returned (.int .i64 x.1)∧PS B b a c t x.2 o d w') e w'∧w.grownBy w' (some b):=by
 have y:=Px.c5 h;dsimp only at y;have CA:=Hm (ZE B b a c t i o d w h 1);clear h;unfold Yo;go_enter Tryz.func89,Tryz.ntmps89;go_wp2_with fail;refine(CA.out).mono ?_;rintro e w1 ⟨p,g⟩
 cases hr1:exp (tkT t) 1 i with
 |out=>rw[hr1]at p;exact p.elim
 |bad cc aa=>rw[hr1]at p;have p:e=.panicked (flV cc aa):=p;subst p;exact⟨rfl,(by simp only[hr1,zj,zx];exact rfl),zi (World.grownBy.refl _ _) g⟩
 |ok x1=>
  rw[hr1]at p;obtain⟨rfl,p1⟩:=p;have P1:=Hm p1;have G1:=Hm (zi (World.grownBy.refl _ _) g);clear p1 g;go_wp2;go_ret;exact⟨(by simp only[hr1,zj];exact⟨rfl,P1.out⟩),G1.out⟩
theorem WF (B b:Nat) (a:Option Addr) (c:Nat) (t:List UInt8) (i o d:Nat) (w:World) (h:PS B b a c t i o d w):
  Calls Tryz.prog 86 #[.pointer (some ⟨b,0,none⟩)] w fun e w'=>Res (Xc (tkT t) i) (fun x e w'=>e=.returned (.int .i64 x.1)∧PS B b a c t x.2 o d w') e w'∧w.grownBy w' (some b):=by
 have y2:=Px.c2 h;dsimp only at y2;have H:=Hm h;clear h;unfold Xc;by_cases hk:(tkT t i).k=10
 ·rw[if_pos hk]
  have k2:(((tkT t i).k:Int)!=10)=false:=by simp;omega
  have CA:=Hm (ZS B b a c t i o d w H.out);clear hk;go_enter Tryz.func86,Tryz.ntmps86;go_wp2_with fail;refine(CA.out).mono ?_;rintro e w1 ⟨p,g⟩
  cases hr1:adv (tkT t) i with
  |out=>rw[hr1]at p;exact p.elim
  |bad cc aa=>rw[hr1]at p;have p:e=.panicked (flV cc aa):=p;subst p;exact⟨rfl,(by simp only[hr1,zj,zx];exact rfl),zi (World.grownBy.refl _ _) g⟩
  |ok x1=>
   rw[hr1]at p;obtain⟨rfl,p1⟩:=p;have P1:=Hm p1;have G1:=Hm (zi (World.grownBy.refl _ _) g);clear p1 g;go_wp2_with fail;refine(Xk B b a c t x1 o d _ P1.out).mono ?_;rintro e w2 ⟨p,g⟩
   cases hr2:Yo (tkT t) x1 with
   |out=>rw[hr2]at p;exact p.elim
   |bad cc aa=>rw[hr2]at p;have p:e=.panicked (flV cc aa):=p;subst p;exact⟨rfl,(by simp only[hr1,hr2,zj,zx];exact rfl),zi (G1.out) g⟩
   |ok x2=>
    rw[hr2]at p;obtain⟨rfl,p2⟩:=p;have P2:=Hm p2;have G2:=Hm (zi (G1.out) g);clear p2 g;obtain⟨b0,b1⟩:=num_bd hr2;have e9:IntKind.i64.wrap (-x2.1)=-x2.1:=by rw[IntKind.wrap_i64];omega
    have HR1:=Hm hr1;have HR2:=Hm hr2;clear hr1 hr2;go_wp2;go_ret;exact⟨(by simp only[HR1.out,HR2.out,zj];exact⟨rfl,P2.out⟩),G2.out⟩
 ·rw[if_neg hk]
  have k2:((tkT t i).k:Int)≠10:=by omega
  have CA:=Hm (Xk B b a c t i o d w H.out);go_enter Tryz.func86,Tryz.ntmps86;go_wp2_with fail;refine(CA.out).mono ?_;rintro e w1 ⟨p,g⟩
  cases hr1:Yo (tkT t) i with
  |out=>rw[hr1]at p;exact p.elim
  |bad cc aa=>rw[hr1]at p;have p:e=.panicked (flV cc aa):=p;subst p;exact⟨rfl,(by simp only[hr1,zj,zx];exact rfl),zi (World.grownBy.refl _ _) g⟩
  |ok x1=>
   rw[hr1]at p;obtain⟨rfl,p1⟩:=p;have P1:=Hm p1;have G1:=Hm (zi (World.grownBy.refl _ _) g);clear p1 g;have HR1:=Hm hr1;clear hr1;go_wp2;go_ret;exact⟨(by simp only[HR1.out];exact⟨rfl,P1.out⟩),G1.out⟩
theorem QV (B b:Nat) (a:Option Addr) (c:Nat) (t:List UInt8) (i o d:Nat) (w:World) (h:PS B b a c t i o d w):
  Calls Tryz.prog 87 #[.pointer (some ⟨b,0,none⟩)] w fun e w'=>Res (Yz (tkT t) i) (fun x e w'=>e=.returned (.tuple #[.int .i64 x.1.1,.int .i64 x.1.2])∧PS B b a c t x.2 o d w') e w'∧w.grownBy w' (some b):=by
 have H:=Hm h;clear h;unfold Yz;go_enter Tryz.func87,Tryz.ntmps87;go_wp2_with fail;refine(ZE B b a c t i o d w H.out 44).mono ?_;rintro e w1 ⟨p,g⟩
 cases hr1:exp (tkT t) 44 i with
 |out=>rw[hr1]at p;exact p.elim
 |bad cc aa=>rw[hr1]at p;have p:e=.panicked (flV cc aa):=p;subst p;exact⟨rfl,(by simp only[hr1,zj,zx];exact rfl),zi (World.grownBy.refl _ _) g⟩
 |ok x1=>
  rw[hr1]at p;obtain⟨rfl,p1⟩:=p;have P1:=Hm p1;have G1:=Hm (zi (World.grownBy.refl _ _) g);clear p1 g;go_wp2_with fail;refine(WF B b a c t x1 o d _ P1.out).mono ?_;rintro e w2 ⟨p,g⟩
  cases hr2:Xc (tkT t) x1 with
  |out=>rw[hr2]at p;exact p.elim
  |bad cc aa=>rw[hr2]at p;have p:e=.panicked (flV cc aa):=p;subst p;exact⟨rfl,(by simp only[hr1,hr2,zj,zx];exact rfl),zi (G1.out) g⟩
  |ok x2=>
   rw[hr2]at p;obtain⟨rfl,p2⟩:=p;have P2:=Hm p2;have G2:=Hm (zi (G1.out) g);clear p2 g;go_wp2_with fail;refine(ZE B b a c t x2.2 o d _ P2.out 7).mono ?_;rintro e w3 ⟨p,g⟩
   cases hr3:exp (tkT t) 7 x2.2 with
   |out=>rw[hr3]at p;exact p.elim
   |bad cc aa=>rw[hr3]at p;have p:e=.panicked (flV cc aa):=p;subst p;exact⟨rfl,(by simp only[hr1,hr2,hr3,zj,zx];exact rfl),zi (G2.out) g⟩
   |ok x3=>
    rw[hr3]at p;obtain⟨rfl,p3⟩:=p;have P3:=Hm p3;have G3:=Hm (zi (G2.out) g);clear p3 g;go_wp2_with fail;refine(WF B b a c t x3 o d _ P3.out).mono ?_;rintro e w4 ⟨p,g⟩
    cases hr4:Xc (tkT t) x3 with
    |out=>rw[hr4]at p;exact p.elim
    |bad cc aa=>rw[hr4]at p;have p:e=.panicked (flV cc aa):=p;subst p;exact⟨rfl,(by simp only[hr1,hr2,hr3,hr4,zj,zx];exact rfl),zi (G3.out) g⟩
    |ok x4=>
     rw[hr4]at p;obtain⟨rfl,p4⟩:=p;have P4:=Hm p4;have G4:=Hm (zi (G3.out) g);clear p4 g;go_wp2;go_ret2;exact⟨(by simp only[hr1,hr2,hr3,hr4,zj];exact⟨rfl,P4.out⟩),G4.out⟩
theorem Rp (B b:Nat) (a:Option Addr) (c:Nat) (t:List UInt8) (i o d:Nat) (w:World) (h:PS B b a c t i o d w):
  Calls Tryz.prog 88 #[.pointer (some ⟨b,0,none⟩)] w fun e w'=>Res (Yw (tkT t) i) (fun x e w'=>e=.returned (.int .i64 x.1)∧PS B b a c t x.2 o d w') e w'∧w.grownBy w' (some b):=by
 have y4:=Px.c4 h;dsimp only at y4;have H:=Hm h;clear h;have HNM:=Hm (Yv t i).nm;unfold Yw;by_cases hk:U9 (tkT t i)=true
 ·rw[if_pos hk]
  obtain⟨u,hu,h97,h113⟩:∃u:UInt8,(tkT t i).n=[u]∧97≤u.toNat∧u.toNat<113:=by
   unfold U9 at hk;simp at hk;obtain⟨u,hu⟩:=List.length_eq_one_iff.1 hk.1;have h1:=HNM.out (show(tkT t i).n≠[] by rw[hu];simp);have h2:xi ((tkT t i).n.getD 0 0)=true:=h1.2.2;refine⟨u,hu,?_,?_⟩
   ·rw[hu]at h2;unfold xi at h2;simp at h2;omega
   ·have:=hk.2;rw[hu]at this;simpa using this
  have CA:=Hm (ZS B b a c t i o d w H.out);rw[hu]at y4 ⊢;have k1:decide ((113:Int)≤(u.toNat:Int))=false:=by simp;omega
  have e9:IntKind.u8.wrap ((u.toNat:Int) -97)=(u.toNat:Int) -97:=by rw[IntKind.wrap_u8];omega
  have e8:IntKind.i64.wrap ((u.toNat:Int) -97)=(u.toNat:Int) -97:=by rw[IntKind.wrap_i64];omega
  have hx:∀h,((⟨#[u]⟩:ByteArray)[0]'h)=u:=fun _=>rfl
  clear hk hu HNM;go_enter Tryz.func88,Tryz.ntmps88;go_wp2_with fail;refine(CA.out).mono ?_;rintro e w1 ⟨p,g⟩
  cases hr1:adv (tkT t) i with
  |out=>rw[hr1]at p;exact p.elim
  |bad cc aa=>rw[hr1]at p;have p:e=.panicked (flV cc aa):=p;subst p;exact⟨rfl,(by simp only[hr1,zj,zx];exact rfl),zi (World.grownBy.refl _ _) g⟩
  |ok x1=>
   rw[hr1]at p;obtain⟨rfl,p1⟩:=p;have P1:=Hm p1;have G1:=Hm (zi (World.grownBy.refl _ _) g);clear p1 g;go_wp2;go_ret;exact⟨(by simp only[hr1,zj];exact⟨rfl,P1.out⟩),G1.out⟩
 ·rw[if_neg hk]
  obtain⟨n,hn⟩:∃n,n=(tkT t i).n:=⟨_,rfl⟩;rw[←hn]at y4
  have hk':n.length=1→113≤(n.getD 0 0).toNat:=fun h1=>by
   refine Nat.le_of_not_lt fun hlt=>hk ?_
   unfold U9;rw[←hn,h1];simp only[beq_self_eq_true,Bool.true_and,decide_eq_true_eq];exact hlt
  clear hk hn HNM;by_cases h1:n.length=1
  ·obtain⟨u,rfl⟩:=List.length_eq_one_iff.1 h1
   have h2:113≤u.toNat:=by simpa using hk' rfl
   have k1:(113:Int)≤(u.toNat:Int):=by omega
   have hx:∀h,((⟨#[u]⟩:ByteArray)[0]'h)=u:=fun _=>rfl
   clear hk' h1;go_enter Tryz.func88,Tryz.ntmps88;go_wp2_with (go_at_call 47;go_must (refine(Zx B b a c t i o d _ H.out 4).mono ?_;rintro e w1 ⟨rfl,hb⟩));exact⟨rfl,rfl,zD hb⟩
  ·have k1:((n.length:Nat):Int)≠1:=by omega
   clear hk';go_enter Tryz.func88,Tryz.ntmps88;go_wp2_with (go_at_call 47;go_must (refine(Zx B b a c t i o d _ H.out 4).mono ?_;rintro e w1 ⟨rfl,hb⟩));exact⟨rfl,rfl,zD hb⟩
theorem XK (B b:Nat) (a:Option Addr) (c:Nat) (t:List UInt8) (i o d:Nat) (w:World) (h:PS B b a c t i o d w) (ho:o≤2000):
  Calls Tryz.prog 162 #[.pointer (some ⟨b,0,none⟩)] w fun e w'=>Res (cnt (tkT t) i o) (fun x e w'=>e=.returned (.tuple #[])∧PS B b a c t i x d w') e w'∧w.grownBy w' (some b):=by
 have y6:=Px.c6 h;have f6:=Px.fz h 6;dsimp only at y6;have H:=Hm h;clear h;unfold cnt;by_cases hk:o=2000
 ·rw[if_pos hk]
  have k2:((o:Int)==2000)=true:=by simp;omega
  clear hk;go_enter Tryz.func162,Tryz.ntmps162;go_wp2_with (go_at_call 47;go_must (refine(Zx B b a c t i o d _ H.out 6).mono ?_;rintro e w1 ⟨rfl,hb⟩));exact⟨rfl,rfl,zD hb⟩
 ·rw[if_neg hk]
  have k2:((o:Int)==2000)=false:=by simp;omega
  have e9:IntKind.i64.wrap ((o:Int)+1)=(o:Int)+1:=by rw[IntKind.wrap_i64];omega
  clear hk;go_enter Tryz.func162,Tryz.ntmps162;go_wp2
  go_end0
  exact⟨⟨rfl,H.out.set6 (o:=o+1) (x:=(o:Int)+1) (by omega)⟩,yJ _ _ _ _⟩
theorem Yr (B b:Nat) (a:Option Addr) (c:Nat) (t:List UInt8) (i o d:Nat) (w:World) (h:PS B b a c t i o d w) (hd:d≤64):
  Calls Tryz.prog 163 #[.pointer (some ⟨b,0,none⟩)] w fun e w'=>Res (Yn (tkT t) i d) (fun x e w'=>e=.returned (.tuple #[])∧PS B b a c t i o (d+1) w') e w'∧w.grownBy w' (some b):=by
 have y7:=Px.c7 h;have f7:=Px.fz h 7;dsimp only at y7;have H:=Hm h;clear h;unfold Yn;by_cases hk:d=64
 ·rw[if_pos hk]
  have k2:((d:Int)==64)=true:=by simp;omega
  clear hk;go_enter Tryz.func163,Tryz.ntmps163;go_wp2_with (go_at_call 47;go_must (refine(Zx B b a c t i o d _ H.out 5).mono ?_;rintro e w1 ⟨rfl,hb⟩));exact⟨rfl,rfl,zD hb⟩
 ·rw[if_neg hk]
  have k2:((d:Int)==64)=false:=by simp;omega
  have e9:IntKind.i64.wrap ((d:Int)+1)=(d:Int)+1:=by rw[IntKind.wrap_i64];omega
  clear hk;go_enter Tryz.func163,Tryz.ntmps163;go_wp2
  go_end0
  exact⟨⟨rfl,H.out.set7 (d:=d+1) (x:=(d:Int)+1) (by omega)⟩,yJ _ _ _ _⟩
theorem ZW (B b:Nat) (a:Option Addr) (c:Nat) (t:List UInt8) (i o d:Nat) (w:World) (h:PS B b a c t i o d w) (ho:o≤2000):
  Calls Tryz.prog 154 #[.pointer (some ⟨b,0,none⟩)] w fun e w'=>Res (Zk (tkT t) i o) (fun x e w'=>e=.returned (.tuple #[])∧PS B b a c t x.1 x.2 d w') e w'∧w.grownBy w' (some b):=by
 have H:=Hm h;clear h;unfold Zk;go_enter Tryz.func154,Tryz.ntmps154;go_wp2_with fail;refine(XK B b a c t i o d w H.out ho).mono ?_;rintro e w1 ⟨p,g⟩
 cases hr1:cnt (tkT t) i o with
 |out=>rw[hr1]at p;exact p.elim
 |bad cc aa=>rw[hr1]at p;have p:e=.panicked (flV cc aa):=p;subst p;exact⟨rfl,(by simp only[hr1,zj,zx];exact rfl),zi (World.grownBy.refl _ _) g⟩
 |ok x1=>
  rw[hr1]at p;obtain⟨rfl,p1⟩:=p;have P1:=Hm p1;have G1:=Hm (zi (World.grownBy.refl _ _) g);clear p1 g;go_wp2_with fail;refine(ZS B b a c t i x1 d _ P1.out).mono ?_;rintro e w2 ⟨p,g⟩
  cases hr2:adv (tkT t) i with
  |out=>rw[hr2]at p;exact p.elim
  |bad cc aa=>rw[hr2]at p;have p:e=.panicked (flV cc aa):=p;subst p;exact⟨rfl,(by simp only[hr1,hr2,zj,zx];exact rfl),zi (G1.out) g⟩
  |ok x2=>
   rw[hr2]at p;obtain⟨rfl,p2⟩:=p;have P2:=Hm p2;have G2:=Hm (zi (G1.out) g);clear p2 g;go_wp2
   go_end0
   exact⟨(by simp only[hr1,hr2,zj];exact⟨rfl,P2.out⟩),G2.out⟩
theorem YY (k:Tk) (f l:Nat) (w:World):Calls Tryz.prog 46 #[tkV k,.int .i64 (f:Int),.int .i64 (l:Int)] w fun e w'=>e=.returned (.bool (decide (f≤k.k)&&decide (k.k≤l)))∧Below w.heap.size w w':=by
 unfold tkV;by_cases h1:f≤k.k
 ·have k1:(f:Int)≤(k.k:Int):=by omega
  rw[decide_eq_true h1,Bool.true_and];by_cases h2:k.k≤l
  ·have k2:(k.k:Int)≤(l:Int):=by omega
   rw[decide_eq_true h2];clear h1 h2;go_enter Tryz.func46,Tryz.ntmps46;go_wp2;go_ret;exact⟨rfl,by go_grown⟩
  ·have k2:decide ((k.k:Int)≤(l:Int))=false:=by simp;omega
   rw[decide_eq_false h2];have k3:decide (k.k≤l)=false:=decide_eq_false h2;clear h1 h2;go_enter Tryz.func46,Tryz.ntmps46;go_wp2;go_ret;exact⟨rfl,by go_grown⟩
 ·have k1:decide ((f:Int)≤(k.k:Int))=false:=by simp;omega
  rw[decide_eq_false h1,Bool.false_and];have k3:decide (f≤k.k)=false:=decide_eq_false h1;clear h1;go_enter Tryz.func46,Tryz.ntmps46;go_wp2;go_ret;exact⟨rfl,by go_grown⟩
theorem Uf (B b:Nat) (a:Option Addr) (c:Nat) (t:List UInt8) (i o d:Nat) (w:World) (h:PS B b a c t i o d w) (s:Nat):
  Calls Tryz.prog 153 #[.pointer (some ⟨b,0,none⟩),.int .i64 (s:Int)] w fun e w'=>e=.returned (.bool (atB (tkT t) s i))∧Below w.heap.size w w':=by
 have y2:=Px.c2 h;have y3:=Px.c3 h;have y4:=Px.c4 h;have y5:=Px.c5 h;dsimp only at y2 y3 y4 y5;have H:=Hm h;clear h;obtain⟨k,hk⟩:∃k,k=tkT t i:=⟨_,rfl⟩;unfold atB;rw[←hk]at y2 y3 y4 y5 ⊢;clear hk;have CM:=Hm (YY k 8 15 w);unfold tkV at CM;unfold isB;by_cases h8:8≤k.k∧k.k≤15
 ·obtain⟨h8,h15⟩:=h8
  obtain⟨m,hm⟩:∃m:Nat,k.k=8+m:=⟨k.k-8,by omega⟩;have hm8:m<8:=by omega
  have e9:IntKind.i64.wrap ((k.k:Int) -8)=(m:Int):=by rw[IntKind.wrap_i64];omega
  have HT:=Hm H.out.tb;rw[decide_eq_true h8,decide_eq_true h15,Bool.true_and,Bool.true_and]at*;rw[show((k.k:Int) -8)=(m:Int) by omega];have z0:(0:Int)≤(m:Int):=by omega
  have z1:(m:Int)<8:=by omega
  clear h8 h15 hm;go_enter Tryz.func153,Tryz.ntmps153;go_wp2_with (go_at_call 46;go_must (refine CM.out.mono ?_;rintro e w1 ⟨rfl,hb⟩;have z2:=zB hb y2;have z3:w1.cell? ⟨3,m,none⟩=some (.int .i64 (z9 (m:Int))):=zB hb (HT.out m hm8);have HB:=Hm hb;clear hb));go_ret;exact⟨rfl,HB.out⟩
 ·have hf:(decide (8≤k.k)&&decide (k.k≤15))=false:=by simp;omega
  rw[hf]at CM ⊢;rw[Bool.false_and];clear h8 hf;go_enter Tryz.func153,Tryz.ntmps153;go_wp2_with (go_at_call 46;go_must (refine CM.out.mono ?_;rintro e w1 ⟨rfl,hb⟩;have HB:=Hm hb;clear hb));go_ret;exact⟨rfl,HB.out⟩
theorem Rf (B b:Nat) (a:Option Addr) (c:Nat) (t:List UInt8) (i o d:Nat) (w:World) (h:PS B b a c t i o d w):
  Calls Tryz.prog 168 #[.pointer (some ⟨b,0,none⟩)] w fun e w'=>Res (wopP (tkT t) i) (fun x e w'=>e=.returned (opV x)) e w'∧Below w.heap.size w w':=by
 have y2:=Px.c2 h;have y3:=Px.c3 h;have y4:=Px.c4 h;have y5:=Px.c5 h;dsimp only at y2 y3 y4 y5;have H:=Hm h;clear h;have hlt:=H.out.lt;unfold wopP wop;obtain⟨k,hk⟩:∃k,k=tkT t i:=⟨_,rfl⟩;have hk51:k.k≤51:=by rw[hk];exact X5 t i
 rw[←hk]at y2 y3 y4 y5 ⊢;have HK:=Hm hk;clear hk;obtain⟨W2,hW2⟩:∃W,W=(w.alloc (.cells #[.int .i64 0,.int .i64 0,.string ⟨#[]⟩] 88)).alloc (.cells #[.int .i64 (k.k:Int),.int .i64 (k.at':Int),.string ⟨k.n.toArray⟩,.int .i64 k.v] 48):=⟨_,rfl⟩;have A2:Hid (Below w.heap.size w W2):=by rw[hW2];exact zd (zd (Below.refl _ _) _) _
 have T2:Hid (W2.heap[w.heap.size+1]? =some (.cells #[.int .i64 (k.k:Int),.int .i64 (k.at':Int),.string ⟨k.n.toArray⟩,.int .i64 k.v] 48)):=by rw[hW2];exact yb _ _ _
 have O2:Hid (W2.heap[w.heap.size]? =some (.cells #[.int .i64 0,.int .i64 0,.string ⟨#[]⟩] 88)):=by rw[hW2];exact zv (zo _ _) _
 by_cases h1:k.k=1
 ·rw[if_pos h1]
  have k1:((k.k:Int)==1)=true:=by simp;omega
  clear h1;go_enter Tryz.func168,Tryz.ntmps168;go_wp2;refine bodyPost_ret (by simp[results,Tryz.results168,go_sem];try rfl) rfl ?_;exact⟨rfl,by go_grown⟩
 rw[if_neg h1];have k1:((k.k:Int)==1)=false:=by simp;omega
 by_cases h2:k.k=2
 ·rw[if_pos h2]
  have k2:((k.k:Int)==2)=true:=by simp;omega
  clear h1 h2;go_enter Tryz.func168,Tryz.ntmps168;go_wp2;refine bodyPost_ret (by simp[results,Tryz.results168,go_sem];try rfl) rfl ?_;exact⟨rfl,by go_grown⟩
 rw[if_neg h2];have k2:((k.k:Int)==2)=false:=by simp;omega
 have CM1:=Hm (YY k 28 29 W2);unfold tkV at CM1;by_cases h3:k.k=28∨k.k=29
 ·rw[if_pos h3]
  rw[show(decide (28≤k.k)&&decide (k.k≤29))=true by simp;omega]at CM1;have e9:IntKind.i64.wrap ((k.k:Int) -28)=(k.k:Int) -28:=by rw[IntKind.wrap_i64];omega
  clear h1 h2 h3;go_enter Tryz.func168,Tryz.ntmps168;go_wp2_with fail;rw[←hW2];refine CM1.out.mono ?_;rintro e w3 ⟨rfl,hb⟩;have t0:=(zb (zg T2.out hb) 0).trans rfl;have o0:=(zb (zg O2.out hb) 0).trans rfl;have o1:=(zb (zg O2.out hb) 1).trans rfl;have o2:=(zb (zg O2.out hb) 2).trans rfl;have q0:=zc (zg O2.out hb) 0;have q1:=zc (zg O2.out hb) 1;have q2:=zc (zg O2.out hb) 2;have HB:=Hm (zn A2.out hb);clear hb hW2;go_wp2;refine bodyPost_ret (by simp[results,Tryz.results168,go_sem,o0,o1,o2];try rfl) rfl ?_;exact⟨rfl,((HB.out.setCell (p:=⟨w.heap.size,0,none⟩) (qp _) _).setCell (p:=⟨w.heap.size,1,none⟩) (qp _) _).setCell (p:=⟨w.heap.size,2,none⟩) (qp _) _⟩
 rw[if_neg h3];rw[show(decide (28≤k.k)&&decide (k.k≤29))=false by simp;omega]at CM1;by_cases h4:30≤k.k∧k.k≤42
 ·rw[if_pos h4]
  have e9:IntKind.i64.wrap ((k.k:Int) -30)=(k.k:Int) -30:=by rw[IntKind.wrap_i64];omega
  have hv:(decide (30≤k.k)&&decide (k.k≤42))=true:=by simp;omega
  have HV:=Hm hv;clear h1 h2 h3 h4 hv;go_enter Tryz.func168,Tryz.ntmps168;go_wp2_with fail;rw[←hW2];refine CM1.out.mono ?_;rintro e w3 ⟨rfl,hb⟩;have TB:=zg T2.out hb;have OB:=zg O2.out hb;have t0:=(zb TB 0).trans rfl;have t1:=(zb TB 1).trans rfl;have t2:=(zb TB 2).trans rfl;have t3:=(zb TB 3).trans rfl;have TB:=Hm TB;have OB:=Hm OB;have HB:=Hm (zn A2.out hb);clear hb hW2;go_wp2_with fail;refine(YY k 30 42 w3).mono ?_;rw[HV.out];rintro e w4 ⟨rfl,hb⟩;clear t0 t1 t2 t3;have t0:=(zb (zg TB.out hb) 0).trans rfl;have o0:=(zb (zg OB.out hb) 0).trans rfl;have o1:=(zb (zg OB.out hb) 1).trans rfl;have o2:=(zb (zg OB.out hb) 2).trans rfl;have q0:=zc (zg OB.out hb) 0;have q1:=zc (zg OB.out hb) 1
  have q2:=zc (zg OB.out hb) 2;have HB4:=Hm (zn HB.out hb);clear hb;go_wp2;refine bodyPost_ret (by simp[results,Tryz.results168,go_sem,o0,o1,o2];try rfl) rfl ?_;exact⟨rfl,((HB4.out.setCell (p:=⟨w.heap.size,0,none⟩) (qp _) _).setCell (p:=⟨w.heap.size,1,none⟩) (qp _) _).setCell (p:=⟨w.heap.size,2,none⟩) (qp _) _⟩
 rw[if_neg h4];have hv:(decide (30≤k.k)&&decide (k.k≤42))=false:=by simp;omega
 have HV:=Hm hv;clear h1 h2 h3 h4 hv;go_enter Tryz.func168,Tryz.ntmps168;go_wp2_with fail;rw[←hW2];refine CM1.out.mono ?_;rintro e w3 ⟨rfl,hb⟩;have TB:=zg T2.out hb;have t0:=(zb TB 0).trans rfl;have t1:=(zb TB 1).trans rfl;have t2:=(zb TB 2).trans rfl;have t3:=(zb TB 3).trans rfl;have HB:=Hm (zn A2.out hb);clear hb hW2 TB;go_wp2_with fail;refine(YY k 30 42 w3).mono ?_;rw[HV.out];rintro e w4 ⟨rfl,hb⟩;have HB4:=Hm (zn HB.out hb);clear hb t0 t1 t2 t3;go_wp2_with (go_at_call 47;go_must (refine(Zx B b a c t i o d _ (H.out.below HB4.out) 4).mono ?_;rintro e w5 ⟨rfl,hb5⟩));rw[HK.out];exact⟨rfl,rfl,zn HB4.out hb5⟩
end Go.Proofs.YtbkajklninmhiaaGreatDoor.Par
