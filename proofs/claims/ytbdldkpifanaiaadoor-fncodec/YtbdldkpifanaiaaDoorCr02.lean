import Derived.Test.YtbdldkpifanaiaaDoorCr01
import Derived.Lib.QuietBelow
set_option maxHeartbeats 4000000
set_option maxRecDepth 100000
set_option linter.unusedVariables false
set_option linter.unusedSimpArgs false
namespace Go.Proofs.YtbdldkpifanaiaaDoor.Syn
open Go Go.RowKit
theorem yN {P:Program} {ops:Array Oper} {Q:Exit→Act→World→Prop} {rest:List Oper} {o:Oper} {a:Act} {w:World} {v:Value} (hw:Region.wanted o (yielded ops a.tmps)=true) (hr:(execOp a.eval o).run P w=.ok (.value v) w) (h:wpList P ops Q rest (a.put o.dst v) w):wpList P ops Q (o::rest) a w:=by
 simp only[wpList,hw,if_true];left;unfold Oper.wp;rw[hr];exact h
theorem xQ {t:Array Value} {i:Nat} {v:Value} (h:t[i]? =some v):t.getD i undef=v:=by simp[h]
structure Ch (N:Nat) (a:Act) (n:List UInt8) (p:Nat) (b:Bool):Prop where
 size:a.tmps.size=N
 defers:a.defers=[]
 arg:a.tmps[0]? =some (.string ⟨n.toArray⟩)
 at_:a.tmps[p]? =some (.bool b)
theorem Ch.put {N:Nat} {a:Act} {n:List UInt8} {p:Nat} {b:Bool} (h:Ch N a n p b) (d:Nat) (v:Value) (h0:d≠0) (hp:d≠p):Ch N (a.put (some d) v) n p b:=
 ⟨by simp[Act.put,h.size],h.defers,by simp[Act.put,Array.getElem?_setIfInBounds,h0,h.arg],by simp[Act.put,Array.getElem?_setIfInBounds,hp,h.at_]⟩
theorem ZQ {a:Act} {d:Nat} {v:Value} (h:d<a.tmps.size):(a.put (some d) v).tmps[d]? =some v:=by simp[Act.put,Array.getElem?_setIfInBounds,h]
theorem Wo {a:Act} {d e:Nat} {v u:Value} (h:a.tmps[e]? =some u) (hne:d≠e):(a.put (some d) v).tmps[e]? =some u:=by simp[Act.put,Array.getElem?_setIfInBounds,hne,h]
theorem Vg {P:Program} {o:Oper} {ρ:Operand→Value} {w:World} {T:TypeId} {x y:Operand} {s l:ByteArray} (hu:P.underlying T=some .string) (ho:o.op=.binOp .eql T x y T) (hx:ρ x=.string s) (hc:ρ y=.string l):(execOp ρ o).run P w=.ok (.value (.bool (s.toList==l.toList))) w:=by
 simp[execOp,ho,hx,hc,hu,go_sem]
theorem VI {P:Program} {o:Oper} {ρ:Operand→Value} {w:World} {x:Operand} {v:Value} (ho:o.op=.move x) (hx:ρ x=v):(execOp ρ o).run P w=.ok (.value v) w:=by
 simp[execOp,ho,hx,go_sem]
theorem VH {P:Program} {o:Oper} {ρ:Operand→Value} {w:World} {x y z:Operand} {b:Bool} {v u:Value} (ho:o.op=.pick x y z) (hx:ρ x=.bool b) (hy:ρ y=v) (hz:ρ z=u):(execOp ρ o).run P w=.ok (.value (if b=true then v else u)) w:=by
 simp[execOp,ho,hx,hy,hz,go_sem]
theorem yl {P:Program} {ops:Array Oper} {Q:Exit→Act→World→Prop} {rest:List Oper} {a:Act} {w:World} {N:Nat} {n:List UInt8} {b:Bool} {d1 d2 d3 p j:Nat} {T t1 t2 t3:TypeId} {s1 s2 s3:String} {e1 e2 e3:Array Edge} {lit:List UInt8}
  (hu:P.underlying T=some .string) (h:Ch N a n p b) (hj:(ops[j]?).bind (·.dst)=some p) (hb:0<d1∧p<d1∧d1<d2∧d2<d3∧d3<N)
  (K:∀a',Ch N a' n d3 (b||n==lit)→wpList P ops Q rest a' w):
  wpList P ops Q (⟨some d1,.move (.tmp 0),t1,s1,e1,some (j,false)⟩::⟨some d2,.binOp .eql T (.tmp d1) (.const (.string ⟨lit.toArray⟩)) T,t2,s2,e2,some (j,false)⟩::⟨some d3,.pick (.tmp p) (.const (.bool true)) (.tmp d2),t3,s3,e3,none⟩::rest) a w:=by
 have y:∀a':Act,a'.tmps[p]? =some (.bool b)→yielded ops a'.tmps j=some b:=fun a' h=>by unfold yielded;rw[hj];simp[h]
 cases b with
 |true=>
  have q1:=h.put d1 undef (by omega) (by omega);have q2:=q1.put d2 undef (by omega) (by omega);refine wpList_skip (by simp[Region.wanted,y a h.at_]) ?_;refine wpList_skip (by simp only[Region.wanted];rw[y _ q1.at_];rfl) ?_;refine yN (v:=.bool true) rfl ?_ (K _ ⟨by simp[Act.put,h.size],h.defers,Wo q2.arg (by omega),by rw[Bool.true_or];exact ZQ (by rw[q2.size];omega)⟩);exact VH (b:=true) rfl (xQ q2.at_) rfl rfl
 |false=>
  have q1:=h.put d1 (.string ⟨n.toArray⟩) (by omega) (by omega);have q2:=q1.put d2 (.bool (n==lit)) (by omega) (by omega);have e0:a.eval (.tmp 0)=.string ⟨n.toArray⟩:=xQ h.arg;refine yN (v:=.string ⟨n.toArray⟩) (by simp only[Region.wanted];rw[y a h.at_];rfl) (VI rfl e0) ?_;have e1:(a.put (some d1) (.string ⟨n.toArray⟩)).eval (.tmp d1)=.string ⟨n.toArray⟩:=xQ (ZQ (by rw[h.size];omega));have hr:=Vg (P:=P) (o:=⟨some d2,.binOp .eql T (.tmp d1) (.const (.string ⟨lit.toArray⟩)) T,t2,s2,e2,some (j,false)⟩) (w:=w) hu rfl e1 rfl;simp only[ByteArray.toList_mk]at hr;refine yN (by simp only[Region.wanted];rw[y _ q1.at_];rfl) hr ?_;have e2:((a.put (some d1) (.string ⟨n.toArray⟩)).put (some d2) (.bool (n==lit))).eval (.tmp p)=.bool false:=xQ q2.at_
  have e3:((a.put (some d1) (.string ⟨n.toArray⟩)).put (some d2) (.bool (n==lit))).eval (.tmp d2)=.bool (n==lit):=xQ (ZQ (by rw[q1.size];omega));refine yN (v:=.bool (n==lit)) rfl ?_ (K _ ⟨by simp[Act.put,h.size],h.defers,Wo q2.arg (by omega),by rw[Bool.false_or];exact ZQ (by rw[q2.size];omega)⟩);exact VH (b:=false) rfl e2 rfl e3
theorem zS {P:Program} {ops:Array Oper} {Q:Exit→Act→World→Prop} {rest:List Oper} {a:Act} {w:World} {N:Nat} {n:List UInt8} {b:Bool} {d p:Nat} {t1:TypeId} {s1:String} {e1:Array Edge}
  (h:Ch N a n p b) (hb:p<d∧d<N) (K:∀a',Ch N a' n d b→wpList P ops Q rest a' w):wpList P ops Q (⟨some d,.move (.tmp p),t1,s1,e1,none⟩::rest) a w:=by
 have e0:a.eval (.tmp p)=.bool b:=xQ h.at_;refine yN (v:=.bool b) rfl (VI rfl e0) (K _ ⟨by simp[Act.put,h.size],h.defers,Wo h.arg (by omega),ZQ (by rw[h.size];omega)⟩)
end Go.Proofs.YtbdldkpifanaiaaDoor.Syn
namespace Go.Proofs.YtbdldkpifanaiaaDoor.Syn
open Go Go.RowKit Mem
attribute [local go_sem ↓] Go.wp_at_zero Go.wp_at_succ
theorem UX {P:Program} {o:Oper} {ρ:Operand→Value} {w:World} {T:TypeId} {x y:Operand} {s l:Int} (hu:P.underlying T=some (.int .i64)) (ho:o.op=.binOp .geq T x y T) (hx:ρ x=.int .i64 s) (hc:ρ y=.int .i64 l):(execOp ρ o).run P w=.ok (.value (.bool (decide (l≤s)))) w:=by
 simp[execOp,ho,hx,hc,hu,go_sem]
theorem run_as {P:Program} {o:Oper} {ρ:Operand→Value} {w:World} {x:Operand} {v:Value} (ho:o.op=.assign x) (hx:ρ x=v):(execOp ρ o).run P w=.ok (.value v) w:=by
 simp[execOp,ho,hx,go_sem]
theorem XL (n:List UInt8) (b:Bool):(((((((((((((((((((((((b||n==[108,101,116])||n==[101,97,99,104])||n==[101,110,100])||n==[115,117,109])||n==[102,114,111,109])||n==[105,110])||n==[110,101,118,101,114])||n==[116,104,101,110])||n==[97,112,97,114,116])||n==[108,105,102,111])||n==[114,105,100,101])||n==[115,116,114,101,97,107])||n==[109,111,115,116])||n==[97,110,100])||n==[111,114])||n==[110,111,116])||n==[109,105,110])||n==[109,97,120])||n==[105,102])||n==[104,97,115])||n==[115,107,105,108,108])||n==[116,114,117,101])||n==[102,97,108,115,101])=(b||Zr n rwS):=by
 simp only[Zr,rwS,Bool.or_false,Bool.or_assoc]
theorem Wn (z:Int) (n:List UInt8) (w:World) (CA:Hid (∀W:World,Calls Tryd.prog 89 #[.string ⟨n.toArray⟩] W fun e w'=>e=.returned (.int .i64 z)∧w'=W)):Calls Tryd.prog 86 #[.string ⟨n.toArray⟩] w fun e w'=>e=.returned (.bool (decide (0≤z)||Zr n rwS))∧w'=w:=by
 have hu:=Tryd.underlying9;have hi:=Tryd.underlying2;go_enter Tryd.func86,Tryd.ntmps86;go_wp2_with fail;refine(CA.out _).mono ?_;rintro e w' ⟨rfl,hw⟩;subst hw
 rename_i K X Q' hK hX
 refine hX _ _ ?_;refine yN rfl (UX hi rfl rfl rfl) ?_;refine zS (N:=98) (n:=n) (b:=decide (0≤z)) (p:=5) ⟨rfl,rfl,rfl,rfl⟩ (by omega) fun a0 c0=>?_
 refine yl (lit:=[108,101,116]) hu c0 (j:=3) rfl (by omega) fun a1 c1=>?_
 refine zS c1 (by omega) fun a2 c2=>?_
 refine yl (lit:=[101,97,99,104]) hu c2 (j:=7) rfl (by omega) fun a3 c3=>?_
 refine zS c3 (by omega) fun a4 c4=>?_
 refine yl (lit:=[101,110,100]) hu c4 (j:=11) rfl (by omega) fun a5 c5=>?_
 refine zS c5 (by omega) fun a6 c6=>?_
 refine yl (lit:=[115,117,109]) hu c6 (j:=15) rfl (by omega) fun a7 c7=>?_
 refine zS c7 (by omega) fun a8 c8=>?_
 refine yl (lit:=[102,114,111,109]) hu c8 (j:=19) rfl (by omega) fun a9 c9=>?_
 refine zS c9 (by omega) fun a10 c10=>?_
 refine yl (lit:=[105,110]) hu c10 (j:=23) rfl (by omega) fun a11 c11=>?_
 refine zS c11 (by omega) fun a12 c12=>?_
 refine yl (lit:=[110,101,118,101,114]) hu c12 (j:=27) rfl (by omega) fun a13 c13=>?_
 refine zS c13 (by omega) fun a14 c14=>?_
 refine yl (lit:=[116,104,101,110]) hu c14 (j:=31) rfl (by omega) fun a15 c15=>?_
 refine zS c15 (by omega) fun a16 c16=>?_
 refine yl (lit:=[97,112,97,114,116]) hu c16 (j:=35) rfl (by omega) fun a17 c17=>?_
 refine zS c17 (by omega) fun a18 c18=>?_
 refine yl (lit:=[108,105,102,111]) hu c18 (j:=39) rfl (by omega) fun a19 c19=>?_
 refine zS c19 (by omega) fun a20 c20=>?_
 refine yl (lit:=[114,105,100,101]) hu c20 (j:=43) rfl (by omega) fun a21 c21=>?_
 refine zS c21 (by omega) fun a22 c22=>?_
 refine yl (lit:=[115,116,114,101,97,107]) hu c22 (j:=47) rfl (by omega) fun a23 c23=>?_
 refine zS c23 (by omega) fun a24 c24=>?_
 refine yl (lit:=[109,111,115,116]) hu c24 (j:=51) rfl (by omega) fun a25 c25=>?_
 refine zS c25 (by omega) fun a26 c26=>?_
 refine yl (lit:=[97,110,100]) hu c26 (j:=55) rfl (by omega) fun a27 c27=>?_
 refine zS c27 (by omega) fun a28 c28=>?_
 refine yl (lit:=[111,114]) hu c28 (j:=59) rfl (by omega) fun a29 c29=>?_
 refine zS c29 (by omega) fun a30 c30=>?_
 refine yl (lit:=[110,111,116]) hu c30 (j:=63) rfl (by omega) fun a31 c31=>?_
 refine zS c31 (by omega) fun a32 c32=>?_
 refine yl (lit:=[109,105,110]) hu c32 (j:=67) rfl (by omega) fun a33 c33=>?_
 refine zS c33 (by omega) fun a34 c34=>?_
 refine yl (lit:=[109,97,120]) hu c34 (j:=71) rfl (by omega) fun a35 c35=>?_
 refine zS c35 (by omega) fun a36 c36=>?_
 refine yl (lit:=[105,102]) hu c36 (j:=75) rfl (by omega) fun a37 c37=>?_
 refine zS c37 (by omega) fun a38 c38=>?_
 refine yl (lit:=[104,97,115]) hu c38 (j:=79) rfl (by omega) fun a39 c39=>?_
 refine zS c39 (by omega) fun a40 c40=>?_
 refine yl (lit:=[115,107,105,108,108]) hu c40 (j:=83) rfl (by omega) fun a41 c41=>?_
 refine zS c41 (by omega) fun a42 c42=>?_
 refine yl (lit:=[116,114,117,101]) hu c42 (j:=87) rfl (by omega) fun a43 c43=>?_
 refine zS c43 (by omega) fun a44 c44=>?_
 refine yl (lit:=[102,97,108,115,101]) hu c44 (j:=91) rfl (by omega) fun a45 c45=>?_
 rw[XL]at c45;have e:a45.eval (.tmp 97)=.bool (decide (0≤z)||Zr n rwS):=xQ c45.at_;refine yN (v:=.bool (decide (0≤z)||Zr n rwS)) rfl (run_as rfl e) ?_;refine hK _ _ ?_;have e2:(a45.put (some 2) (.bool (decide (0≤z)||Zr n rwS))).tmps[2]? =some (.bool (decide (0≤z)||Zr n rwS)):=ZQ (by rw[c45.size];omega);have e3:(a45.put (some 2) (.bool (decide (0≤z)||Zr n rwS))).defers=[]:=c45.defers;show Code.wp _ Code.ret Q' (a45.put (some 2) (.bool (decide (0≤z)||Zr n rwS))) _;generalize a45.put (some 2) (.bool (decide (0≤z)||Zr n rwS))=b at e2 e3 ⊢;clear hK hX;go_wp2;refine bodyPost_ret (v:=.bool (decide (0≤z)||Zr n rwS)) ?_ e3 ⟨rfl,rfl⟩;simp only[results,Tryd.results86];simp[e2,go_sem]
theorem Zf (n:List UInt8) (w:World):Calls Tryd.prog 86 #[.string ⟨n.toArray⟩] w fun e w'=>e=.returned (.bool (VO n))∧w'=w:=by
 rw[←U0];exact Wn (atF n 0 13) n w (Hm fun W=>Tu n W)
theorem YV (c:UInt8) (w:World):Calls Tryd.prog 87 #[.int .u8 (c.toNat:Int)] w fun e w'=>e=.returned (.bool (wB c))∧w'=w:=by
 have hc:=c.toNat_lt;obtain⟨z,hz⟩:∃z:Int,z=(c.toNat:Int):=⟨_,rfl⟩
 have hb:wB c=((decide (97≤z)&&decide (z≤122))||(decide (48≤z)&&decide (z≤57))||z==95):=by
  rw[Bool.eq_iff_iff];simp[wB,YS,digB,hz];omega
 rw[hb,←hz];clear hb;have z0:0≤z:=by omega
 have z1:z<256:=by omega
 clear hz hc;have d:(97≤z∧z≤122)∨(97≤z∧¬z≤122)∨(¬97≤z∧48≤z∧z≤57)∨(¬97≤z∧48≤z∧¬z≤57)∨(¬97≤z∧¬48≤z):=by omega
 rcases d with⟨h1,h2⟩|⟨h1,h2⟩|⟨h1,h3,h4⟩|⟨h1,h3,h4⟩|⟨h1,h3⟩
 ·go_enter Tryd.func87,Tryd.ntmps87
  go_wp2;go_ret;exact⟨zH (by simp[*]),rfl⟩
 ·have d2:decide (z≤122)=false:=by simpa using h2
  have h3:48≤z:=by omega
  have d4:decide (z≤57)=false:=by simp;omega
  go_enter Tryd.func87,Tryd.ntmps87;go_wp2;go_ret;exact⟨zH (by simp[*]),rfl⟩
 ·have d1:decide (97≤z)=false:=by simpa using h1
  go_enter Tryd.func87,Tryd.ntmps87;go_wp2;go_ret;exact⟨zH (by simp[*]),rfl⟩
 ·have d1:decide (97≤z)=false:=by simpa using h1
  have d4:decide (z≤57)=false:=by simpa using h4
  go_enter Tryd.func87,Tryd.ntmps87;go_wp2;go_ret;exact⟨zH (by simp[*]),rfl⟩
 ·have d1:decide (97≤z)=false:=by simpa using h1
  have d3:decide (48≤z)=false:=by simpa using h3
  go_enter Tryd.func87,Tryd.ntmps87;go_wp2;go_ret;exact⟨zH (by simp[*]),rfl⟩
theorem all_lt {n:List UInt8} {k:Nat} (hk:k<n.length) (h:wB (n[k])=false):n.all wB=false:=by
 cases ha:n.all wB with
 |false=>rfl
 |true=>rw[List.all_eq_true]at ha;rw[ha _ (List.getElem_mem hk)]at h;cases h
theorem all_of {n:List UInt8} (h:∀j (hj:j<n.length),wB (n[j])=true):n.all wB=true:=by
 rw[List.all_eq_true];intro x hx;obtain⟨j,hj,rfl⟩:=List.mem_iff_getElem.1 hx;exact h j hj
theorem zC (n:List UInt8) (w:World):Calls Tryd.prog 82 #[.string ⟨n.toArray⟩] w fun e w'=>e=.returned (.bool (xl n))∧w'=w:=by
 by_cases h1:(n.length:Int)<1
 ·have hv:xl n=false:=by simp[xl];omega
  rw[hv];clear hv;go_enter Tryd.func82,Tryd.ntmps82;go_wp2_with (go_at_call 86;refine(Zf n _).mono ?_;rintro e w' ⟨rfl,rfl⟩);go_ret;exact⟨rfl,rfl⟩
 have d1:decide ((n.length:Int)<1)=false:=by simpa using h1
 by_cases h2:(16:Int)<(n.length:Int)
 ·have hv:xl n=false:=by simp[xl];omega
  rw[hv];clear hv;go_enter Tryd.func82,Tryd.ntmps82;go_wp2_with (go_at_call 86;refine(Zf n _).mono ?_;rintro e w' ⟨rfl,rfl⟩);go_ret;exact⟨rfl,rfl⟩
 have d2:decide ((16:Int)<(n.length:Int))=false:=by simpa using h2
 cases h3:VO n with
 |true=>
  have hv:xl n=false:=by simp[xl,h3]
  rw[hv];clear hv;go_enter Tryd.func82,Tryd.ntmps82;go_wp2_with (go_at_call 86;refine(Zf n _).mono ?_;rintro e w' ⟨rfl,rfl⟩);go_ret;exact⟨rfl,rfl⟩
 |false=>
  have hv:Hid (xl n=(n.all wB&&YS (n.getD 0 0))):=by
   unfold Hid xl;rw[h3,show decide (1≤n.length)=true by simp;omega,show decide (n.length≤16)=true by simp;omega];simp[Bool.and_comm]
  go_enter Tryd.func82,Tryd.ntmps82;go_wp2_with (go_at_call 86;refine(Zf n _).mono ?_;rintro e w' ⟨rfl,hw⟩;rw[hw];clear hw)
  go_loop [3] (fun i=>∃k:Nat,k≤n.length∧i=.int .i64 (k:Int)∧Hid (∀j (hj:j<n.length),j<k→wB (n[j])=true)) (fun i=>n.length- (intOf i).toNat)
  case atStart=>exact⟨0,by omega,rfl,fun j hj hk=>by omega⟩
  case round=>
   obtain⟨k,hk,rfl,ha⟩:=hrel;by_cases hlt:k<n.length
   ·have k0:(0:Int)≤(k:Int):=by omega
    have k1:(k:Int)<(n.length:Int):=by omega
    cases hb:wB (n[k])with
    |false=>
     have hf:Hid (xl n=false):=by unfold Hid;rw[hv.out,all_lt hlt hb];rfl
     go_wp2_with (go_at_call 87;refine(YV (n[k]) _).mono ?_;rintro e w' ⟨rfl,hw⟩;rw[hw];clear hw);go_ret;rw[hf.out];exact⟨rfl,rfl⟩
    |true=>
     have hf:Hid (∀j (hj:j<n.length),j<k+1→wB (n[j])=true):=fun j hj hjk=>by
      by_cases e:j=k
      ·subst e;exact hb
      ·exact ha.out j hj (by omega)
     go_wp2_with (go_at_call 87;refine(YV (n[k]) _).mono ?_;rintro e w' ⟨rfl,hw⟩;rw[hw];clear hw);exact⟨⟨k+1,by omega,by go_num,hf⟩,by simp[intOf];omega⟩
   ·have hf:Hid (xl n=YS (n.getD 0 0)):=by unfold Hid;rw[hv.out,all_of (fun j hj=>ha.out j hj (by omega))];rfl
    have k1:decide ((k:Int)<(n.length:Int))=false:=by simp;omega
    have p0:0<n.length:=by omega
    have i0:(0:Int)<(n.length:Int):=by omega
    have hg:Hid (n.getD 0 0=n[0]):=by unfold Hid;simp[p0]
    by_cases h9:(97:Int)≤((n[0]).toNat:Int)
    ·go_wp2
     go_ret;rw[hf.out,hg.out];exact⟨zH (by show decide (((n[0]).toNat:Int)≤122)=YS (n[0]);rw[Bool.eq_iff_iff];simp[YS];omega),rfl⟩
    ·have h9':decide ((97:Int)≤((n[0]).toNat:Int))=false:=by simpa using h9
     go_wp2;go_ret;rw[hf.out,hg.out];exact⟨zH (by rw[Bool.eq_iff_iff];simp[YS];omega),rfl⟩
def inR (x lo hi:Int):Bool:=decide (lo≤x)&&decide (x≤hi)
theorem yd (x lo hi:Int) (w:World):Calls Tryd.prog 14 #[.int .i64 x,.int .i64 lo,.int .i64 hi] w fun e w'=>e=.returned (.bool (inR x lo hi))∧w'=w:=by
 by_cases h1:lo≤x
 ·go_enter Tryd.func14,Tryd.ntmps14
  go_wp2;go_ret;exact⟨zH (by simp[inR,h1]),rfl⟩
 ·have hd:decide (lo≤x)=false:=by simpa using h1
  go_enter Tryd.func14,Tryd.ntmps14;go_wp2;go_ret;exact⟨zH (by simp[inR,hd]),rfl⟩
theorem Tg (x lo hi:Int):inR x lo hi=true↔lo≤x∧x≤hi:=by simp[inR]
theorem VY {o:Po} (h:o.k=2):opB o=(o.v==0&&xl o.n):=by
 unfold opB Zn;rw[if_pos h,h];rw[Bool.eq_iff_iff];simp;omega
theorem Yt {o:Po} (h:¬(1≤o.k∧o.k≤10)):opB o=false:=by
 unfold opB
 cases hh:(decide (1≤o.k)&&decide (o.k≤10))with
 |false=>rfl
 |true=>simp at hh;omega
theorem Y4 {o:Po} (h1:1≤o.k) (h2:o.k≤10) (h3:o.k≠2):opB o=(inR o.v 0 (Zn o.k)&&o.n==[]):=by
 unfold opB inR;rw[if_neg h3];simp[h1,h2]
theorem Ti (o:Po) (w:World):Calls Tryd.prog 90 #[.agg #[.int .i64 o.k,.int .i64 o.v,.string ⟨o.n.toArray⟩]] w fun e w'=>e=.returned (.bool (opB o))∧Below w.heap.size w w':=by
 obtain⟨k,v,n⟩:=o;simp only;by_cases h2:k=2
 ·subst h2
  have hv:Hid (opB ⟨2,v,n⟩=(v==0&&xl n)):=VY (o:=⟨2,v,n⟩) rfl
  cases hv0:(v==0)with
  |false=>
   go_enter Tryd.func90,Tryd.ntmps90;go_wp2_with (go_at_call 82;refine(zC n _).mono ?_;rintro e w' ⟨rfl,hw⟩;rw[hw];clear hw);go_ret;rw[hv.out];exact⟨zH (by simp[hv0]),by go_grown⟩
  |true=>
   go_enter Tryd.func90,Tryd.ntmps90;go_wp2_with (go_at_call 82;refine(zC n _).mono ?_;rintro e w' ⟨rfl,hw⟩;rw[hw];clear hw);go_ret;rw[hv.out];exact⟨zH (by simp[hv0]),by go_grown⟩
 have e2:(k==2)=false:=by simpa using h2
 cases hn:(n==[])with
 |false=>
  have hv:opB ⟨k,v,n⟩=false:=by
   by_cases hk:1≤k∧k≤10
   ·rw[Y4 (o:=⟨k,v,n⟩) hk.1 hk.2 h2,hn];simp
   ·exact Yt hk
  rw[hv];clear hv;go_enter Tryd.func90,Tryd.ntmps90;go_wp2_with fail;go_ret;exact⟨rfl,by go_grown⟩
 |true=>
  by_cases hk:1≤k∧k≤10
  ·have hv:Hid (opB ⟨k,v,n⟩=inR v 0 (Zn k)):=by unfold Hid;rw[Y4 (o:=⟨k,v,n⟩) hk.1 hk.2 h2,hn];simp
   have:k=1∨k=3∨k=4∨k=5∨k=6∨k=7∨k=8∨k=9∨k=10:=by omega
   rcases this with rfl|rfl|rfl|rfl|rfl|rfl|rfl|rfl|rfl
   all_goals
    go_enter Tryd.func90,Tryd.ntmps90;go_wp2_with (go_at_call 14;refine(yd _ _ _ _).mono ?_;rintro e w' ⟨rfl,hw⟩;rw[hw];clear hw);go_ret;rw[hv.out];exact⟨zH (by first|rfl|(rw[Bool.eq_iff_iff];simp[inR,Zn];omega)),by go_grown⟩
  ·have hv:opB ⟨k,v,n⟩=false:=Yt hk
   rw[hv];clear hv;have f1:(k==1)=false:=by simp;omega
   have f3:(k==3)=false:=by simp;omega
   have f4:(k==4)=false:=by simp;omega
   have f5:(k==5)=false:=by simp;omega
   have f6:(k==6)=false:=by simp;omega
   have f7:(k==7)=false:=by simp;omega
   have f8:(k==8)=false:=by simp;omega
   have f9:(k==9)=false:=by simp;omega
   have f10:(k==10)=false:=by simp;omega
   go_enter Tryd.func90,Tryd.ntmps90;go_wp2_with fail;go_ret;exact⟨rfl,by go_grown⟩
theorem Wy (o:Po) (w:World) (h:opB o=true):Calls Tryd.prog 72 #[.agg #[.int .i64 o.k,.int .i64 o.v,.string ⟨o.n.toArray⟩]] w fun e w'=>e=.returned (.int .i64 (ar o:Int))∧Below w.heap.size w w':=by
 obtain⟨k,v,n⟩:=o
 have hk:1≤k∧k≤10:=by
  by_cases hk:1≤k∧k≤10
  ·exact hk
  ·rw[Yt (o:=⟨k,v,n⟩) hk]at h;cases h
 clear h;simp only;by_cases h6:k≤6
 ·have hv:Hid (ar ⟨k,v,n⟩=0):=by unfold Hid ar;simp only;rw[if_neg (by omega),if_neg (by omega),if_neg (by omega)]
  go_enter Tryd.func72,Tryd.ntmps72;go_wp2;go_ret;rw[hv.out];exact⟨rfl,by go_grown⟩
 have:k=7∨k=8∨k=9∨k=10:=by omega
 clear h6 hk;rcases this with rfl|rfl|rfl|rfl
 ·have hv:Hid (ar ⟨7,v,n⟩=1):=by unfold Hid ar;simp
  go_enter Tryd.func72,Tryd.ntmps72;go_wp2;go_ret;rw[hv.out];exact⟨rfl,by go_grown⟩
 ·have hv:Hid (ar ⟨8,v,n⟩=1):=by unfold Hid ar;simp
  go_enter Tryd.func72,Tryd.ntmps72;go_wp2;go_ret;rw[hv.out];exact⟨rfl,by go_grown⟩
 ·have hv:Hid (ar ⟨9,v,n⟩=2):=by unfold Hid ar;simp
  go_enter Tryd.func72,Tryd.ntmps72;go_wp2;go_ret;rw[hv.out];exact⟨rfl,by go_grown⟩
 ·cases hq:(v==2)with
  |true=>
   have hv:Hid (ar ⟨10,v,n⟩=3):=by unfold Hid ar;simp at hq;simp[hq]
   have hq':(v !=2)=false:=by simpa using hq
   go_enter Tryd.func72,Tryd.ntmps72;go_wp2;go_ret;rw[hv.out];exact⟨rfl,by go_grown⟩
  |false=>
   have hv:Hid (ar ⟨10,v,n⟩=2):=by unfold Hid ar;simp at hq;simp[hq]
   have hq':(v !=2)=true:=by simpa using hq
   go_enter Tryd.func72,Tryd.ntmps72;go_wp2;go_ret;rw[hv.out];exact⟨rfl,by go_grown⟩
end Go.Proofs.YtbdldkpifanaiaaDoor.Syn
