import Derived.Test.YtbkajklninmhiaaGreatDoorPm02
set_option maxHeartbeats 4000000
set_option maxRecDepth 100000
set_option linter.unusedVariables false
set_option linter.unusedSimpArgs false
namespace Go.Proofs.YtbkajklninmhiaaGreatDoor.Leaf
open Go Go.RowKit
theorem zn {w W w1:World} (h:Below w.heap.size w W) (hb:Below W.heap.size W w1):Below w.heap.size w w1:=h.trans (hb.mono h.size)
end Go.Proofs.YtbkajklninmhiaaGreatDoor.Leaf
namespace Go.Proofs.YtbkajklninmhiaaGreatDoor.Syn
open Go Go.RowKit Mem
attribute [local go_sem ↓] Go.wp_at_zero Go.wp_at_succ
theorem zJ {a b:Bool} (h:a=b):Ending.returned (.bool a)=.returned (.bool b):=by rw[h]
theorem Ww (k:Nat) (w:World) (hk:k<13):Calls Tryz.prog 131 #[.int .i64 (k:Int)] w fun e w'=>e=.returned (.string ⟨(zG (30+k)).toArray⟩)∧w'=w:=by
 have:k=0∨k=1∨k=2∨k=3∨k=4∨k=5∨k=6∨k=7∨k=8∨k=9∨k=10∨k=11∨k=12:=by omega
 clear hk;rcases this with rfl|rfl|rfl|rfl|rfl|rfl|rfl|rfl|rfl|rfl|rfl|rfl|rfl
 all_goals
  go_enter Tryz.func131,Tryz.ntmps131;go_wp2;go_ret;exact⟨rfl,rfl⟩
def atF (n:List UInt8) (m:Nat):Nat→Int
 |0=>-1
 |f+1=>if zG (30+m)==n then (m:Int)else atF n (m+1) f
theorem S8 {n:List UInt8} {k:Nat} (hk:k≤13) (h:∀j,j<k→(zG (30+j)==n)=false):atF n 0 13=atF n k (13-k):=by
 induction k with
 |zero=>rfl
 |succ k ih=>
  rw[ih (by omega) (fun j hj=>h j (by omega)),show 13-k=(13- (k+1))+1 by omega,atF,if_neg (by have:=h k (by omega);simpa using this)]
theorem QM (n:List UInt8) (w:World):Calls Tryz.prog 92 #[.string ⟨n.toArray⟩] w fun e w'=>e=.returned (.int .i64 (atF n 0 13))∧w'=w:=by
 go_enter Tryz.func92,Tryz.ntmps92;go_wp2
 go_loop [3] (fun i=>∃k:Nat,k≤13∧i=.int .i64 (k:Int)∧Hid (∀j,j<k→(zG (30+j)==n)=false)) (fun i=>13- (intOf i).toNat)
 case atStart=>exact⟨0,by omega,rfl,fun j hj=>by omega⟩
 case round=>
  obtain⟨k,hk,rfl,ha⟩:=hrel;by_cases hlt:k<13
  ·cases he:(zG (30+k)==n)with
   |true=>
    have hv:Hid (atF n 0 13=(k:Int)):=by
     unfold Hid;rw[S8 hk ha.out,show 13-k=(12-k)+1 by omega,atF,if_pos he]
    go_wp2_with (go_at_call 131;refine(Ww k _ hlt).mono ?_;rintro e w' ⟨rfl,rfl⟩);go_ret;rw[hv.out];exact⟨rfl,rfl⟩
   |false=>
    have hv:Hid (∀j,j<k+1→(zG (30+j)==n)=false):=fun j hj=>by
     by_cases e:j=k
     ·rw[e];exact he
     ·exact ha.out j (by omega)
    go_wp2_with (go_at_call 131;refine(Ww k _ hlt).mono ?_;rintro e w' ⟨rfl,rfl⟩);exact⟨⟨k+1,by omega,by go_num,hv⟩,by simp[intOf];omega⟩
  ·obtain rfl:k=13:=by omega
   have hv:Hid (atF n 0 13=-1):=by unfold Hid;rw[S8 hk ha.out];rfl
   go_wp2;go_ret;rw[hv.out];exact⟨rfl,rfl⟩
def rwS:List (List UInt8):=[[108,101,116],[101,97,99,104],[101,110,100],[115,117,109],[102,114,111,109],[105,110],[110,101,118,101,114],[116,104,101,110],[97,112,97,114,116],[108,105,102,111],[114,105,100,101],[115,116,114,101,97,107],[109,111,115,116],[97,110,100],[111,114],[110,111,116],[109,105,110],[109,97,120],[105,102],[104,97,115],[115,107,105,108,108],[116,114,117,101],[102,97,108,115,101]]
def Yl (n:List UInt8):List (List UInt8)→Bool
 |[]=>false
 |x::r=>n==x||Yl n r
theorem XU (n:List UInt8) (l:List (List UInt8)):Yl n l=l.contains n:=by
 induction l with
 |nil=>rfl
 |cons x r ih=>rw[Yl,ih,List.contains_cons]
theorem QN (n:List UInt8) (m f:Nat):decide (0≤atF n m f)=((List.range f).any fun j=>zG (30+(m+j))==n):=by
 induction f generalizing m with
 |zero=>simp[atF]
 |succ f ih=>
  unfold atF;rw[List.range_succ_eq_map,List.any_cons,List.any_map]
  split
  ·rename_i h;simp at h;simp[h]
  ·rename_i h
   rw[ih (m+1)];simp only[Nat.add_zero];rw[show(zG (30+m)==n)=false by simpa using h,Bool.false_or]
   congr 1
   funext j
   simp only[Function.comp];rw[Nat.succ_eq_add_one,show m+1+j=m+(j+1) by omega]
theorem WC {a b:List (List UInt8)} (h:(a.all fun x=>b.contains x)=true) {n:List UInt8} (hn:n∈a):n∈b:=by
 rw[List.all_eq_true]at h;have:=h n hn;simpa using this
theorem RJ (n:List UInt8):(decide (0≤atF n 0 13)||Yl n rwS)=Xt n:=by
 rw[QN,XU];unfold Xt;rw[Bool.eq_iff_iff,Bool.or_eq_true,List.any_eq_true,List.contains_iff_mem,List.contains_iff_mem];have k1:(((List.range 13).map fun j=>zG (30+(0+j))).all fun x=>rw.contains x)=true:=by decide+kernel
 have k2:(rwS.all fun x=>rw.contains x)=true:=by decide+kernel
 have k3:(rw.all fun x=>(((List.range 13).map fun j=>zG (30+(0+j)))++rwS).contains x)=true:=by decide+kernel
 constructor
 ·rintro(⟨j,hj,he⟩|h)
  ·refine WC k1 (List.mem_map.2 ⟨j,hj,by simpa using he⟩)
  ·exact WC k2 h
 ·intro h
  rcases List.mem_append.1 (WC k3 h)with h|h
  ·obtain⟨j,hj,he⟩:=List.mem_map.1 h
   exact Or.inl ⟨j,hj,by simpa using he⟩
  ·exact Or.inr h
end Go.Proofs.YtbkajklninmhiaaGreatDoor.Syn
namespace Go.Proofs.YtbkajklninmhiaaGreatDoor.Syn
open Go Go.RowKit
theorem xq {P:Program} {ops:Array Oper} {Q:Exit→Act→World→Prop} {rest:List Oper} {o:Oper} {a:Act} {w:World} {v:Value} (hw:Region.wanted o (yielded ops a.tmps)=true) (hr:(execOp a.eval o).run P w=.ok (.value v) w) (h:wpList P ops Q rest (a.put o.dst v) w):wpList P ops Q (o::rest) a w:=by
 simp only[wpList,hw,if_true];left;unfold Oper.wp;rw[hr];exact h
theorem Zz {t:Array Value} {i:Nat} {v:Value} (h:t[i]? =some v):t.getD i undef=v:=by simp[h]
structure Ch (N:Nat) (a:Act) (n:List UInt8) (p:Nat) (b:Bool):Prop where
 size:a.tmps.size=N
 defers:a.defers=[]
 arg:a.tmps[0]? =some (.string ⟨n.toArray⟩)
 at_:a.tmps[p]? =some (.bool b)
theorem Ch.put {N:Nat} {a:Act} {n:List UInt8} {p:Nat} {b:Bool} (h:Ch N a n p b) (d:Nat) (v:Value) (h0:d≠0) (hp:d≠p):Ch N (a.put (some d) v) n p b:=
 ⟨by simp[Act.put,h.size],h.defers,by simp[Act.put,Array.getElem?_setIfInBounds,h0,h.arg],by simp[Act.put,Array.getElem?_setIfInBounds,hp,h.at_]⟩
theorem YS {a:Act} {d:Nat} {v:Value} (h:d<a.tmps.size):(a.put (some d) v).tmps[d]? =some v:=by simp[Act.put,Array.getElem?_setIfInBounds,h]
theorem VU {a:Act} {d e:Nat} {v u:Value} (h:a.tmps[e]? =some u) (hne:d≠e):(a.put (some d) v).tmps[e]? =some u:=by simp[Act.put,Array.getElem?_setIfInBounds,hne,h]
theorem Tc {P:Program} {o:Oper} {ρ:Operand→Value} {w:World} {T:TypeId} {x y:Operand} {s l:ByteArray} (hu:P.underlying T=some .string) (ho:o.op=.binOp .eql T x y T) (hx:ρ x=.string s) (hc:ρ y=.string l):(execOp ρ o).run P w=.ok (.value (.bool (s.toList==l.toList))) w:=by
 simp[execOp,ho,hx,hc,hu,go_sem]
theorem TQ {P:Program} {o:Oper} {ρ:Operand→Value} {w:World} {x:Operand} {v:Value} (ho:o.op=.move x) (hx:ρ x=v):(execOp ρ o).run P w=.ok (.value v) w:=by
 simp[execOp,ho,hx,go_sem]
theorem TP {P:Program} {o:Oper} {ρ:Operand→Value} {w:World} {x y z:Operand} {b:Bool} {v u:Value} (ho:o.op=.pick x y z) (hx:ρ x=.bool b) (hy:ρ y=v) (hz:ρ z=u):(execOp ρ o).run P w=.ok (.value (if b=true then v else u)) w:=by
 simp[execOp,ho,hx,hy,hz,go_sem]
theorem yD {P:Program} {ops:Array Oper} {Q:Exit→Act→World→Prop} {rest:List Oper} {a:Act} {w:World} {N:Nat} {n:List UInt8} {b:Bool} {d1 d2 d3 p j:Nat} {T t1 t2 t3:TypeId} {s1 s2 s3:String} {e1 e2 e3:Array Edge} {lit:List UInt8}
  (hu:P.underlying T=some .string) (h:Ch N a n p b) (hj:(ops[j]?).bind (·.dst)=some p) (hb:0<d1∧p<d1∧d1<d2∧d2<d3∧d3<N)
  (K:∀a',Ch N a' n d3 (b||n==lit)→wpList P ops Q rest a' w):
  wpList P ops Q (⟨some d1,.move (.tmp 0),t1,s1,e1,some (j,false)⟩::⟨some d2,.binOp .eql T (.tmp d1) (.const (.string ⟨lit.toArray⟩)) T,t2,s2,e2,some (j,false)⟩::⟨some d3,.pick (.tmp p) (.const (.bool true)) (.tmp d2),t3,s3,e3,none⟩::rest) a w:=by
 have y:∀a':Act,a'.tmps[p]? =some (.bool b)→yielded ops a'.tmps j=some b:=fun a' h=>by unfold yielded;rw[hj];simp[h]
 cases b with
 |true=>
  have q1:=h.put d1 undef (by omega) (by omega);have q2:=q1.put d2 undef (by omega) (by omega);refine wpList_skip (by simp[Region.wanted,y a h.at_]) ?_;refine wpList_skip (by simp only[Region.wanted];rw[y _ q1.at_];rfl) ?_;refine xq (v:=.bool true) rfl ?_ (K _ ⟨by simp[Act.put,h.size],h.defers,VU q2.arg (by omega),by rw[Bool.true_or];exact YS (by rw[q2.size];omega)⟩);exact TP (b:=true) rfl (Zz q2.at_) rfl rfl
 |false=>
  have q1:=h.put d1 (.string ⟨n.toArray⟩) (by omega) (by omega);have q2:=q1.put d2 (.bool (n==lit)) (by omega) (by omega);have e0:a.eval (.tmp 0)=.string ⟨n.toArray⟩:=Zz h.arg;refine xq (v:=.string ⟨n.toArray⟩) (by simp only[Region.wanted];rw[y a h.at_];rfl) (TQ rfl e0) ?_;have e1:(a.put (some d1) (.string ⟨n.toArray⟩)).eval (.tmp d1)=.string ⟨n.toArray⟩:=Zz (YS (by rw[h.size];omega));have hr:=Tc (P:=P) (o:=⟨some d2,.binOp .eql T (.tmp d1) (.const (.string ⟨lit.toArray⟩)) T,t2,s2,e2,some (j,false)⟩) (w:=w) hu rfl e1 rfl;simp only[ByteArray.toList_mk]at hr;refine xq (by simp only[Region.wanted];rw[y _ q1.at_];rfl) hr ?_;have e2:((a.put (some d1) (.string ⟨n.toArray⟩)).put (some d2) (.bool (n==lit))).eval (.tmp p)=.bool false:=Zz q2.at_
  have e3:((a.put (some d1) (.string ⟨n.toArray⟩)).put (some d2) (.bool (n==lit))).eval (.tmp d2)=.bool (n==lit):=Zz (YS (by rw[q1.size];omega));refine xq (v:=.bool (n==lit)) rfl ?_ (K _ ⟨by simp[Act.put,h.size],h.defers,VU q2.arg (by omega),by rw[Bool.false_or];exact YS (by rw[q2.size];omega)⟩);exact TP (b:=false) rfl e2 rfl e3
theorem zZ {P:Program} {ops:Array Oper} {Q:Exit→Act→World→Prop} {rest:List Oper} {a:Act} {w:World} {N:Nat} {n:List UInt8} {b:Bool} {d p:Nat} {t1:TypeId} {s1:String} {e1:Array Edge}
  (h:Ch N a n p b) (hb:p<d∧d<N) (K:∀a',Ch N a' n d b→wpList P ops Q rest a' w):wpList P ops Q (⟨some d,.move (.tmp p),t1,s1,e1,none⟩::rest) a w:=by
 have e0:a.eval (.tmp p)=.bool b:=Zz h.at_;refine xq (v:=.bool b) rfl (TQ rfl e0) (K _ ⟨by simp[Act.put,h.size],h.defers,VU h.arg (by omega),YS (by rw[h.size];omega)⟩)
end Go.Proofs.YtbkajklninmhiaaGreatDoor.Syn
namespace Go.Proofs.YtbkajklninmhiaaGreatDoor.Syn
open Go Go.RowKit Mem
attribute [local go_sem ↓] Go.wp_at_zero Go.wp_at_succ
theorem RC {P:Program} {o:Oper} {ρ:Operand→Value} {w:World} {T:TypeId} {x y:Operand} {s l:Int} (hu:P.underlying T=some (.int .i64)) (ho:o.op=.binOp .geq T x y T) (hx:ρ x=.int .i64 s) (hc:ρ y=.int .i64 l):(execOp ρ o).run P w=.ok (.value (.bool (decide (l≤s)))) w:=by
 simp[execOp,ho,hx,hc,hu,go_sem]
theorem run_as {P:Program} {o:Oper} {ρ:Operand→Value} {w:World} {x:Operand} {v:Value} (ho:o.op=.assign x) (hx:ρ x=v):(execOp ρ o).run P w=.ok (.value v) w:=by
 simp[execOp,ho,hx,go_sem]
theorem Vh (n:List UInt8) (b:Bool):(((((((((((((((((((((((b||n==[108,101,116])||n==[101,97,99,104])||n==[101,110,100])||n==[115,117,109])||n==[102,114,111,109])||n==[105,110])||n==[110,101,118,101,114])||n==[116,104,101,110])||n==[97,112,97,114,116])||n==[108,105,102,111])||n==[114,105,100,101])||n==[115,116,114,101,97,107])||n==[109,111,115,116])||n==[97,110,100])||n==[111,114])||n==[110,111,116])||n==[109,105,110])||n==[109,97,120])||n==[105,102])||n==[104,97,115])||n==[115,107,105,108,108])||n==[116,114,117,101])||n==[102,97,108,115,101])=(b||Yl n rwS):=by
 simp only[Yl,rwS,Bool.or_false,Bool.or_assoc]
theorem VT (z:Int) (n:List UInt8) (w:World) (CA:Hid (∀W:World,Calls Tryz.prog 92 #[.string ⟨n.toArray⟩] W fun e w'=>e=.returned (.int .i64 z)∧w'=W)):Calls Tryz.prog 52 #[.string ⟨n.toArray⟩] w fun e w'=>e=.returned (.bool (decide (0≤z)||Yl n rwS))∧w'=w:=by
 have hu:=Tryz.underlying9;have hi:=Tryz.underlying2;go_enter Tryz.func52,Tryz.ntmps52;go_wp2_with fail;refine(CA.out _).mono ?_;rintro e w' ⟨rfl,hw⟩;subst hw
 rename_i K X Q' hK hX
 refine hX _ _ ?_;refine xq rfl (RC hi rfl rfl rfl) ?_;refine zZ (N:=98) (n:=n) (b:=decide (0≤z)) (p:=5) ⟨rfl,rfl,rfl,rfl⟩ (by omega) fun a0 c0=>?_
 refine yD (lit:=[108,101,116]) hu c0 (j:=3) rfl (by omega) fun a1 c1=>?_
 refine zZ c1 (by omega) fun a2 c2=>?_
 refine yD (lit:=[101,97,99,104]) hu c2 (j:=7) rfl (by omega) fun a3 c3=>?_
 refine zZ c3 (by omega) fun a4 c4=>?_
 refine yD (lit:=[101,110,100]) hu c4 (j:=11) rfl (by omega) fun a5 c5=>?_
 refine zZ c5 (by omega) fun a6 c6=>?_
 refine yD (lit:=[115,117,109]) hu c6 (j:=15) rfl (by omega) fun a7 c7=>?_
 refine zZ c7 (by omega) fun a8 c8=>?_
 refine yD (lit:=[102,114,111,109]) hu c8 (j:=19) rfl (by omega) fun a9 c9=>?_
 refine zZ c9 (by omega) fun a10 c10=>?_
 refine yD (lit:=[105,110]) hu c10 (j:=23) rfl (by omega) fun a11 c11=>?_
 refine zZ c11 (by omega) fun a12 c12=>?_
 refine yD (lit:=[110,101,118,101,114]) hu c12 (j:=27) rfl (by omega) fun a13 c13=>?_
 refine zZ c13 (by omega) fun a14 c14=>?_
 refine yD (lit:=[116,104,101,110]) hu c14 (j:=31) rfl (by omega) fun a15 c15=>?_
 refine zZ c15 (by omega) fun a16 c16=>?_
 refine yD (lit:=[97,112,97,114,116]) hu c16 (j:=35) rfl (by omega) fun a17 c17=>?_
 refine zZ c17 (by omega) fun a18 c18=>?_
 refine yD (lit:=[108,105,102,111]) hu c18 (j:=39) rfl (by omega) fun a19 c19=>?_
 refine zZ c19 (by omega) fun a20 c20=>?_
 refine yD (lit:=[114,105,100,101]) hu c20 (j:=43) rfl (by omega) fun a21 c21=>?_
 refine zZ c21 (by omega) fun a22 c22=>?_
 refine yD (lit:=[115,116,114,101,97,107]) hu c22 (j:=47) rfl (by omega) fun a23 c23=>?_
 refine zZ c23 (by omega) fun a24 c24=>?_
 refine yD (lit:=[109,111,115,116]) hu c24 (j:=51) rfl (by omega) fun a25 c25=>?_
 refine zZ c25 (by omega) fun a26 c26=>?_
 refine yD (lit:=[97,110,100]) hu c26 (j:=55) rfl (by omega) fun a27 c27=>?_
 refine zZ c27 (by omega) fun a28 c28=>?_
 refine yD (lit:=[111,114]) hu c28 (j:=59) rfl (by omega) fun a29 c29=>?_
 refine zZ c29 (by omega) fun a30 c30=>?_
 refine yD (lit:=[110,111,116]) hu c30 (j:=63) rfl (by omega) fun a31 c31=>?_
 refine zZ c31 (by omega) fun a32 c32=>?_
 refine yD (lit:=[109,105,110]) hu c32 (j:=67) rfl (by omega) fun a33 c33=>?_
 refine zZ c33 (by omega) fun a34 c34=>?_
 refine yD (lit:=[109,97,120]) hu c34 (j:=71) rfl (by omega) fun a35 c35=>?_
 refine zZ c35 (by omega) fun a36 c36=>?_
 refine yD (lit:=[105,102]) hu c36 (j:=75) rfl (by omega) fun a37 c37=>?_
 refine zZ c37 (by omega) fun a38 c38=>?_
 refine yD (lit:=[104,97,115]) hu c38 (j:=79) rfl (by omega) fun a39 c39=>?_
 refine zZ c39 (by omega) fun a40 c40=>?_
 refine yD (lit:=[115,107,105,108,108]) hu c40 (j:=83) rfl (by omega) fun a41 c41=>?_
 refine zZ c41 (by omega) fun a42 c42=>?_
 refine yD (lit:=[116,114,117,101]) hu c42 (j:=87) rfl (by omega) fun a43 c43=>?_
 refine zZ c43 (by omega) fun a44 c44=>?_
 refine yD (lit:=[102,97,108,115,101]) hu c44 (j:=91) rfl (by omega) fun a45 c45=>?_
 rw[Vh]at c45;have e:a45.eval (.tmp 97)=.bool (decide (0≤z)||Yl n rwS):=Zz c45.at_;refine xq (v:=.bool (decide (0≤z)||Yl n rwS)) rfl (run_as rfl e) ?_;refine hK _ _ ?_;have e2:(a45.put (some 2) (.bool (decide (0≤z)||Yl n rwS))).tmps[2]? =some (.bool (decide (0≤z)||Yl n rwS)):=YS (by rw[c45.size];omega);have e3:(a45.put (some 2) (.bool (decide (0≤z)||Yl n rwS))).defers=[]:=c45.defers;show Code.wp _ Code.ret Q' (a45.put (some 2) (.bool (decide (0≤z)||Yl n rwS))) _;generalize a45.put (some 2) (.bool (decide (0≤z)||Yl n rwS))=b at e2 e3 ⊢;clear hK hX;go_wp2;refine bodyPost_ret (v:=.bool (decide (0≤z)||Yl n rwS)) ?_ e3 ⟨rfl,rfl⟩;simp only[results,Tryz.results52];simp[e2,go_sem]
theorem ZY (n:List UInt8) (w:World):Calls Tryz.prog 52 #[.string ⟨n.toArray⟩] w fun e w'=>e=.returned (.bool (Xt n))∧w'=w:=by
 rw[←RJ];exact VT (atF n 0 13) n w (Hm fun W=>QM n W)
end Go.Proofs.YtbkajklninmhiaaGreatDoor.Syn
