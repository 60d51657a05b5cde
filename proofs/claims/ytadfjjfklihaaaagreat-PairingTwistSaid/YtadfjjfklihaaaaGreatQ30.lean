/- The tower made anew; what is exported: sums, products, one. (Cut to what is reached, written closely: PrW2 · PrT2 · PrH2 · TwU · FCrv · TwA.) -/
import Derived.Test.YtadfjjfklihaaaaGreatQ29
import Derived.Test.YtadfjjfklihaaaaGreatP15
import Derived.Test.YtadfjjfklihaaaaGreatQ28
import Derived.Test.YtadfjjfklihaaaaGreatP19
set_option linter.all false
set_option maxRecDepth 100000
set_option maxHeartbeats 8000000
namespace Go.Proofs.YtadfjjfklihaaaaGreat
open Go.RowKit
namespace Sy
def wl2(a:N2):List Nat:=[a.1,a.2]
def zJ2:N2 × N2 × N2:=(z2,z2,z2)
def plc2(P:N2 × N2 × Bool):N2 × N2 × N2:=bif P.2.2 then zJ2 else (P.1,P.2.1,((1,0):N2))
def zr2(T:N2 × N2 × N2):Bool:=eqL (wl2 (T.2.2)) (wl2 (z2))
section
variable {A S M:N2->N2->N2} {I:N2->N2 × Bool}
def blw2(A:N2->N2->N2)(x:N2):Bool:=eqL (wl2 (A x z2)) (wl2 (x))
def fit2(A M:N2->N2->N2)(x y:N2):Bool:=bif (bif blw2 A x then blw2 A y else false)then eqL (wl2 (M y y)) (wl2 (A (M (M x x) x) b2v))else false
def ptw2(A S M:N2->N2->N2)(T:N2 × N2 × N2):(N2 × N2 × N2) × N2 :=
 let d:=A T.2.1 T.2.1
 let mi:=M T.1 (M d d)
 let sq:=M T.1 T.1
 let sl:=A sq (A sq sq)
 let x:=S (M sl sl) (A mi mi)
 ((x,S (M sl (S mi x)) (M d (M T.2.1 (M d d))),M d T.2.2),sl)
def pac2(S M:N2->N2->N2)(T:N2 × N2 × N2)(x2:N2):N2:=S (M x2 (M T.2.2 T.2.2)) T.1
def pup2(S M:N2->N2->N2)(T:N2 × N2 × N2)(y2:N2):N2:=S (M y2 (M (M T.2.2 T.2.2) T.2.2)) T.2.1
def pad2(A S M:N2->N2->N2)(T:N2 × N2 × N2)(x2 y2:N2):(N2 × N2 × N2) × N2 :=
 let ac:=pac2 S M T x2
 let sl:=pup2 S M T y2
 let mi:=M T.1 (M ac ac)
 let th:=M ac (M ac ac)
 let x:=S (M sl sl) (A th (A mi mi))
 ((x,S (M sl (S mi x)) (M T.2.1 th),M T.2.2 ac),sl)
def same2(S M:N2->N2->N2)(T:N2 × N2 × N2)(x2 y2:N2):Bool:=bif eqL (wl2 (pac2 S M T x2)) (wl2 (z2))then eqL (wl2 (pup2 S M T y2)) (wl2 (z2))else false
def ppl2(A S M:N2->N2->N2)(T:N2 × N2 × N2)(P:N2 × N2 × Bool):(N2 × N2 × N2) × N2 :=
 bif P.2.2 then (T,z2)else bif zr2 T then (plc2 P,z2)else bif same2 S M T P.1 P.2.1 then ptw2 A S M T else pad2 A S M T P.1 P.2.1
def dP2:SV->Option (N2 × N2 × Bool)
 | .ap x (.ap y (.ap (.b n) .e))=>match d2 x,d2 y with
  | some a,some b=>some (a,b,n)
  | _,_=>none
 | _=>none
theorem dP2_ok(x:SV)(T:N2 × N2 × Bool)(h:dP2 x=some T):x=pS2 T:=by
 unfold dP2 at h
 split at h
 ·split at h
  ·rename_i h0 h1
   cases h;rw[d2_ok _ _ h0,d2_ok _ _ h1];rfl
  ·cases h
 ·cases h
def gN2(op:(N2)->SV):List SV->Option (SV × List Ob)
 | [xa]=>match d2 xa with
  | some a=>some (op a,[])
  | _=>none
 | _=>none
theorem gN2_ok{op:(N2)->SV}{us:List SV}{r:SV}{q:List Ob}(h:gN2 op us=some (r,q)):∃ a,us=[F2s a]/\r=op a:=by
 unfold gN2 at h
 split at h
 ·split at h
  ·rename_i ha
   cases h;exact⟨_,by rw[d2_ok _ _ ha],rfl⟩
  ·cases h
 ·cases h
def gNN2(op:(N2)->(N2)->SV):List SV->Option (SV × List Ob)
 | [xa,xb]=>match d2 xa,d2 xb with
  | some a,some b=>some (op a b,[])
  | _,_=>none
 | _=>none
theorem gNN2_ok{op:(N2)->(N2)->SV}{us:List SV}{r:SV}{q:List Ob}(h:gNN2 op us=some (r,q)):∃ a b,us=[F2s a,F2s b]/\r=op a b:=by
 unfold gNN2 at h
 split at h
 ·split at h
  ·rename_i ha hb
   cases h;exact⟨_,_,by rw[d2_ok _ _ ha,d2_ok _ _ hb],rfl⟩
  ·cases h
 ·cases h
def gJ2(op:(N2 × N2 × N2)->SV):List SV->Option (SV × List Ob)
 | [xa]=>match dJ2 xa with
  | some a=>some (op a,[])
  | _=>none
 | _=>none
theorem gJ2_ok{op:(N2 × N2 × N2)->SV}{us:List SV}{r:SV}{q:List Ob}(h:gJ2 op us=some (r,q)):∃ a,us=[jS2 a]/\r=op a:=by
 unfold gJ2 at h
 split at h
 ·split at h
  ·rename_i ha
   cases h;exact⟨_,by rw[dJ2_ok _ _ ha],rfl⟩
  ·cases h
 ·cases h
def gP2(op:(N2 × N2 × Bool)->SV):List SV->Option (SV × List Ob)
 | [xa]=>match dP2 xa with
  | some a=>some (op a,[])
  | _=>none
 | _=>none
theorem gP2_ok{op:(N2 × N2 × Bool)->SV}{us:List SV}{r:SV}{q:List Ob}(h:gP2 op us=some (r,q)):∃ a,us=[pS2 a]/\r=op a:=by
 unfold gP2 at h
 split at h
 ·split at h
  ·rename_i ha
   cases h;exact⟨_,by rw[dP2_ok _ _ ha],rfl⟩
  ·cases h
 ·cases h
def gJP2(op:(N2 × N2 × N2)->(N2 × N2 × Bool)->SV):List SV->Option (SV × List Ob)
 | [xa,xb]=>match dJ2 xa,dP2 xb with
  | some a,some b=>some (op a b,[])
  | _,_=>none
 | _=>none
theorem gJP2_ok{op:(N2 × N2 × N2)->(N2 × N2 × Bool)->SV}{us:List SV}{r:SV}{q:List Ob}(h:gJP2 op us=some (r,q)):∃ a b,us=[jS2 a,pS2 b]/\r=op a b:=by
 unfold gJP2 at h
 split at h
 ·split at h
  ·rename_i ha hb
   cases h;exact⟨_,_,by rw[dJ2_ok _ _ ha,dP2_ok _ _ hb],rfl⟩
  ·cases h
 ·cases h
def gKP2(op:(Nat)->(N2 × N2 × Bool)->SV):List SV->Option (SV × List Ob)
 | [xa,xb]=>match dW xa,dP2 xb with
  | some a,some b=>some (op a b,[])
  | _,_=>none
 | _=>none
theorem gKP2_ok{op:(Nat)->(N2 × N2 × Bool)->SV}{us:List SV}{r:SV}{q:List Ob}(h:gKP2 op us=some (r,q)):∃ a b,us=[.w a,pS2 b]/\r=op a b:=by
 unfold gKP2 at h
 split at h
 ·split at h
  ·rename_i ha hb
   cases h;exact⟨_,_,by rw[dW_ok _ _ ha,dP2_ok _ _ hb],rfl⟩
  ·cases h
 ·cases h
def gPP2(op:(N2 × N2 × Bool)->(N2 × N2 × Bool)->SV):List SV->Option (SV × List Ob)
 | [xa,xb]=>match dP2 xa,dP2 xb with
  | some a,some b=>some (op a b,[])
  | _,_=>none
 | _=>none
theorem gPP2_ok{op:(N2 × N2 × Bool)->(N2 × N2 × Bool)->SV}{us:List SV}{r:SV}{q:List Ob}(h:gPP2 op us=some (r,q)):∃ a b,us=[pS2 a,pS2 b]/\r=op a b:=by
 unfold gPP2 at h
 split at h
 ·split at h
  ·rename_i ha hb
   cases h;exact⟨_,_,by rw[dP2_ok _ _ ha,dP2_ok _ _ hb],rfl⟩
  ·cases h
 ·cases h
theorem b2v_ok:(F2s b2v).ok:=⟨(by decide +kernel:b2v.1<2^256),(by decide +kernel:b2v.2<2^256),trivial⟩
theorem one2_ok:(F2s (1,0)).ok:=⟨(by decide:(1:Nat)<2^256),w0_ok,trivial⟩
theorem cv2_ok:cv2.ok:=⟨trivial,trivial,trivial,trivial,one2_ok,b2v_ok,trivial,trivial⟩
theorem none2_is:Is0 90 shJ2 fun T=>.b (zr2 T):=fun _ _ _=>cV1_ok (fun _ _=>by kernel_rfl) (fun _ _=>⟨trivial,rfl⟩) fun T oT w =>
 calls_at (E1_ok (γ0:=o0) (more:=[]) trivial) (by kernel_rfl) (fun _=>0) Tryz.func90 (by kernel_rfl) [jS2 T] ⟨⟨oT,rfl⟩,trivial⟩ (by kernel_rfl) (by kernel_rfl) (.leaf (.b (zr2 T))) (by kernel_rfl) rfl
theorem plc2_ok{P:N2 × N2 × Bool}(h:(pS2 P).ok):(jS2 (plc2 P)).ok:=by
 unfold plc2;cases P.2.2
 ·exact⟨h.1,h.2.1,one2_ok,trivial⟩
 ·exact⟨F2z_ok,F2z_ok,F2z_ok,trivial⟩
theorem below2_is(hA:Is00 84 sh2 sh2 fun a b=>F2s (A a b)):Is2c 121 (gN2 fun a=>SV.b (blw2 A a)):=fun _ _ _=>con2_ok (fun _ _=>by kernel_rfl) fun us r q hr _ hok=>by
  obtain⟨a,rfl,rfl⟩:=gN2_ok hr;have oa:=hok (F2s a) (by simp);have key:=(⟨trivial,rfl⟩:(SV.b (blw2 A a)).ok/\(SV.b (blw2 A a)).lt 0=true)
  refine⟨key.1,key.2,fun γ w=>?_⟩;simp only[List.map_cons,List.map_nil];rw[val0 (γ:=γ) key.2];rw[val0 (γ:=γ) (x:=F2s a) rfl];have h:=calls_at (w0:=w) (V:=(SV.b (blw2 A a)).val fun _=>0) (E1_ok (γ0:=o0) (more:=[cV2 84 sh2 sh2 fun a b=>F2s (A a b)]) ⟨hA _ _ _,trivial⟩) (by kernel_rfl) (fun _=>0) Tryz.func121 (by kernel_rfl) [cv2,F2s a] ⟨⟨cv2_ok,rfl⟩,⟨oa,rfl⟩,trivial⟩ (by kernel_rfl) (by kernel_rfl)
   (.leaf (.b (blw2 A a))) (by kernel_rfl) (leaf_sh (val0 (x:=.b (blw2 A a)) rfl))
  exact h
theorem fit2_is(hA:Is00 84 sh2 sh2 fun a b=>F2s (A a b))(hM:Is00 86 sh2 sh2 fun a b=>F2s (M a b))(hB:Is2c 121 (gN2 fun a=>SV.b (blw2 A a))):Is2c 88 (gNN2 fun a b=>SV.b (fit2 A M a b)):=fun _ _ _=>con2_ok (fun _ _=>by kernel_rfl) fun us r q hr _ hok=>by
  obtain⟨a,b,rfl,rfl⟩:=gNN2_ok hr;have oa:=hok (F2s a) (by simp);have ob:=hok (F2s b) (by simp);have key:=(⟨trivial,rfl⟩:(SV.b (fit2 A M a b)).ok/\(SV.b (fit2 A M a b)).lt 0=true)
  refine⟨key.1,key.2,fun γ w=>?_⟩;simp only[List.map_cons,List.map_nil];rw[val0 (γ:=γ) key.2];rw[val0 (γ:=γ) (x:=F2s a) rfl];rw[val0 (γ:=γ) (x:=F2s b) rfl];have h:=calls_at (w0:=w) (V:=(SV.b (fit2 A M a b)).val fun _=>0) (E1_ok (γ0:=o0) (more:=[cV2 84 sh2 sh2 fun a b=>F2s (A a b),cV2 86 sh2 sh2 fun a b=>F2s (M a b),con2 121 (gN2 fun a=>SV.b (blw2 A a))]) ⟨hA _ _ _,hM _ _ _,hB _ _ _,trivial⟩) (by kernel_rfl) (fun _=>0) Tryz.func88 (by kernel_rfl) [cv2,F2s a,F2s b] ⟨⟨cv2_ok,rfl⟩,⟨oa,rfl⟩,⟨ob,rfl⟩,trivial⟩ (by kernel_rfl) (by kernel_rfl)
   (.leaf (.b (fit2 A M a b))) (by kernel_rfl) (leaf_sh (val0 (x:=.b (fit2 A M a b)) rfl))
  exact h
theorem place2_is :Is2c 92 (gP2 fun a=>jS2 (plc2 a)):=fun _ _ _=>con2_ok (fun _ _=>by kernel_rfl) fun us r q hr _ hok=>by
  obtain⟨a,rfl,rfl⟩:=gP2_ok hr;have oa:=hok (pS2 a) (by simp);have key:=(⟨plc2_ok oa,rfl⟩:(jS2 (plc2 a)).ok/\(jS2 (plc2 a)).lt 0=true)
  refine⟨key.1,key.2,fun γ w=>?_⟩;simp only[List.map_cons,List.map_nil];rw[val0 (γ:=γ) key.2];rw[val0 (γ:=γ) (x:=pS2 a) rfl];have h:=calls_at (w0:=w) (V:=(jS2 (plc2 a)).val fun _=>0) (E1_ok (γ0:=o0) (more:=[]) trivial) (by kernel_rfl) (fun _=>0) Tryz.func92 (by kernel_rfl) [cv2,pS2 a] ⟨⟨cv2_ok,rfl⟩,⟨oa,rfl⟩,trivial⟩ (by kernel_rfl) (by kernel_rfl)
   (.br a.2.2 (.leaf (jS2 zJ2)) (.leaf (jS2 (a.1,a.2.1,((1,0):N2))))) (by kernel_rfl) (br_sh (fun h=>leaf_sh (by unfold plc2;rw[h];rfl)) fun h=>leaf_sh (by unfold plc2;rw[h];rfl))
  exact h
theorem twice2_is(oA:∀ a b,(F2s (A a b)).ok)(oS:∀ a b,(F2s (S a b)).ok)(oM:∀ a b,(F2s (M a b)).ok)(hA:Is00 84 sh2 sh2 fun a b=>F2s (A a b))(hS:Is00 85 sh2 sh2 fun a b=>F2s (S a b))(hM:Is00 86 sh2 sh2 fun a b=>F2s (M a b)):Is2c 122 (gJ2 fun a=>SV.tu (jS2 (ptw2 A S M a).1) (F2s ((ptw2 A S M a).2))):=fun _ _ _=>con2_ok (fun _ _=>by kernel_rfl) fun us r q hr _ hok=>by
  obtain⟨a,rfl,rfl⟩:=gJ2_ok hr;have oa:=hok (jS2 a) (by simp);have key:=(⟨⟨⟨oS _ _,oS _ _,oM _ _,trivial⟩,oA _ _⟩,rfl⟩:(SV.tu (jS2 (ptw2 A S M a).1) (F2s ((ptw2 A S M a).2))).ok/\(SV.tu (jS2 (ptw2 A S M a).1) (F2s ((ptw2 A S M a).2))).lt 0=true)
  refine⟨key.1,key.2,fun γ w=>?_⟩;simp only[List.map_cons,List.map_nil];rw[val0 (γ:=γ) key.2];rw[val0 (γ:=γ) (x:=jS2 a) rfl];have h:=calls_at (w0:=w) (V:=(SV.tu (jS2 (ptw2 A S M a).1) (F2s ((ptw2 A S M a).2))).val fun _=>0) (E1_ok (γ0:=o0) (more:=[cV2 84 sh2 sh2 fun a b=>F2s (A a b),cV2 85 sh2 sh2 fun a b=>F2s (S a b),cV2 86 sh2 sh2 fun a b=>F2s (M a b)]) ⟨hA _ _ _,hS _ _ _,hM _ _ _,trivial⟩) (by kernel_rfl) (fun _=>0) Tryz.func122 (by kernel_rfl) [cv2,jS2 a] ⟨⟨cv2_ok,rfl⟩,⟨oa,rfl⟩,trivial⟩ (by kernel_rfl) (by kernel_rfl)
   (.leaf (SV.tu (jS2 (ptw2 A S M a).1) (F2s ((ptw2 A S M a).2)))) (by kernel_rfl) rfl
  exact h
theorem ppl2_ok(oA:∀ a b,(F2s (A a b)).ok)(oS:∀ a b,(F2s (S a b)).ok)(oM:∀ a b,(F2s (M a b)).ok){T:N2 × N2 × N2}{P:N2 × N2 × Bool}(h:(jS2 T).ok)(h':(pS2 P).ok):(SV.tu (jS2 (ppl2 A S M T P).1) (F2s ((ppl2 A S M T P).2))).ok:=by
 unfold ppl2;cases P.2.2
 ·cases zr2 T
  ·cases same2 S M T P.1 P.2.1
   ·exact⟨⟨oS _ _,oS _ _,oM _ _,trivial⟩,oS _ _⟩
   ·exact⟨⟨oS _ _,oS _ _,oM _ _,trivial⟩,oA _ _⟩
  ·exact⟨plc2_ok h',F2z_ok⟩
 ·exact⟨h,F2z_ok⟩
theorem plus2_is(oA:∀ a b,(F2s (A a b)).ok)(oS:∀ a b,(F2s (S a b)).ok)(oM:∀ a b,(F2s (M a b)).ok)(hA:Is00 84 sh2 sh2 fun a b=>F2s (A a b))(hS:Is00 85 sh2 sh2 fun a b=>F2s (S a b))(hM:Is00 86 sh2 sh2 fun a b=>F2s (M a b))(hT:Is2c 122 (gJ2 fun a=>SV.tu (jS2 (ptw2 A S M a).1) (F2s ((ptw2 A S M a).2)))):Is2c 91 (gJP2 fun a b=>SV.tu (jS2 (ppl2 A S M a b).1) (F2s ((ppl2 A S M a b).2))):=fun _ _ _=>con2_ok (fun _ _=>by kernel_rfl) fun us r q hr _ hok=>by
  obtain⟨a,b,rfl,rfl⟩:=gJP2_ok hr;have oa:=hok (jS2 a) (by simp);have ob:=hok (pS2 b) (by simp);have key:=(⟨ppl2_ok oA oS oM oa ob,rfl⟩:(SV.tu (jS2 (ppl2 A S M a b).1) (F2s ((ppl2 A S M a b).2))).ok/\(SV.tu (jS2 (ppl2 A S M a b).1) (F2s ((ppl2 A S M a b).2))).lt 0=true)
  refine⟨key.1,key.2,fun γ w=>?_⟩;simp only[List.map_cons,List.map_nil];rw[val0 (γ:=γ) key.2];rw[val0 (γ:=γ) (x:=jS2 a) rfl];rw[val0 (γ:=γ) (x:=pS2 b) rfl];have h:=calls_at (w0:=w) (V:=(SV.tu (jS2 (ppl2 A S M a b).1) (F2s ((ppl2 A S M a b).2))).val fun _=>0) (E1_ok (γ0:=o0) (more:=[cV2 84 sh2 sh2 fun a b=>F2s (A a b),cV2 85 sh2 sh2 fun a b=>F2s (S a b),cV2 86 sh2 sh2 fun a b=>F2s (M a b),con2 122 (gJ2 fun a=>SV.tu (jS2 (ptw2 A S M a).1) (F2s ((ptw2 A S M a).2))),con2 92 (gP2 fun a=>jS2 (plc2 a)),cV1 90 shJ2 fun T=>.b (zr2 T)]) ⟨hA _ _ _,hS _ _ _,hM _ _ _,hT _ _ _,place2_is _ _ _,none2_is _ _ _,trivial⟩) (by kernel_rfl) (fun _=>0) Tryz.func91 (by kernel_rfl) [cv2,jS2 a,pS2 b] ⟨⟨cv2_ok,rfl⟩,⟨oa,rfl⟩,⟨ob,rfl⟩,trivial⟩ (by kernel_rfl) (by kernel_rfl)
   (.br b.2.2 (.leaf (.tu (jS2 a) (F2s (z2)))) (.br (zr2 a) (.leaf (.tu (jS2 (plc2 b)) (F2s (z2)))) (.br (same2 S M a b.1 b.2.1) (.leaf (SV.tu (jS2 (ptw2 A S M a).1) (F2s ((ptw2 A S M a).2)))) (.leaf (.tu (jS2 (pad2 A S M a b.1 b.2.1).1) (F2s ((pad2 A S M a b.1 b.2.1).2))))))) (by kernel_rfl) (br_sh (fun h=>leaf_sh (by unfold ppl2;rw[h];rfl)) fun h=>br_sh (fun h2=>leaf_sh (by unfold ppl2;rw[h,h2];rfl)) fun h2=>br_sh (fun h3=>leaf_sh (by unfold ppl2;rw[h,h2,h3];rfl)) fun h3=>leaf_sh (by unfold ppl2;rw[h,h2,h3];rfl))
  exact h
def pnt2(M:N2->N2->N2)(I:N2->N2 × Bool)(T:N2 × N2 × N2):N2 × N2 × Bool :=
 bif (I T.2.2).2 then (M T.1 (M (I T.2.2).1 (I T.2.2).1),M T.2.1 (M (M (I T.2.2).1 (I T.2.2).1) (I T.2.2).1),false)else (z2,z2,true)
theorem pnt2_ok(oM:∀ a b,(F2s (M a b)).ok)(T:N2 × N2 × N2):(pS2 (pnt2 M I T)).ok:=by
 unfold pnt2;cases (I T.2.2).2
 ·exact⟨F2z_ok,F2z_ok,trivial,trivial⟩
 ·exact⟨oM _ _,oM _ _,trivial,trivial⟩
theorem point2_is(oM:∀ a b,(F2s (M a b)).ok)(hM:Is00 86 sh2 sh2 fun a b=>F2s (M a b))(hI:Is0 87 sh2 fun a=>.tu (F2s (I a).1) (.b (I a).2)):Is2c 93 (gJ2 fun a=>pS2 (pnt2 M I a)):=fun _ _ _=>con2_ok (fun _ _=>by kernel_rfl) fun us r q hr _ hok=>by
  obtain⟨a,rfl,rfl⟩:=gJ2_ok hr;have oa:=hok (jS2 a) (by simp);have key:=(⟨pnt2_ok oM a,rfl⟩:(pS2 (pnt2 M I a)).ok/\(pS2 (pnt2 M I a)).lt 0=true)
  refine⟨key.1,key.2,fun γ w=>?_⟩;simp only[List.map_cons,List.map_nil];rw[val0 (γ:=γ) key.2];rw[val0 (γ:=γ) (x:=jS2 a) rfl];have h:=calls_at (w0:=w) (V:=(pS2 (pnt2 M I a)).val fun _=>0) (E1_ok (γ0:=o0) (more:=[cV2 86 sh2 sh2 fun a b=>F2s (M a b),cV1 87 sh2 fun a=>.tu (F2s (I a).1) (.b (I a).2)]) ⟨hM _ _ _,hI _ _ _,trivial⟩) (by kernel_rfl) (fun _=>0) Tryz.func93 (by kernel_rfl) [cv2,jS2 a] ⟨⟨cv2_ok,rfl⟩,⟨oa,rfl⟩,trivial⟩ (by kernel_rfl) (by kernel_rfl)
   (.br (!(I a.2.2).2) (.leaf (SV.ap (F2s (z2)) (.ap (F2s (z2)) (.ap (.v (.bool true)) .e)))) (.leaf (SV.ap (F2s (M a.1 (M (I a.2.2).1 (I a.2.2).1))) (.ap (F2s (M a.2.1 (M (M (I a.2.2).1 (I a.2.2).1) (I a.2.2).1))) (.ap (.v (.bool false)) .e))))) (by kernel_rfl) (br_sh (fun h=>leaf_sh (by unfold pnt2;rw[show(I a.2.2).2=false by simpa using h];rfl)) fun h=>leaf_sh (by unfold pnt2;rw[show(I a.2.2).2=true by simpa using h];rfl))
  exact h
end
end Sy
open Go.RowKit
namespace Sy
section
variable {TW:N2 × N2 × N2->(N2 × N2 × N2) × N2} {PL:N2 × N2 × N2->N2 × N2 × Bool->(N2 × N2 × N2) × N2} {B:Nat->Nat}
def trd2(TW:N2 × N2 × N2->(N2 × N2 × N2) × N2)(PL:N2 × N2 × N2->N2 × N2 × Bool->(N2 × N2 × N2) × N2)(kk:Nat)(P:N2 × N2 × Bool)(t:Nat)(x:N2 × N2 × N2):N2 × N2 × N2:=bif eqI (bkI kk t) 1 then (PL (TW x).1 P).1 else (TW x).1
def tms2(TW:N2 × N2 × N2->(N2 × N2 × N2) × N2)(PL:N2 × N2 × N2->N2 × N2 × Bool->(N2 × N2 × N2) × N2)(kk:Nat)(P:N2 × N2 × Bool):Nat->N2 × N2 × N2->N2 × N2 × N2
 | 0,x=>x
 | t+1,x=>tms2 TW PL kk P t (trd2 TW PL kk P t x)
def moreT2(B:Nat->Nat)(TW:N2 × N2 × N2->(N2 × N2 × N2) × N2)(PL:N2 × N2 × N2->N2 × N2 × Bool->(N2 × N2 × N2) × N2):List Con:=[cLen B,con2 122 (gJ2 fun a=>SV.tu (jS2 (TW a).1) (F2s ((TW a).2))),con2 91 (gJP2 fun a b=>SV.tu (jS2 (PL a b).1) (F2s ((PL a b).2)))]
noncomputable def TT2 (B:Nat->Nat) (TW:N2 × N2 × N2->(N2 × N2 × N2) × N2) (PL:N2 × N2 × N2->N2 × N2 × Bool->(N2 × N2 × N2) × N2) (kk:Nat) (P:N2 × N2 × Bool):Tr:=(walk (E1 (moreT2 B TW PL)) (fun _=>0) Tryz.f89 [cv2,.w kk,pS2 P]).on []
def stT2(kk:Nat)(P:N2 × N2 × Bool)(d:SV)(x:N2 × N2 × N2):St:=⟨[(3,some (.p 1 0 0 0)),(4,some (.p 2 0 0 0)),(5,some (.p 3 0 0 0)),(6,some (.p 4 0 0 0)),(7,some (.p 5 0 0 0)),(8,some d)],[(5,jS2 x,131),(4,jS2 zJ2,131),(3,pS2 P,95),(2,.w kk,24),(1,cv2,92)],6⟩
structure RT2 (TW:N2 × N2 × N2->(N2 × N2 × N2) × N2) (PL:N2 × N2 × N2->N2 × N2 × Bool->(N2 × N2 × N2) × N2) (kk:Nat) (P:N2 × N2 × Bool) (T:N2 × N2 × N2) (L:Nat) where
 s:Nat
 x:N2 × N2 × N2
 le:s<=L
 is:tms2 TW PL kk P s x=T
 ok:(jS2 x).ok
theorem times2_walk(b256:∀ k,B k<=256)(hN:∀ base γ0 w0,ConOk Tryz.prog base γ0 w0 (cLen B))(oT:∀ a,(jS2 (TW a).1).ok)(oP:∀ a b,(jS2 a).ok->(pS2 b).ok->(jS2 (PL a b).1).ok)(hT:Is2c 122 (gJ2 fun a=>SV.tu (jS2 (TW a).1) (F2s ((TW a).2))))(hP:Is2c 91 (gJP2 fun a b=>SV.tu (jS2 (PL a b).1) (F2s ((PL a b).2))))(kk:Nat)(P:N2 × N2 × Bool)(ok:kk<2^256)(op:(pS2 P).ok)(w:World)  :
  Calls Tryz.prog 89 ([cv2,SV.w kk,pS2 P].map (·.val o0)).toArray w fun e w'=>e=.returned ((jS2 (tms2 TW PL kk P (B kk) zJ2)).val o0)/\Below w.heap.size w w':=by
 have hL:B kk<=256:=b256 kk;have h62:(2:Nat)^62=4611686018427387904:=by decide
 refine calls_loop0 (γ0:=o0) (E1_ok (more:=moreT2 B TW PL) ⟨hN _ _ _,hT _ _ _,hP _ _ _,trivial⟩) (by kernel_rfl) (fun _=>0) Tryz.func89 (by kernel_rfl) [cv2,.w kk,pS2 P] ⟨⟨cv2_ok,rfl⟩,⟨ok,rfl⟩,⟨op,rfl⟩,trivial⟩ (by kernel_rfl) (by kernel_rfl)
  (d:=0) (by kernel_rfl) (TT2 B TW PL kk P) (by kernel_rfl) ?_
 have eb:(E1 (moreT2 B TW PL)).base=1:=rfl;rw[eb];have hB:∀ d x,subB 1 (stT2 kk P (dn d) x)=true:=fun d x=>by cases d <;> kernel_rfl
 have h0:Sub 1 (TT2 B TW PL kk P).stOf (stT2 kk P (dn (B kk)) zJ2):=Sub.ofW [5,4,3,2,1] (hB _ _) ⟨.is (by kernel_rfl),.is (by kernel_rfl),.is (by kernel_rfl),.is (by kernel_rfl),.is (by kernel_rfl),.dn (n:=((B kk:Nat):Int) - ((1:Nat):Int)) (by kernel_rfl) rfl (by omega),trivial⟩ (by kernel_rfl);have hs:(TT2 B TW PL kk P).isLoop 0=true:=by kernel_rfl
 have d0:∀ x,(TT2 B TW PL kk P).round (stT2 kk P (dn 0) x)=((TT2 B TW PL kk P).round (stT2 kk P (dn 0) x)).diag:=fun x=>by kernel_rfl
 have z0:∀ x,((TT2 B TW PL kk P).round (stT2 kk P (dn 0) x)).shape=.leaf (jS2 x):=fun x=>by kernel_rfl
 have d1:∀ t x,(TT2 B TW PL kk P).round (stT2 kk P (dn (t+1)) x)=((TT2 B TW PL kk P).round (stT2 kk P (dn (t+1)) x)).diag:=fun t x=>by kernel_rfl
 have z1:∀ t x,((TT2 B TW PL kk P).round (stT2 kk P (dn (t+1)) x)).shape=.br (!ltN t 0) (.need (t / 64<4) (.need (t / 64<4) (.need (0<=((t%64:Nat):Int)) (.br (eqI (bkI kk t) 1) (.cut 0) (.cut 0))))) (.leaf (jS2 x)):=fun t x=>by kernel_rfl
 have n1:∀ t x,t<B kk->Sub 1 (((TT2 B TW PL kk P).round (stT2 kk P (dn (t+1)) x)).on [true,true]).cutOf (stT2 kk P (dn t) (PL (TW x).1 P).1):=fun t x ht=>Sub.ofW [5,4,3,2,1] (hB _ _) ⟨.is (by kernel_rfl),.is (by kernel_rfl),.is (by kernel_rfl),.is (by kernel_rfl),.is (by kernel_rfl),.dn (n:=((t:Nat):Int) - ((1:Nat):Int)) (by kernel_rfl) rfl (by omega),trivial⟩ (by kernel_rfl);have n2:∀ t x,t<B kk->Sub 1 (((TT2 B TW PL kk P).round (stT2 kk P (dn (t+1)) x)).on [true,false]).cutOf (stT2 kk P (dn t) (TW x).1):=fun t x ht=>Sub.ofW [5,4,3,2,1] (hB _ _) ⟨.is (by kernel_rfl),.is (by kernel_rfl),.is (by kernel_rfl),.is (by kernel_rfl),.is (by kernel_rfl),.dn (n:=((t:Nat):Int) - ((1:Nat):Int)) (by kernel_rfl) rfl (by omega),trivial⟩ (by kernel_rfl);have c1:∀ t x,(((TT2 B TW PL kk P).round (stT2 kk P (dn (t+1)) x)).on [true,true]).isCut 0=true:=fun t x=>by kernel_rfl
 have c2:∀ t x,(((TT2 B TW PL kk P).round (stT2 kk P (dn (t+1)) x)).on [true,false]).isCut 0=true:=fun t x=>by kernel_rfl
 generalize TT2 B TW PL kk P=T at h0 hs d0 z0 d1 z1 n1 n2 c1 c2 |-
 generalize B kk=L at *;refine loop_wp (T:=T) 0 hs (ι:=RT2 TW PL kk P (tms2 TW PL kk P L zJ2) L) (fun r=>stT2 kk P (dn r.s) r.x) (fun r=>r.s) ⟨L,zJ2,Nat.le_refl _,rfl,⟨F2z_ok,F2z_ok,F2z_ok,trivial⟩⟩ h0 fun⟨s,x,hle,his,hox⟩=>?_;cases s with
 | zero =>
  refine wp_of_shape (d0 x) (L:=fun L'=>((T.round (stT2 kk P (dn 0) x)).on L').wp 1 _) ?_ fun _ h=>h;rw[z0 x];show(jS2 x).val _=_;rw[<- his];rfl
 | succ t =>
  refine wp_of_shape (d1 t x) (L:=fun L'=>((T.round (stT2 kk P (dn (t+1)) x)).on L').wp 1 _) ?_ fun _ h=>h;rw[z1 t x];have ht:t<L:=hle;refine⟨fun _=>?_,fun h=>?_⟩
  ·refine need_sh (by omega) (need_sh (by omega) (need_sh (by omega) ⟨fun h=>?_,fun h=>?_⟩))
   ·exact next_wp 0 (c1 t x) (st:=fun r:RT2 TW PL kk P (tms2 TW PL kk P L zJ2) L=>stT2 kk P (dn r.s) r.x) ⟨t,(PL (TW x).1 P).1,Nat.le_of_lt ht,by rw[<- his,tms2,trd2,h];rfl,oP _ _ (oT _) op⟩ (Nat.lt_succ_self t) (n1 t x ht)
   ·exact next_wp 0 (c2 t x) (st:=fun r:RT2 TW PL kk P (tms2 TW PL kk P L zJ2) L=>stT2 kk P (dn r.s) r.x) ⟨t,(TW x).1,Nat.le_of_lt ht,by rw[<- his,tms2,trd2,h];rfl,oT _⟩ (Nat.lt_succ_self t) (n2 t x ht)
  ·have e:ltN t 0=false:=decide_eq_false (Nat.not_lt_zero t)
   rw[e]at h;cases h
end
end Sy
open Go.RowKit
namespace Sy
section
variable {FT:N2->N2->Bool} {TM:Nat->(N2 × N2 × Bool)->(N2 × N2 × N2)} {H:(N2 × N2 × Bool)->Bool} {PL:(N2 × N2 × N2)->(N2 × N2 × Bool)->((N2 × N2 × N2)) × N2} {PT:(N2 × N2 × N2)->(N2 × N2 × Bool)}
def hld2(FT:N2->N2->Bool)(TM:Nat->(N2 × N2 × Bool)->(N2 × N2 × N2))(P:(N2 × N2 × Bool)):Bool:=bif P.2.2 then true else bif FT P.1 P.2.1 then zr2 (TM nB P)else false
def smP2(H:(N2 × N2 × Bool)->Bool)(PL:(N2 × N2 × N2)->(N2 × N2 × Bool)->((N2 × N2 × N2)) × N2)(PT:(N2 × N2 × N2)->(N2 × N2 × Bool))(a b:(N2 × N2 × Bool)):(N2 × N2 × Bool) × Int:=bif (bif !H a then true else !H b)then ((z2,z2,true),81)else (PT (PL (plc2 a) b).1,0)
def pdP2(H:(N2 × N2 × Bool)->Bool)(TM:Nat->(N2 × N2 × Bool)->(N2 × N2 × N2))(PT:(N2 × N2 × N2)->(N2 × N2 × Bool))(n:Nat)(a:(N2 × N2 × Bool)):(N2 × N2 × Bool) × Int:=bif !H a then ((z2,z2,true),81)else (PT (TM n a),0)
def tpS2(r:(N2 × N2 × Bool) × Int):SV:=.tu (pS2 r.1) (.i .i64 r.2)
theorem smP2_ok(oT:∀ a,(pS2 (PT a)).ok)(a b:(N2 × N2 × Bool)):(tpS2 (smP2 H PL PT a b)).ok:=by
 unfold smP2;cases (bif !H a then true else !H b)
 ·exact⟨oT _,trivial⟩
 ·exact⟨⟨F2z_ok,F2z_ok,trivial,trivial⟩,trivial⟩
theorem pdP2_ok(oT:∀ a,(pS2 (PT a)).ok)(n:Nat)(a:(N2 × N2 × Bool)):(tpS2 (pdP2 H TM PT n a)).ok:=by
 unfold pdP2;cases !H a
 ·exact⟨oT _,trivial⟩
 ·exact⟨⟨F2z_ok,F2z_ok,trivial,trivial⟩,trivial⟩
theorem times2_is{B:Nat->Nat}{TW:(N2 × N2 × N2)->((N2 × N2 × N2)) × N2}(b256:∀ k,B k<=256)(hN:∀ base γ0 w0,ConOk Tryz.prog base γ0 w0 (cLen B))(oT:∀ a,(jS2 (TW a).1).ok)(oP:∀ a b,(jS2 a).ok->(pS2 b).ok->(jS2 (PL a b).1).ok)(oM:∀ n P,n<2^256->(pS2 P).ok->(jS2 (tms2 TW PL n P (B n) zJ2)).ok)(hT:Is2c 122 (gJ2 fun a=>SV.tu (jS2 (TW a).1) (F2s ((TW a).2))))(hP:Is2c 91 (gJP2 fun a b=>SV.tu (jS2 (PL a b).1) (F2s ((PL a b).2)))):Is2c 89 (gKP2 fun n P=>jS2 (tms2 TW PL n P (B n) zJ2)):=fun _ _ _=>con2_ok (fun _ _=>by kernel_rfl) fun us r q hr _ hok=>by
  obtain⟨a,b,rfl,rfl⟩:=gKP2_ok hr;have oa:=hok (.w a) (by simp);have ob:=hok (pS2 b) (by simp);refine⟨oM a b oa ob,rfl,fun γ w=>?_⟩;simp only[List.map_cons,List.map_nil];rw[val0 (γ:=γ) (x:=jS2 _) rfl,val0 (γ:=γ) (x:=.w a) rfl,val0 (γ:=γ) (x:=pS2 b) rfl];have h:=times2_walk b256 hN oT oP hT hP a b oa ob w;exact h
theorem holds2_is(hF1:Is2c 88 (gNN2 fun a b=>SV.b (FT a b)))(hT:Is2c 89 (gKP2 fun a b=>jS2 (TM a b))):Is2c 50 (gP2 fun a=>SV.b (hld2 FT TM a)):=fun _ _ _=>con2_ok (fun _ _=>by kernel_rfl) fun us r q hr _ hok=>by
  obtain⟨a,rfl,rfl⟩:=gP2_ok hr;have oa:=hok (pS2 a) (by simp);have key:=(⟨trivial,rfl⟩:(SV.b (hld2 FT TM a)).ok/\(SV.b (hld2 FT TM a)).lt 0=true)
  refine⟨key.1,key.2,fun γ w=>?_⟩;simp only[List.map_cons,List.map_nil];rw[val0 (γ:=γ) key.2];rw[val0 (γ:=γ) (x:=pS2 a) rfl];have h:=calls_at (w0:=w) (V:=(SV.b (hld2 FT TM a)).val fun _=>0) (E1_ok (γ0:=o0) (more:=[con2 88 (gNN2 fun a b=>SV.b (FT a b)),con2 89 (gKP2 fun a b=>jS2 (TM a b)),cV1 90 shJ2 fun T=>.b (zr2 T),cOrd]) ⟨hF1 _ _ _,hT _ _ _,none2_is _ _ _,cOrd_ok,trivial⟩) (by kernel_rfl) (fun _=>0) Tryz.func50 (by kernel_rfl) [cv2,pS2 a] ⟨⟨cv2_ok,rfl⟩,⟨oa,rfl⟩,trivial⟩ (by kernel_rfl) (by kernel_rfl)
   (.leaf (.b (bif a.2.2 then true else bif FT a.1 a.2.1 then zr2 (TM nB a)else false))) (by kernel_rfl) (leaf_sh (val0 (x:=.b (hld2 FT TM a)) rfl))
  exact h
theorem sum2_is(oT:∀ a,(pS2 (PT a)).ok)(hH:Is2c 50 (gP2 fun a=>SV.b (H a)))(hP:Is2c 91 (gJP2 fun a b=>SV.tu (jS2 (PL a b).1) (F2s ((PL a b).2))))(hQ:Is2c 93 (gJ2 fun a=>pS2 (PT a))):Is2c 51 (gPP2 fun a b=>tpS2 (smP2 H PL PT a b)):=fun _ _ _=>con2_ok (fun _ _=>by kernel_rfl) fun us r q hr _ hok=>by
  obtain⟨a,b,rfl,rfl⟩:=gPP2_ok hr;have oa:=hok (pS2 a) (by simp);have ob:=hok (pS2 b) (by simp);have key:=(⟨smP2_ok oT a b,rfl⟩:(tpS2 (smP2 H PL PT a b)).ok/\(tpS2 (smP2 H PL PT a b)).lt 0=true)
  refine⟨key.1,key.2,fun γ w=>?_⟩;simp only[List.map_cons,List.map_nil];rw[val0 (γ:=γ) key.2];rw[val0 (γ:=γ) (x:=pS2 a) rfl];rw[val0 (γ:=γ) (x:=pS2 b) rfl];have h:=calls_at (w0:=w) (V:=(tpS2 (smP2 H PL PT a b)).val fun _=>0) (E1_ok (γ0:=o0) (more:=[con2 50 (gP2 fun a=>SV.b (H a)),con2 91 (gJP2 fun a b=>SV.tu (jS2 (PL a b).1) (F2s ((PL a b).2))),con2 93 (gJ2 fun a=>pS2 (PT a)),con2 92 (gP2 fun a=>jS2 (plc2 a))]) ⟨hH _ _ _,hP _ _ _,hQ _ _ _,place2_is _ _ _,trivial⟩) (by kernel_rfl) (fun _=>0) Tryz.func51 (by kernel_rfl) [cv2,pS2 a,pS2 b] ⟨⟨cv2_ok,rfl⟩,⟨oa,rfl⟩,⟨ob,rfl⟩,trivial⟩ (by kernel_rfl) (by kernel_rfl)
   (.br (bif !H a then true else !H b) (.leaf (SV.tu (.ap (F2s (z2)) (.ap (F2s (z2)) (.ap (.v (.bool true)) .e))) (.v (.int .i64 81)))) (.leaf (.tu (pS2 (PT (PL (plc2 a) b).1)) (.v (.int .i64 0))))) (by kernel_rfl) (br_sh (fun h=>leaf_sh (by unfold tpS2 smP2;rw[h];rfl)) fun h=>leaf_sh (by unfold tpS2 smP2;rw[h];rfl))
  exact h
theorem product2_is(oT:∀ a,(pS2 (PT a)).ok)(hH:Is2c 50 (gP2 fun a=>SV.b (H a)))(hT:Is2c 89 (gKP2 fun a b=>jS2 (TM a b)))(hQ:Is2c 93 (gJ2 fun a=>pS2 (PT a))):Is2c 52 (gKP2 fun a b=>tpS2 (pdP2 H TM PT a b)):=fun _ _ _=>con2_ok (fun _ _=>by kernel_rfl) fun us r q hr _ hok=>by
  obtain⟨a,b,rfl,rfl⟩:=gKP2_ok hr;have oa:=hok (.w a) (by simp);have ob:=hok (pS2 b) (by simp);have key:=(⟨pdP2_ok oT a b,rfl⟩:(tpS2 (pdP2 H TM PT a b)).ok/\(tpS2 (pdP2 H TM PT a b)).lt 0=true)
  refine⟨key.1,key.2,fun γ w=>?_⟩;simp only[List.map_cons,List.map_nil];rw[val0 (γ:=γ) key.2];rw[val0 (γ:=γ) (x:=.w a) rfl];rw[val0 (γ:=γ) (x:=pS2 b) rfl];have h:=calls_at (w0:=w) (V:=(tpS2 (pdP2 H TM PT a b)).val fun _=>0) (E1_ok (γ0:=o0) (more:=[con2 50 (gP2 fun a=>SV.b (H a)),con2 89 (gKP2 fun a b=>jS2 (TM a b)),con2 93 (gJ2 fun a=>pS2 (PT a))]) ⟨hH _ _ _,hT _ _ _,hQ _ _ _,trivial⟩) (by kernel_rfl) (fun _=>0) Tryz.func52 (by kernel_rfl) [cv2,.w a,pS2 b] ⟨⟨cv2_ok,rfl⟩,⟨oa,rfl⟩,⟨ob,rfl⟩,trivial⟩ (by kernel_rfl) (by kernel_rfl)
   (.br (!H b) (.leaf (SV.tu (.ap (F2s (z2)) (.ap (F2s (z2)) (.ap (.v (.bool true)) .e))) (.v (.int .i64 81)))) (.leaf (.tu (pS2 (PT (TM a b))) (.v (.int .i64 0))))) (by kernel_rfl) (br_sh (fun h=>leaf_sh (by unfold tpS2 pdP2;rw[h];rfl)) fun h=>leaf_sh (by unfold tpS2 pdP2;rw[h];rfl))
  exact h
end
end Sy
open Go.RowKit
namespace Sy
theorem F2v_ok{m:Nat}(hm:m<2^256)(z:Zp m × Zp m):(F2s (v2 z)).ok:=⟨Nat.lt_trans z.1.2 hm,Nat.lt_trans z.2.2 hm,trivial⟩
theorem add2_is{m:Nat}(hp:Pr m):Is2 m 117 sh2 sh2 fun a b=>F2s (a2 hp a b):=fun _ _ _ hf=>cT2_ok hf (fun _ _=>by kernel_rfl) (fun _ _ _ _=>⟨F2v_ok hf.lt _,rfl⟩) fun F a b oa ob w hF=>by
 refine calls_at (E1_ok (flds_ok (FOk.of hF))) (by kernel_rfl) (fun _=>0) Tryz.func117 (by kernel_rfl) [sG,F2s a,F2s b] ⟨⟨⟨trivial,trivial⟩,rfl⟩,⟨oa,rfl⟩,⟨ob,rfl⟩,trivial⟩ (by kernel_rfl) (by kernel_rfl) (.leaf (F2s ((a.1+b.1)%m,(a.2+b.2)%m))) (by kernel_rfl) ?_;rw[a2_eq hp a b];rfl
theorem sub2_is{m:Nat}(hp:Pr m):Is2 m 118 sh2 sh2 fun a b=>F2s (s2 hp a b):=fun _ _ _ hf=>cT2_ok hf (fun _ _=>by kernel_rfl) (fun _ _ _ _=>⟨F2v_ok hf.lt _,rfl⟩) fun F a b oa ob w hF=>by
 refine calls_at (E1_ok (flds_ok (FOk.of hF))) (by kernel_rfl) (fun _=>0) Tryz.func118 (by kernel_rfl) [sG,F2s a,F2s b] ⟨⟨⟨trivial,trivial⟩,rfl⟩,⟨oa,rfl⟩,⟨ob,rfl⟩,trivial⟩ (by kernel_rfl) (by kernel_rfl) (.leaf (F2s ((a.1%m+(m - b.1%m))%m,(a.2%m+(m - b.2%m))%m))) (by kernel_rfl) ?_;rw[s2_eq hp a b];rfl
theorem mul2_is{m:Nat}(hp:Pr m):Is2 m 119 sh2 sh2 fun a b=>F2s (m2 hp a b):=fun _ _ _ hf=>cT2_ok hf (fun _ _=>by kernel_rfl) (fun _ _ _ _=>⟨F2v_ok hf.lt _,rfl⟩) fun F a b oa ob w hF=>by
 refine calls_at (E1_ok (flds_ok (FOk.of hF))) (by kernel_rfl) (fun _=>0) Tryz.func119 (by kernel_rfl) [sG,F2s a,F2s b] ⟨⟨⟨trivial,trivial⟩,rfl⟩,⟨oa,rfl⟩,⟨ob,rfl⟩,trivial⟩ (by kernel_rfl) (by kernel_rfl) (.leaf (F2s ((a.1*b.1%m%m+(m - a.2*b.2%m%m))%m,(a.1*b.2%m+a.2*b.1%m)%m))) (by kernel_rfl) ?_;rw[m2_eq hp a b];rfl
end Sy
open Go.RowKit
-- WHAT Base COMES TO.
theorem f_Base(w:World):Calls Tryz.prog 64 #[] w fun e w'=>∃ F,e=.returned (.pointer (some ⟨F,0,none⟩))/\FldAt w' F 21888242871839275222246405745257275088696311157297823662689037894645226208583/\w.heap.size<=F/\Below w.heap.size w w':=by
 have HMO:=Lib.hid (fun wx=>modulo_any 21888242871839275222246405745257275088696311157297823662689037894645226208583 (by omega) (by omega) (by omega) wx);rw[show pw 21888242871839275222246405745257275088696311157297823662689037894645226208583=#[.int .u64 4332616871279656263,.int .u64 10917124144477883021,.int .u64 13281191951274694749,.int .u64 3486998266802970665] from by kernel_rfl]at HMO;go_enter Tryz.func64,Tryz.ntmps64
 go_wp2_with fail
 refine(HMO.out _).mono ?_;rintro e w5 ⟨F,rfl,hF,hs,hb⟩;have HF:=Lib.hid (And.intro hF (And.intro hs hb));clear hF hs hb HMO
 go_wp2_with fail
 go_ret;exact⟨F,rfl,HF.out.1,HF.out.2⟩
open Go.RowKit
theorem fields_any(w:World):Calls Tryz.prog 116 #[] w fun e w'=>∃ F,e=.returned (.agg #[.pointer (some ⟨F,0,none⟩)])/\FldAt w' F 21888242871839275222246405745257275088696311157297823662689037894645226208583/\w.heap.size<=F/\Below w.heap.size w w':=by
 have HCR:=Lib.hid (fun wx=>f_Base wx);go_enter Tryz.func116,Tryz.ntmps116
 go_wp2_with fail
 refine(HCR.out _).mono ?_;rintro e w5 ⟨F,rfl,hF,hs,hb⟩;have HF:=Lib.hid hF;have HS:=Lib.hid hs;have HB:=Lib.hid hb;have hr:=(HB.out.block w.heap.size (by simp)).trans (heap_alloc_new w _);have HR:=Lib.hid hr;clear hF hs hb hr HCR
 go_wp2_with (refine wpList_store_row rfl 148 _ _ rfl w.heap.size #[.pointer (some ⟨F,0,none⟩)] rfl rfl 148 _ (by exact HR.out) (by kernel_rfl) (by rfl) (by kernel_rfl) ?_)
 (try simp only[Act.put])
 refine bodyPost_ret (v:=.agg #[.pointer (some ⟨F,0,none⟩)]) (results_cell_row (p:=0) rfl _ _ w.heap.size 148 #[.pointer (some ⟨F,0,none⟩)] (0,0) _ rfl (setRow_heap _ _ _ _ _ _ HR.out) Tryz.underlying148 rfl (by kernel_rfl)) rfl ⟨F,rfl,?_,?_,?_⟩
 ·have h:=HS.out
  simp at h;exact fld_row HF.out (by omega)
 ·have h:=HS.out
  simp at h;omega
 ·exact below_setRow (((Below.refl _ _).alloc (Nat.le_refl _) _).trans (HB.out.mono (by simp))) (Nat.le_refl _) _
namespace Sy
abbrev pB:Nat:=21888242871839275222246405745257275088696311157297823662689037894645226208583
theorem prB:Pr pB:=prm_21888242871839275222246405745257275088696311157297823662689037894645226208583
theorem ltB:pB<2^256:=by decide
theorem fB(w:World):FOk false pB o0 w:=⟨by decide,by decide,ltB,fun h=>by cases h⟩
def cFields:Con:=⟨116,fun n _ l=>match l with
 | []=>some (.ap (.p n 0 0 0) .e,[],[(n,sFld pB,145)])
 | _=>none⟩
theorem cFields_ok{γ0:Pl}{w0:World}:ConOk Tryz.prog 1 γ0 w0 cFields:=⟨fun _ _=>by kernel_rfl,fun n M l r p R hr hp hn hok _=>by
 simp only[cFields]at hr
 split at hr
 ·cases hr
  refine⟨⟨trivial,trivial⟩,by show(decide (n<n+1)&&true)=true;simp,fun q hq=>?_,fun γ hγ wx hw hL=>?_⟩
  ·simp only[List.mem_cons,List.not_mem_nil,or_false]at hq
   subst hq;exact⟨⟨trivial,trivial,trivial,trivial,trivial,trivial,trivial,trivial,trivial,trivial⟩,rfl,Nat.le_refl _,Nat.lt_succ_self _⟩
  ·refine(fields_any wx).mono fun e w' ⟨F,h1,h2,h3,h4⟩=>?_
   obtain⟨δ,hδ⟩:∃ δ:Pl,∀ k,δ k=if k=n then F else γ k:=⟨_,fun _=>rfl⟩
   refine⟨⟨δ,fun k hk=>by rw[hδ,if_neg (by omega)],?_,fun q hq=>?_,List.pairwise_singleton _ _⟩,h4⟩
   ·rw[h1]
    show _=Ending.returned (.agg #[.pointer (some ⟨δ n,0+0*0,none⟩)]);rw[hδ,if_pos rfl]
   ·simp only[List.mem_cons,List.not_mem_nil,or_false]at hq
    subst hq;refine⟨by rw[hδ,if_pos rfl];exact h3,?_⟩;show w'.heap[δ n]?=_;rw[hδ,if_pos rfl];exact h2.row
 ·cases hr⟩
section
variable {A M:N2->N2->N2}
theorem Add2_is(o:∀ a b,(F2s (A a b)).ok)(hA:Is2 pB 117 sh2 sh2 fun a b=>F2s (A a b)):Is00 84 sh2 sh2 fun a b=>F2s (A a b):=fun _ _ _=>cV2_ok (fun _ _=>by kernel_rfl) (fun a b _ _=>⟨o a b,rfl⟩) fun a b oa ob w =>
 calls_at (E1_ok (γ0:=o0) (more:=[cFields,cT2 false pB 117 sh2 sh2 fun a b=>F2s (A a b)]) ⟨cFields_ok,hA _ _ _ (fB w),trivial⟩) (by kernel_rfl) (fun _=>0) Tryz.func84 (by kernel_rfl) [F2s a,F2s b] ⟨⟨oa,rfl⟩,⟨ob,rfl⟩,trivial⟩ (by kernel_rfl) (by kernel_rfl) (.leaf (F2s (A a b))) (by kernel_rfl) rfl
theorem Mul2_is(o:∀ a b,(F2s (M a b)).ok)(hM:Is2 pB 119 sh2 sh2 fun a b=>F2s (M a b)):Is00 86 sh2 sh2 fun a b=>F2s (M a b):=fun _ _ _=>cV2_ok (fun _ _=>by kernel_rfl) (fun a b _ _=>⟨o a b,rfl⟩) fun a b oa ob w =>
 calls_at (E1_ok (γ0:=o0) (more:=[cFields,cT2 false pB 119 sh2 sh2 fun a b=>F2s (M a b)]) ⟨cFields_ok,hM _ _ _ (fB w),trivial⟩) (by kernel_rfl) (fun _=>0) Tryz.func86 (by kernel_rfl) [F2s a,F2s b] ⟨⟨oa,rfl⟩,⟨ob,rfl⟩,trivial⟩ (by kernel_rfl) (by kernel_rfl) (.leaf (F2s (M a b))) (by kernel_rfl) rfl
end
/-! Named: of the pairing's prime. -/
def A2:N2->N2->N2:=a2 prB
def M2:N2->N2->N2:=m2 prB
theorem Add2_at:Is00 84 sh2 sh2 fun a b=>F2s (A2 a b):=Add2_is (fun _ _=>F2v_ok ltB _) (add2_is prB)
theorem Mul2_at:Is00 86 sh2 sh2 fun a b=>F2s (M2 a b):=Mul2_is (fun _ _=>F2v_ok ltB _) (mul2_is prB)
end Sy
end Go.Proofs.YtadfjjfklihaaaaGreat
