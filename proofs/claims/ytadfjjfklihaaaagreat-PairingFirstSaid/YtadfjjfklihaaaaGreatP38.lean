/- The numbers of the first group: the program's, the document's; the curve, its order. (Cut to what is reached, written closely: EcDig · PrJ · PrNW · PrN2 · PrNR · PrP · EcVal · TwNt · PrNI.) -/
import Derived.Test.YtadfjjfklihaaaaGreatP27
import Derived.Test.YtadfjjfklihaaaaGreatP37
import Derived.Test.YtadfjjfklihaaaaGreatP29
set_option linter.all false
set_option maxRecDepth 100000
set_option maxHeartbeats 8000000
namespace Go.Proofs.YtadfjjfklihaaaaGreat
section
variable {K:Type} {F:CField K} {b:K}
theorem nmul_twice[DecidableEq K](h:Curve F b){p:Pt K}(hp:p.On F b)(n:Nat):nmul F (2*n) p=psum F (nmul F n p) (nmul F n p):=by
 rw[Nat.two_mul,nmul_add h hp]
theorem nmul_bit[DecidableEq K](h:Curve F b){p:Pt K}(hp:p.On F b)(k i:Nat):nmul F (k / 2^i) p=if k / 2^i%2=1 then psum F (psum F (nmul F (k / 2^(i+1)) p) (nmul F (k / 2^(i+1)) p)) p else psum F (nmul F (k / 2^(i+1)) p) (nmul F (k / 2^(i+1)) p):=by
 have e:k / 2^(i+1)=k / 2^i / 2:=by rw[Nat.pow_succ,Nat.div_div_eq_div_mul]
 rw[e,<- nmul_twice h hp];generalize k / 2^i=n;by_cases hb:n%2=1
 ·rw[if_pos hb]
  have:n=2*(n / 2)+1:=by omega
  exact(congrArg (fun n=>nmul F n p) this).trans rfl
 ·rw[if_neg hb]
  have:n=2*(n / 2):=by omega
  exact congrArg (fun n=>nmul F n p) this
end
theorem pj1{K:Type}(C:CRing K)(x:K):C.add x (C.add x x)=C.add (C.add x x) x:=(C.add_assoc x x x).symm
theorem pj2{K:Type}(C:CRing K)(y:K):C.mul (C.add y y) (C.add y y)=C.add (C.mul y (C.add y y)) (C.mul y (C.add y y)):=ring4 C (lets y C.zero C.zero C.zero) (.mul (.add (.v 0) (.v 0)) (.add (.v 0) (.v 0))) (.add (.mul (.v 0) (.add (.v 0) (.v 0))) (.mul (.v 0) (.add (.v 0) (.v 0)))) (by decide +kernel)
theorem pj3{K:Type}(C:CRing K)(y:K):C.mul (C.add y y) (C.mul y (C.mul (C.add y y) (C.add y y)))=C.mul (C.mul y (C.add y y)) (C.add (C.mul y (C.add y y)) (C.mul y (C.add y y))):=ring4 C (lets y C.zero C.zero C.zero) (.mul (.add (.v 0) (.v 0)) (.mul (.v 0) (.mul (.add (.v 0) (.v 0)) (.add (.v 0) (.v 0))))) (.mul (.mul (.v 0) (.add (.v 0) (.v 0))) (.add (.mul (.v 0) (.add (.v 0) (.v 0))) (.mul (.v 0) (.add (.v 0) (.v 0))))) (by decide +kernel)
theorem pj4{K:Type}(C:CRing K)(s t m:K):C.sub s (C.add t m)=C.sub (C.sub s t) m:=ring4 C (lets s t m C.zero) (.sub (.v 0) (.add (.v 1) (.v 2))) (.sub (.sub (.v 0) (.v 1)) (.v 2)) (by decide +kernel)
section
variable {K:Type} {F:CField K} {b:K}
def ptw(C:CRing K)(T:K × K × K):K × K × K :=
 let double:=C.add T.2.1 T.2.1
 let middle:=C.mul T.1 (C.mul double double)
 let square:=C.mul T.1 T.1
 let slope:=C.add square (C.add square square)
 let x:=C.sub (C.mul slope slope) (C.add middle middle)
 let fourth:=C.mul double (C.mul T.2.1 (C.mul double double))
 (x,C.sub (C.mul slope (C.sub middle x)) fourth,C.mul double T.2.2)
theorem ptw_is(C:CRing K)(T:K × K × K):ptw C T=jdbl C T:=by
 obtain⟨X,Y,z⟩:=T;unfold ptw jdbl;dsimp only;rw[pj3,pj2,pj1]
theorem jac_ptw[DecidableEq K](h:Curve F b){T:K × K × K}{p:Pt K}(hp:p.On F b)(hT:Jac F T p):Jac F (ptw F.toCRing T) (psum F p p):=by
 cases p with
 | none =>
  have e:T.2.2=F.zero:=hT;show F.mul (F.add T.2.1 T.2.1) T.2.2=F.zero;rw[e,F.mul_comm,F.zero_mul]
 | some x y=>rw[ptw_is];exact jac_dbl h hp hT
def padd(C:CRing K)(T:K × K × K)(x2 y2:K):K × K × K :=
 let across:=jacross C T x2
 let slope:=C.sub (C.mul y2 (C.mul (C.mul T.2.2 T.2.2) T.2.2)) T.2.1
 let middle:=C.mul T.1 (C.mul across across)
 let third:=C.mul across (C.mul across across)
 let x:=C.sub (C.mul slope slope) (C.add third (C.add middle middle))
 (x,C.sub (C.mul slope (C.sub middle x)) (C.mul T.2.1 third),C.mul T.2.2 across)
theorem padd_is(C:CRing K)(T:K × K × K)(x2 y2:K):padd C T x2 y2=jadd C T x2 y2:=by
 unfold padd jadd jup;dsimp only;generalize jacross C T x2=a;rw[pj4,C.mul_comm a (C.mul a a)]
def ppl[DecidableEq K](F:CField K)(T:K × K × K)(x2 y2:K):K × K × K :=
 if T.2.2=F.zero then (x2,y2,F.one)
 else if jacross F.toCRing T x2=F.zero/\jup F.toCRing T y2=F.zero then ptw F.toCRing T
 else padd F.toCRing T x2 y2
theorem jac_ppl[DecidableEq K](h:Curve F b){T:K × K × K}{p:Pt K}{x2 y2:K}(hp:p.On F b)(hT:Jac F T p):Jac F (ppl F T x2 y2) (psum F p (.some x2 y2)):=by
 have g:=jac_plus (q:=.some x2 y2) h hp hT;change Jac F (if T.2.2=F.zero then (x2,y2,F.one)else if jacross F.toCRing T x2=F.zero/\jup F.toCRing T y2=F.zero then jtwice F T else jadd F.toCRing T x2 y2) _ at g;unfold ppl;rw[ptw_is,padd_is];by_cases hz:T.2.2=F.zero
 ·rw[if_pos hz]at g |-
  exact g
 ·rw[if_neg hz]at g |-
  unfold jtwice at g;rw[if_neg hz]at g;exact g
end
open Go.RowKit
namespace Sy
structure NmW {K:Type} [DecidableEq K] (F:CField K) (v:K->Nat) (A S M:Nat->Nat->Nat) (I:Nat->Nat × Bool):Prop where
 zero:v F.zero=0
 one:v F.one=1
 add:∀ a c,A (v a) (v c)=v (F.add a c)
 sub:∀ a c,S (v a) (v c)=v (F.sub a c)
 mul:∀ a c,M (v a) (v c)=v (F.mul a c)
 inv:∀ a,a≠F.zero->∃ i,I (v a)=(v i,true)/\F.mul a i=F.one
 no:(I (v F.zero)).2=false
 eq:∀ a c,eqN (v a) (v c)=decide (a=c)
section
variable {K:Type} [DecidableEq K] {F:CField K} {b:K} {v:K->Nat} {A S M:Nat->Nat->Nat} {I:Nat->Nat × Bool}
def vJW(v:K->Nat)(T:K × K × K):(Nat × Nat × Nat):=(v T.1,v T.2.1,v T.2.2)
def cnW(v:K->Nat):Pt K->(Nat × Nat × Bool)
 | .none=>(0,0,true)
 | .some x y=>(v x,v y,false)
def rlW(v:K->Nat)(p:(Nat × Nat × Bool)):Pt K->Prop
 | .none=>p.2.2=true
 | .some x y=>p=(v x,v y,false)
section
variable (h:NmW F v A S M I)
include h
theorem zJW_v:zJW=vJW v (F.zero,F.zero,F.zero):=by unfold zJW vJW;rw[h.zero]
theorem eqzW_v(a:K):eqN (v a) (0)=decide (a=F.zero):=by rw[<- h.zero];exact h.eq _ _
theorem zrW_v(T:K × K × K):zrW (vJW v T)=decide (T.2.2=F.zero):=eqzW_v h T.2.2
theorem ptwW_v(T:K × K × K):(ptwW A S M (vJW v T)).1=vJW v (ptw F.toCRing T):=by
 unfold ptwW ptw vJW;simp only[h.add,h.sub,h.mul]
theorem pacW_v(T:K × K × K)(x:K):pacW S M (vJW v T) (v x)=v (jacross F.toCRing T x):=by
 unfold pacW jacross vJW;simp only[h.sub,h.mul]
theorem pupW_v(T:K × K × K)(y:K):pupW S M (vJW v T) (v y)=v (jup F.toCRing T y):=by
 unfold pupW jup vJW;simp only[h.sub,h.mul]
theorem padW_v(T:K × K × K)(x y:K):(padW A S M (vJW v T) (v x) (v y)).1=vJW v (padd F.toCRing T x y):=by
 unfold padW padd;rw[pacW_v h,pupW_v h];unfold vJW jup;simp only[h.add,h.sub,h.mul]
theorem sameW_v(T:K × K × K)(x y:K):sameW S M (vJW v T) (v x) (v y)=decide (jacross F.toCRing T x=F.zero/\jup F.toCRing T y=F.zero):=by
 unfold sameW;rw[pacW_v h,pupW_v h,eqzW_v h,eqzW_v h];by_cases h1:jacross F.toCRing T x=F.zero <;> by_cases h2:jup F.toCRing T y=F.zero <;> simp[h1,h2]
theorem pplW_v(T:K × K × K)(x y:K):(pplW A S M (vJW v T) (v x,v y,false)).1=vJW v (ppl F T x y):=by
 show(bif false then _ else bif zrW (vJW v T)then _ else bif sameW S M (vJW v T) (v x) (v y)then _ else _:(Nat × Nat × Nat) × Nat).1=_;rw[zrW_v h,sameW_v h];unfold ppl;by_cases hz:T.2.2=F.zero
 ·rw[if_pos hz,decide_eq_true hz]
  show plcW (v x,v y,false)=_;unfold vJW;rw[h.one];rfl
 ·rw[if_neg hz,decide_eq_false hz]
  by_cases hs:jacross F.toCRing T x=F.zero/\jup F.toCRing T y=F.zero
  ·rw[if_pos hs,decide_eq_true hs]
   exact ptwW_v h T
  ·rw[if_neg hs,decide_eq_false hs]
   exact padW_v h T x y
omit h in
theorem pplW_n(T:(Nat × Nat × Nat)){p:(Nat × Nat × Bool)}(hp:p.2.2=true):(pplW A S M T p).1=T:=by
 unfold pplW;rw[hp];rfl
theorem tmsW_v(hc:Curve F b){P:Pt K}(hP:P.On F b){p:(Nat × Nat × Bool)}(hr:rlW v p P)(kk:Nat):∀ s T,Jac F T (nmul F (kk / 2^s) P)->∃ T',tmsW (ptwW A S M) (pplW A S M) kk p s (vJW v T)=vJW v T'/\Jac F T' (nmul F kk P)
 | 0,T,hT=>by
  rw[Nat.pow_zero,Nat.div_one]at hT;exact⟨T,rfl,hT⟩
 | s+1,T,hT=>by
  have o:=on_nmul hc hP (kk / 2^(s+1));have g:=jac_ptw hc o hT;have hb:=nmul_bit hc hP kk s;show ∃ T',tmsW (ptwW A S M) (pplW A S M) kk p s (trdW (ptwW A S M) (pplW A S M) kk p s (vJW v T))=_/\_;unfold trdW;rw[bkI_is,ptwW_v h];by_cases h1:kk / 2^s%2=1
  ·have e:eqI ((kk / 2^s%2:Nat):Int) 1=true:=decide_eq_true (by omega)
   rw[if_pos h1]at hb;rw[e];show ∃ T',tmsW _ _ kk p s ((pplW A S M (vJW v (ptw F.toCRing T)) p).1)=_/\_;cases P with
   | none =>
    rw[pplW_n _ hr];refine tmsW_v hc hP hr kk s _ ?_;rw[hb,psum_none_r];exact g
   | some x y =>
    have hr':p=(v x,v y,false):=hr;rw[show(pplW A S M (vJW v (ptw F.toCRing T)) p).1=vJW v (ppl F (ptw F.toCRing T) x y) by rw[hr'];exact pplW_v h _ x y];refine tmsW_v hc hP hr kk s _ ?_;rw[hb];exact jac_ppl hc (on_psum hc o o) g
  ·have e:eqI ((kk / 2^s%2:Nat):Int) 1=false:=decide_eq_false (by omega)
   rw[if_neg h1]at hb;rw[e];show ∃ T',tmsW _ _ kk p s (vJW v (ptw F.toCRing T))=_/\_;refine tmsW_v hc hP hr kk s _ ?_;rw[hb];exact g
theorem tmW_v(hc:Curve F b){P:Pt K}(hP:P.On F b){p:(Nat × Nat × Bool)}(hr:rlW v p P){kk:Nat}(hk:kk<2^256):∃ T',tmsW (ptwW A S M) (pplW A S M) kk p (bl kk 256) zJW=vJW v T'/\Jac F T' (nmul F kk P):=by
 rw[zJW_v h];refine tmsW_v h hc hP hr kk _ _ ?_;have hs:=(bl_spec kk 256).1;have hm:kk%115792089237316195423570985008687907853269984665640564039457584007913129639936=kk:=Nat.mod_eq_of_lt hk;rw[hm,Nat.mod_eq_of_lt hk]at hs;rw[Nat.div_eq_of_lt hs];rfl
theorem pntW_v{T:K × K × K}{P:Pt K}(hT:Jac F T P):pntW M I (vJW v T)=cnW v P:=by
 unfold pntW;cases P with
 | none =>
  have e:T.2.2=F.zero:=hT;rw[show(vJW v T).2.2=v F.zero from congrArg v e,h.no];rfl
 | some x y =>
  obtain⟨i,h1,h2⟩:=h.inv T.2.2 hT.1;have e:=jac_point hT h2;injection e with ex ey
  rw[show(vJW v T).2.2=v T.2.2 from rfl,h1];show(M (v T.1) (M (v i) (v i)),M (v T.2.1) (M (M (v i) (v i)) (v i)),false)=(v x,v y,false);rw[h.mul,h.mul,h.mul,h.mul,ex,ey]
theorem plcW_v{p:(Nat × Nat × Bool)}{P:Pt K}(hr:rlW v p P):∃ T,plcW p=vJW v T/\Jac F T P:=by
 unfold plcW;cases P with
 | none =>
  rw[show p.2.2=true from hr];exact⟨_,zJW_v h,rfl⟩
 | some x y =>
  rw[show p=(v x,v y,false) from hr];refine⟨(x,y,F.one),?_,F.one_ne,?_,?_⟩
  ·show(v x,v y,1)=_
   unfold vJW;rw[h.one]
  ·show x=F.mul x (F.mul F.one F.one)
   rw[F.mul_one,F.mul_one]
  ·show y=F.mul y (F.mul (F.mul F.one F.one) F.one)
   rw[F.mul_one,F.mul_one,F.mul_one]
theorem smPW_v(hc:Curve F b){H:(Nat × Nat × Bool)->Bool}{p q:(Nat × Nat × Bool)}{P Q:Pt K}(hp:rlW v p P)(hq:rlW v q Q)(oP:P.On F b)(h1:H p=true)(h2:H q=true):smPW H (pplW A S M) (pntW M I) p q=(cnW v (psum F P Q),0):=by
 unfold smPW;rw[h1,h2];show(pntW M I (pplW A S M (plcW p) q).1,(0:Int))=_;obtain⟨T,e,hT⟩:=plcW_v h hp;rw[e];congr 1;cases Q with
 | none =>
  rw[pplW_n _ hq,psum_none_r];exact pntW_v h hT
 | some x y =>
  rw[show(pplW A S M (vJW v T) q).1=vJW v (ppl F T x y) by rw[show q=(v x,v y,false) from hq];exact pplW_v h T x y];exact pntW_v h (jac_ppl hc oP hT)
theorem pdPW_v(hc:Curve F b){H:(Nat × Nat × Bool)->Bool}{p:(Nat × Nat × Bool)}{P:Pt K}(hp:rlW v p P)(oP:P.On F b)(h1:H p=true){n:Nat}(hn:n<2^256):pdPW H (fun n P=>tmsW (ptwW A S M) (pplW A S M) n P (bl n 256) zJW) (pntW M I) n p=(cnW v (nmul F n P),0):=by
 unfold pdPW;rw[h1];show(pntW M I (tmsW (ptwW A S M) (pplW A S M) n p (bl n 256) zJW),(0:Int))=_;obtain⟨T,e,hT⟩:=tmW_v h hc oP hp hn;rw[e,pntW_v h hT]
theorem fitW_v(hb:v b=3)(bel:∀ n,blwW A n=true↔∃ a,v a=n)(x y:Nat):fitW A M x y=true↔∃ a c,x=v a/\y=v c/\OnC F.toCRing b a c:=by
 unfold fitW;constructor
 ·intro hf
  cases h1:blwW A x
  ·rw[h1]at hf;cases hf
  ·cases h2:blwW A y
   ·rw[h1,h2]at hf;cases hf
   ·obtain⟨a,rfl⟩:=(bel x).1 h1
    obtain⟨c,rfl⟩:=(bel y).1 h2;rw[h1,h2]at hf;refine⟨a,c,rfl,rfl,?_⟩;change eqN (M (v c) (v c)) (A (M (M (v a) (v a)) (v a)) 3)=true at hf;rw[<- hb,h.mul,h.mul,h.mul,h.add,h.eq]at hf;exact(of_decide_eq_true hf:F.mul c c=F.add (F.mul (F.mul a a) a) b)
 ·rintro⟨a,c,rfl,rfl,ho⟩
  rw[(bel _).2 ⟨a,rfl⟩,(bel _).2 ⟨c,rfl⟩];show eqN (M (v c) (v c)) (A (M (M (v a) (v a)) (v a)) 3)=true;rw[<- hb,h.mul,h.mul,h.mul,h.add,h.eq];exact decide_eq_true (show F.mul c c=F.add (F.mul (F.mul a a) a) b from ho)
end
end
end Sy
open Go.RowKit
namespace Sy
structure Nm2 {K:Type} [DecidableEq K] (F:CField K) (v:K->N2) (A S M:N2->N2->N2) (I:N2->N2 × Bool):Prop where
 zero:v F.zero=z2
 one:v F.one=((1,0):N2)
 add:∀ a c,A (v a) (v c)=v (F.add a c)
 sub:∀ a c,S (v a) (v c)=v (F.sub a c)
 mul:∀ a c,M (v a) (v c)=v (F.mul a c)
 inv:∀ a,a≠F.zero->∃ i,I (v a)=(v i,true)/\F.mul a i=F.one
 no:(I (v F.zero)).2=false
 eq:∀ a c,eqL (wl2 (v a)) (wl2 (v c))=decide (a=c)
section
variable {K:Type} [DecidableEq K] {F:CField K} {b:K} {v:K->N2} {A S M:N2->N2->N2} {I:N2->N2 × Bool}
def vJ2(v:K->N2)(T:K × K × K):(N2 × N2 × N2):=(v T.1,v T.2.1,v T.2.2)
def cn2(v:K->N2):Pt K->(N2 × N2 × Bool)
 | .none=>(z2,z2,true)
 | .some x y=>(v x,v y,false)
def rl2(v:K->N2)(p:(N2 × N2 × Bool)):Pt K->Prop
 | .none=>p.2.2=true
 | .some x y=>p=(v x,v y,false)
section
variable (h:Nm2 F v A S M I)
include h
theorem zJ2_v:zJ2=vJ2 v (F.zero,F.zero,F.zero):=by unfold zJ2 vJ2;rw[h.zero]
theorem eqz2_v(a:K):eqL (wl2 (v a)) (wl2 (z2))=decide (a=F.zero):=by rw[<- h.zero];exact h.eq _ _
theorem zr2_v(T:K × K × K):zr2 (vJ2 v T)=decide (T.2.2=F.zero):=eqz2_v h T.2.2
theorem pac2_v(T:K × K × K)(x:K):pac2 S M (vJ2 v T) (v x)=v (jacross F.toCRing T x):=by
 unfold pac2 jacross vJ2;simp only[h.sub,h.mul]
theorem pup2_v(T:K × K × K)(y:K):pup2 S M (vJ2 v T) (v y)=v (jup F.toCRing T y):=by
 unfold pup2 jup vJ2;simp only[h.sub,h.mul]
theorem pnt2_v{T:K × K × K}{P:Pt K}(hT:Jac F T P):pnt2 M I (vJ2 v T)=cn2 v P:=by
 unfold pnt2;cases P with
 | none =>
  have e:T.2.2=F.zero:=hT;rw[show(vJ2 v T).2.2=v F.zero from congrArg v e,h.no];rfl
 | some x y =>
  obtain⟨i,h1,h2⟩:=h.inv T.2.2 hT.1;have e:=jac_point hT h2;injection e with ex ey
  rw[show(vJ2 v T).2.2=v T.2.2 from rfl,h1];show(M (v T.1) (M (v i) (v i)),M (v T.2.1) (M (M (v i) (v i)) (v i)),false)=(v x,v y,false);rw[h.mul,h.mul,h.mul,h.mul,ex,ey]
end
end
end Sy
open Go.RowKit
namespace Sy
structure Sml {K:Type} (F:CField K) (v:K->N2):Prop where
 two:v (F.add F.one F.one)=(2,0)
 three:v (c3 F.toCRing)=(3,0)
 four:v (c4 F.toCRing)=(4,0)
 eight:v (c8 F.toCRing)=(8,0)
theorem twD_rl{K:Type}{v:K->N2}{q:N2 × N2 × Bool}{Q:Pt K}(hq:rl2 v q Q):twD q=cn2 v Q:=by
 unfold twD;cases Q with
 | none=>rw[show q.2.2=true from hq];rfl
 | some x y=>rw[show q=(v x,v y,false) from hq];rfl
section
variable {K:Type} [DecidableEq K] {F:CField K} {b:K} {v:K->N2} {A S M:N2->N2->N2} {I:N2->N2 × Bool}
theorem ptD_tw(D:N2 × N2 × Bool):ptD D=ptD (twD D):=by
 obtain⟨x,y,n⟩:=D;cases n <;> rfl
section
variable (h:Nm2 F v A S M I)
include h
theorem inv_v{a:K}(ha:a≠F.zero):I (v a)=(v (F.inv a),true):=by
 obtain⟨i,h1,h2⟩:=h.inv a ha;have e:i=F.inv a:=F.cancel (d:=a) ha (by rw[F.mul_comm,h2,F.mul_comm,F.mul_inv a ha]);rw[h1,e]
theorem e2_v(a c:K):e2 (v a) (v c)=decide (a=c):=h.eq a c
theorem e2z_v(a:K):e2 (v a) z2=decide (a=F.zero):=eqz2_v h a
theorem rtw_v(hs:Sml F v)(T:K × K × K):rtw A S M (vJ2 v T)=vJ2 v (rdbl F.toCRing T):=by
 unfold rtw rdbl vJ2;rw[<- hs.two,<- hs.three,<- hs.four,<- hs.eight];simp only[h.add,h.sub,h.mul];rw[show F.mul (F.mul T.2.1 T.2.2) (F.add F.one F.one)=F.mul (F.add T.2.1 T.2.1) T.2.2 by rw[F.mul_add,F.mul_one,F.add_mul]]
theorem rpad_v(T:K × K × K)(x y:K):rpad A S M (vJ2 v T) (v x,v y,false)=vJ2 v (jadd F.toCRing T x y):=by
 unfold rpad jadd;rw[show(v x,v y,false).1=v x from rfl,pac2_v h];unfold vJ2 jup;simp only[h.add,h.sub,h.mul]
theorem rpl_v(hs:Sml F v)(T:K × K × K)(x y:K):rpl A S M (rtw A S M) (vJ2 v T) (v x,v y,false)=vJ2 v (rplus F T x y):=by
 unfold rpl rplus;show(bif zr2 (vJ2 v T)then _ else bif e2 (pac2 S M (vJ2 v T) (v x)) z2 then (bif e2 (pup2 S M (vJ2 v T) (v y)) z2 then rtw A S M (vJ2 v T)else zJ2)else rpad A S M (vJ2 v T) (v x,v y,false))=_;rw[zr2_v h,pac2_v h,pup2_v h,e2z_v h,e2z_v h];by_cases hz:T.2.2=F.zero
 ·rw[if_pos hz,decide_eq_true hz]
  unfold vJ2;rw[h.one];rfl
 ·rw[if_neg hz,decide_eq_false hz]
  by_cases ha:jacross F.toCRing T x=F.zero
  ·rw[if_pos ha,decide_eq_true ha]
   by_cases hu:jup F.toCRing T y=F.zero
   ·rw[if_pos hu,decide_eq_true hu]
    exact rtw_v h hs T
   ·rw[if_neg hu,decide_eq_false hu]
    exact zJ2_v h
  ·rw[if_neg ha,decide_eq_false ha]
   exact rpad_v h T x y
theorem rtm_v(hs:Sml F v)(hc:Curve F b){x y:K}(hP:(Pt.some x y).On F b)(kk:Nat):∀ s T,Jac F T (nmul F (kk / 2^s) (.some x y))->∃ T',rtm (rtw A S M) (rpl A S M (rtw A S M)) kk (v x,v y,false) s (vJ2 v T)=vJ2 v T'/\Jac F T' (nmul F kk (.some x y))
 | 0,T,hT=>by
  rw[Nat.pow_zero,Nat.div_one]at hT;exact⟨T,rfl,hT⟩
 | s+1,T,hT=>by
  have o:=on_nmul hc hP (kk / 2^(s+1));have g:=jac_rdbl hc o hT;have hb:=nmul_bit hc hP kk s;show ∃ T',rtm (rtw A S M) (rpl A S M (rtw A S M)) kk (v x,v y,false) s (rtd (rtw A S M) (rpl A S M (rtw A S M)) kk (v x,v y,false) s (vJ2 v T))=_/\_;unfold rtd;rw[rtw_v h hs];by_cases h1:kk / 2^s%2=1
  ·have e:eqI ((kk / 2^s%2:Nat):Int) 1=true:=decide_eq_true (by omega)
   rw[if_pos h1]at hb;rw[e];show ∃ T',rtm _ _ kk _ s (rpl A S M (rtw A S M) (vJ2 v (rdbl F.toCRing T)) (v x,v y,false))=_/\_;rw[rpl_v h hs];refine rtm_v hs hc hP kk s _ ?_;rw[hb];exact jac_rplus hc (on_psum hc o o) g
  ·have e:eqI ((kk / 2^s%2:Nat):Int) 1=false:=decide_eq_false (by omega)
   rw[if_neg h1]at hb;rw[e];show ∃ T',rtm _ _ kk _ s (vJ2 v (rdbl F.toCRing T))=_/\_;refine rtm_v hs hc hP kk s _ ?_;rw[hb];exact g
theorem pnR_v{T:K × K × K}{P:Pt K}(hT:Jac F T P):pnR M I (vJ2 v T)=cn2 v P:=pnt2_v h hT
theorem rtP_v(hs:Sml F v)(hc:Curve F b){P:Pt K}(hP:P.On F b){p:N2 × N2 × Bool}(hr:rl2 v p P){kk:Nat}(hk:kk<2^256):rtP (rtw A S M) (rpl A S M (rtw A S M)) (fun k=>bl k 256) M I kk p=cn2 v (nmul F kk P):=by
 unfold rtP;cases P with
 | none =>
  rw[show p.2.2=true from hr,nmul_none,zJ2_v h];exact pnR_v h (P:=.none) rfl
 | some x y =>
  rw[show p=(v x,v y,false) from hr,zJ2_v h];have hb:=(bl_spec kk 256).1;have hm:kk%115792089237316195423570985008687907853269984665640564039457584007913129639936=kk:=Nat.mod_eq_of_lt hk;rw[hm,Nat.mod_eq_of_lt hk]at hb;obtain⟨T,e,hT⟩:=rtm_v h hs hc hP kk (bl kk 256) (F.zero,F.zero,F.zero) (by rw[Nat.div_eq_of_lt hb];rfl);show pnR M I (rtm _ _ kk _ (bl kk 256) _)=_;rw[e];exact pnR_v h hT
theorem smD_v(s x1 y1 x2 y2:K):smD S M (v s) (v x1,v y1,false) (v x2,v y2,false)=cn2 v (lineTo F x1 y1 x2 s):=by
 unfold smD lineTo cn2;simp only[h.sub,h.mul]
theorem smR_v(hc:Curve F b){P Q:Pt K}{p q:N2 × N2 × Bool}(hp:rl2 v p P)(hq:rl2 v q Q):twD (smR S M (slp A S M I) p q)=cn2 v (psum F P Q):=by
 unfold smR;cases P with
 | none =>
  rw[show p.2.2=true from hp];exact twD_rl hq
 | some x1 y1 =>
  cases Q with
  | none =>
   rw[show q.2.2=true from hq,show p=(v x1,v y1,false) from hp];rfl
  | some x2 y2 =>
   rw[show p=(v x1,v y1,false) from hp,show q=(v x2,v y2,false) from hq];show twD (bif (slp A S M I (v x1,v y1,false) (v x2,v y2,false)).2 then smD S M (slp A S M I (v x1,v y1,false) (v x2,v y2,false)).1 (v x1,v y1,false) (v x2,v y2,false)else (z2,z2,true))=cn2 v (if x1=x2 then (if y1≠y2\/y1=F.zero then .none else lineTo F x1 y1 x2 (F.mul (F.add (F.mul x1 x1) (F.add (F.mul x1 x1) (F.mul x1 x1))) (F.inv (F.add y1 y1))))else lineTo F x1 y1 x2 (F.mul (F.sub y2 y1) (F.inv (F.sub x2 x1))));have hl:∀ s,twD (smD S M (v s) (v x1,v y1,false) (v x2,v y2,false))=cn2 v (lineTo F x1 y1 x2 s):=fun s=>by
    rw[smD_v h];rfl
   by_cases hx:x1=x2
   ·rw[if_pos hx]
    by_cases hy:y1≠y2\/y1=F.zero
    ·have e:slp A S M I (v x1,v y1,false) (v x2,v y2,false)=(z2,false):=by
      show(bif e2 (v x1) (v x2)then (bif (bif !e2 (v y1) (v y2)then true else e2 (v y1) z2)then (z2,false)else _)else _)=_;rw[e2_v h,e2_v h,e2z_v h,decide_eq_true hx];by_cases h1:y1=y2
      ·rcases hy with hy | hy
       ·exact absurd h1 hy
       ·rw[decide_eq_true h1,decide_eq_true hy]
        rfl
      ·rw[decide_eq_false h1]
       rfl
     rw[if_pos hy,e];rfl
    ·have h1:y1=y2:=Decidable.not_not.1 fun hn=>hy (.inl hn)
     have h2:y1≠F.zero:=fun hn=>hy (.inr hn);have e:slp A S M I (v x1,v y1,false) (v x2,v y2,false)=(v (F.mul (F.add (F.mul x1 x1) (F.add (F.mul x1 x1) (F.mul x1 x1))) (F.inv (F.add y1 y1))),true):=by
      show(bif e2 (v x1) (v x2)then (bif (bif !e2 (v y1) (v y2)then true else e2 (v y1) z2)then (z2,false)else (M (A (M (v x1) (v x1)) (A (M (v x1) (v x1)) (M (v x1) (v x1)))) (I (A (v y1) (v y1))).1,true))else _)=_;rw[e2_v h,e2_v h,e2z_v h,decide_eq_true hx,decide_eq_true h1,decide_eq_false h2,h.mul,h.add,h.add,h.add,inv_v h (hc.two _ h2)];show(M (v _) (v _),true)=_;rw[h.mul]
     rw[if_neg hy,e];exact hl _
   ·have hd:F.sub x2 x1≠F.zero:=fun hn=>hx (F.eq_of_sub hn).symm
    have e:slp A S M I (v x1,v y1,false) (v x2,v y2,false)=(v (F.mul (F.sub y2 y1) (F.inv (F.sub x2 x1))),true):=by
     show(bif e2 (v x1) (v x2)then _ else (M (S (v y2) (v y1)) (I (S (v x2) (v x1))).1,true))=_;rw[e2_v h,decide_eq_false hx,h.sub,h.sub,inv_v h hd];show(M (v _) (v _),true)=_;rw[h.mul]
    rw[if_neg hx,e];exact hl _
theorem sqD_v(x y:K)(n:Bool):sqD A M (v x,v y,n) (v b)=true↔OnC F.toCRing b x y:=by
 show e2 (M (v y) (v y)) (A (M (M (v x) (v x)) (v x)) (v b))=true↔_;rw[h.mul,h.mul,h.mul,h.add,e2_v h,decide_eq_true_eq];exact Iff.rfl
end
end
end Sy
theorem prm_31:Pr 31:=tried 31 6 (by decide) (by decide) (by decide +kernel)
theorem prm_3:Pr 3:=tried 3 2 (by decide) (by decide) (by decide +kernel)
theorem prm_93001:Pr 93001:=pocklington 93001 2 [31,5,3] (by decide +kernel) (by intro q hq;simp only[List.mem_cons,List.not_mem_nil,or_false]at hq;rcases hq with rfl | rfl | rfl <;> first | exact prm_31 | exact prm_5 | exact prm_3)
theorem prm_661:Pr 661:=tried 661 26 (by decide) (by decide) (by decide +kernel)
theorem prm_12048837557:Pr 12048837557:=pocklington 12048837557 2 [93001,661] (by decide +kernel) (by intro q hq;simp only[List.mem_cons,List.not_mem_nil,or_false]at hq;rcases hq with rfl | rfl <;> first | exact prm_93001 | exact prm_661)
theorem prm_5156902474397:Pr 5156902474397:=pocklington 5156902474397 2 [12048837557] (by decide +kernel) (by intro q hq;simp only[List.mem_cons,List.not_mem_nil,or_false]at hq;rcases hq with rfl <;> first | exact prm_12048837557)
theorem prm_1670836401704629:Pr 1670836401704629:=pocklington 1670836401704629 2 [5156902474397] (by decide +kernel) (by intro q hq;simp only[List.mem_cons,List.not_mem_nil,or_false]at hq;rcases hq with rfl <;> first | exact prm_5156902474397)
theorem prm_17:Pr 17:=tried 17 5 (by decide) (by decide) (by decide +kernel)
theorem prm_4999:Pr 4999:=pocklington 4999 3 [17,7] (by decide +kernel) (by intro q hq;simp only[List.mem_cons,List.not_mem_nil,or_false]at hq;rcases hq with rfl | rfl <;> first | exact prm_17 | exact prm_7)
theorem prm_3691:Pr 3691:=pocklington 3691 2 [41,5] (by decide +kernel) (by intro q hq;simp only[List.mem_cons,List.not_mem_nil,or_false]at hq;rcases hq with rfl | rfl <;> first | exact prm_41 | exact prm_5)
theorem prm_405928799:Pr 405928799:=pocklington 405928799 2 [4999,3691] (by decide +kernel) (by intro q hq;simp only[List.mem_cons,List.not_mem_nil,or_false]at hq;rcases hq with rfl | rfl <;> first | exact prm_4999 | exact prm_3691)
theorem prm_449:Pr 449:=tried 449 22 (by decide) (by decide) (by decide +kernel)
theorem prm_11:Pr 11:=tried 11 4 (by decide) (by decide) (by decide +kernel)
theorem prm_237073:Pr 237073:=pocklington 237073 2 [449,11] (by decide +kernel) (by intro q hq;simp only[List.mem_cons,List.not_mem_nil,or_false]at hq;rcases hq with rfl | rfl <;> first | exact prm_449 | exact prm_11)
theorem prm_2:Pr 2:=tried 2 2 (by decide) (by decide) (by decide +kernel)
theorem prm_5501:Pr 5501:=pocklington 5501 2 [11,5,2] (by decide +kernel) (by intro q hq;simp only[List.mem_cons,List.not_mem_nil,or_false]at hq;rcases hq with rfl | rfl | rfl <;> first | exact prm_11 | exact prm_5 | exact prm_2)
theorem prm_11003:Pr 11003:=pocklington 11003 2 [5501] (by decide +kernel) (by intro q hq;simp only[List.mem_cons,List.not_mem_nil,or_false]at hq;rcases hq with rfl <;> first | exact prm_5501)
theorem prm_983:Pr 983:=tried 983 32 (by decide) (by decide) (by decide +kernel)
theorem prm_13:Pr 13:=tried 13 4 (by decide) (by decide) (by decide +kernel)
theorem prm_21888242871839275222246405745257275088548364400416034343698204186575808495617:Pr 21888242871839275222246405745257275088548364400416034343698204186575808495617:=pocklington 21888242871839275222246405745257275088548364400416034343698204186575808495617 5 [1670836401704629,405928799,237073,11003,983,29,13] (by decide +kernel) (by intro q hq;simp only[List.mem_cons,List.not_mem_nil,or_false]at hq;rcases hq with rfl | rfl | rfl | rfl | rfl | rfl | rfl <;> first | exact prm_1670836401704629 | exact prm_405928799 | exact prm_237073 | exact prm_11003 | exact prm_983 | exact prm_29 | exact prm_13)
section
variable {p:Nat} (hp:Pr p)
theorem v_add(a b:Zp p):(a.1+b.1)%p=((zpField hp).add a b).1:=rfl
theorem v_mul(a b:Zp p):a.1*b.1%p=((zpField hp).mul a b).1:=rfl
theorem v_subr(a b:Zp p):(a.1+(p - b.1))%p=((zpField hp).sub a b).1:=by
 show _=(a.1+(p - b.1)%p)%p;rw[Nat.add_mod_mod]
theorem v_sub(a b:Zp p):(a.1%p+(p - b.1%p))%p=((zpField hp).sub a b).1:=by
 rw[Nat.mod_eq_of_lt a.2,Nat.mod_eq_of_lt b.2,v_subr]
theorem v_negr(a:Zp p):(0+(p - a.1))%p=((zpField hp).neg a).1:=by
 show _=(p - a.1)%p;rw[Nat.zero_add]
theorem v_inv_iff(a:Zp p):a.1*(a.1^(p - 2)%p)%p=1↔a≠(zpField hp).zero:=by
 refine(invN_iff (n:=a.1) hp).trans ⟨fun h e=>h ?_,fun h hd=>h (zp_ext (Nat.eq_zero_of_dvd_of_lt hd a.2))⟩;rw[e];exact Nat.dvd_zero p
end
open Sy
section
variable {m:Nat} (hp:Pr m) (hm:m<2^256)
include hm
theorem ra2_v(z y:Zp m × Zp m):ra2 m (v2 z) (v2 y)=v2 ((K2 hp).add z y):=Prod.ext (rA_eq z.1.2 y.1.2 hm) (rA_eq z.2.2 y.2.2 hm)
theorem rs2_v(z y:Zp m × Zp m):rs2 m (v2 z) (v2 y)=v2 ((K2 hp).sub z y):=Prod.ext ((rS_eq z.1.2 y.1.2 hm).trans (v_subr hp z.1 y.1)) ((rS_eq z.2.2 y.2.2 hm).trans (v_subr hp z.2 y.2))
theorem rm2_eq(a b:N2):rm2 m a b=m2 hp a b:=by
 have hlt:∀ n,n%m<m:=fun n=>Nat.mod_lt _ hp.pos;rw[<- m2_eq hp a b];refine Prod.ext ?_ ?_
 ·show rS m _ _=_
  rw[rS_eq (hlt _) (hlt _) hm,Nat.mod_mod,Nat.mod_mod]
 ·exact rA_eq (hlt _) (hlt _) hm
theorem rc2_v(z:Zp m × Zp m):rc2 m (v2 z)=v2 (z.1,(K1 hp).neg z.2):=Prod.ext rfl ((rS_eq hp.pos z.2.2 hm).trans (v_negr hp z.2))
omit hm
theorem ro2_eq(a:N2):ro2 m a=v2 (ph2 hp a):=rfl
def nm(z:Zp m × Zp m):Zp m:=(K1 hp).add ((K1 hp).mul z.1 z.1) ((K1 hp).mul z.2 z.2)
theorem nw_eq(a:N2):nw m a=(nm hp (ph2 hp a)).1:=by
 unfold nw;rw[ph_mul hp,ph_mul hp,ph_add hp,ph_v,ph_v];rfl
theorem mul_conj(z:Zp m × Zp m):(K2 hp).mul z (z.1,(K1 hp).neg z.2)=(nm hp z,(K1 hp).zero):=by
 refine Prod.ext ?_ ?_
 ·show(K1 hp).add ((K1 hp).mul z.1 z.1) ((K1 hp).mul ((K1 hp).neg (K1 hp).one) ((K1 hp).mul z.2 ((K1 hp).neg z.2)))=_
  rw[CRing.mul_m1,CRing.mul_neg,CRing.neg_neg];rfl
 ·show(K1 hp).add ((K1 hp).mul z.1 ((K1 hp).neg z.2)) ((K1 hp).mul z.2 z.1)=_
  rw[CRing.mul_neg,(K1 hp).mul_comm z.2 z.1,(K1 hp).add_comm,(K1 hp).add_neg]
theorem even_pow{a:Nat}(h:a*a%m=1%m):∀ k,a^(2*k)%m=1%m
 | 0=>by simp
 | k+1=>by
  rw[show 2*(k+1)=2*k+2 by omega,Nat.pow_add,Nat.mul_mod,even_pow h k,Nat.pow_two,h,<- Nat.mul_mod]
theorem no_i(h4:m%4=3)(z:Zp m):(K1 hp).add ((K1 hp).mul z z) (K1 hp).one≠(K1 hp).zero:=fun h=>by
 have h1:(z.1*z.1%m+1)%m=0:=congrArg Subtype.val h;have h2:=hp.1;have hz:z.1*z.1%m=m - 1:=by
  have hl:z.1*z.1%m<m:=Nat.mod_lt _ hp.pos;by_cases he:z.1*z.1%m+1<m
  ·rw[Nat.mod_eq_of_lt he]at h1
   omega
  ·omega
 have hd:¬m∣z.1:=fun hd=>by
  rw[Nat.eq_zero_of_dvd_of_lt hd z.2,Nat.mul_zero,Nat.zero_mod]at hz;omega
 have hf:=fermat1 hp z.1 hd;have hs:(m - 1)*(m - 1)%m=1%m:=by
  have e:(m - 1)*(m - 1)=m*(m - 2)+1:=by
   obtain⟨k,hk⟩:∃ k,m=k+2:=⟨m - 2,by omega⟩
   subst hk;simp only[Nat.add_sub_cancel,show k+2 - 1=k+1 by omega,Nat.add_mul,Nat.mul_add];omega
  rw[e,Nat.mul_add_mod]
 have e:m - 1=2*(2*(m / 4)+1):=by omega
 rw[e,Nat.pow_mul,Nat.pow_two,Nat.pow_mod,hz,Nat.pow_succ,Nat.mul_mod,even_pow hs (m / 4),<- Nat.mul_mod,Nat.one_mul,Nat.mod_eq_of_lt (show m - 1<m by omega)]at hf;omega
theorem nm_zero(h4:m%4=3){z:Zp m × Zp m}(h:nm hp z=(K1 hp).zero):z=(K2 hp).zero:=by
 have key:∀ x y:Zp m,(K1 hp).add ((K1 hp).mul x x) ((K1 hp).mul y y)=(K1 hp).zero->y=(K1 hp).zero:=fun x y h=>by
  by_cases hy:y=(K1 hp).zero
  ·exact hy
  ·exfalso
   have hi:=(zpField hp).mul_inv y hy;refine no_i hp h4 ((K1 hp).mul x ((zpField hp).inv y)) ?_;have h2:=congrArg (fun t=>(K1 hp).mul t ((K1 hp).mul ((zpField hp).inv y) ((zpField hp).inv y))) h;rw[CRing.add_mul,CRing.zero_mul,CRing.mul4,CRing.mul4 (K1 hp) y y,show(K1 hp).mul y ((zpField hp).inv y)=(K1 hp).one from hi,(K1 hp).mul_one]at h2;exact h2
 have h2:z.2=(K1 hp).zero:=key z.1 z.2 h;have h1:z.1=(K1 hp).zero:=key z.2 z.1 (by rw[(K1 hp).add_comm];exact h);exact Prod.ext h1 h2
theorem nm_of_zero:nm hp (K2 hp).zero=(K1 hp).zero:=by
 show(K1 hp).add ((K1 hp).mul (K1 hp).zero (K1 hp).zero) ((K1 hp).mul (K1 hp).zero (K1 hp).zero)=_;rw[CRing.mul_zero,(K1 hp).add_zero]
noncomputable def ji (z:Zp m):Zp m:=if (eqN (z.1*iv m z.1%m) 1)=true then (zpField hp).inv z else (K1 hp).zero
theorem rIv_v(z:Zp m):rIv m z.1=(ji hp z).1:=by
 unfold rIv ji eqN;by_cases h:z.1*iv m z.1%m=1
 ·rw[if_pos h,if_pos (decide_eq_true h)]
  rfl
 ·rw[if_neg h,if_neg (by simpa using h)]
  rfl
theorem found_iff(z:Zp m):eqN (z.1*iv m z.1%m) 1=true↔z≠(K1 hp).zero:=by
 unfold eqN;rw[decide_eq_true_iff];exact v_inv_iff hp z
theorem pi2_1(a:N2):(pi2 m a).1=v2 ((K1 hp).mul (ph hp a.1) (ji hp (nm hp (ph2 hp a))),(K1 hp).neg ((K1 hp).mul (ph hp a.2) (ji hp (nm hp (ph2 hp a))))):=by
 unfold pi2;rw[nw_eq hp,rIv_v hp];refine Prod.ext ?_ ?_
 ·show a.1*_%m=_
  rw[ph_mul hp,ph_v];rfl
 ·show(0%m+(m - a.2*_%m%m))%m=_
  rw[ph_neg hp,ph_mul hp,ph_v,ph_v];rfl
theorem pi2_2(a:N2):(pi2 m a).2=eqN ((nm hp (ph2 hp a)).1*iv m (nm hp (ph2 hp a)).1%m) 1:=by
 unfold pi2;rw[nw_eq hp]
theorem ji_zero{z:Zp m}(h:eqN (z.1*iv m z.1%m) 1=false):ji hp z=(K1 hp).zero:=by
 unfold ji;rw[if_neg (by rw[h];simp)]
theorem ji_inv{z:Zp m}(h:eqN (z.1*iv m z.1%m) 1=true):(K1 hp).mul z (ji hp z)=(K1 hp).one:=by
 unfold ji;rw[if_pos h];exact(zpField hp).mul_inv z ((found_iff hp z).1 h)
include hp hm
theorem ri2_eq(a:N2):ri2 m (rc2 m) (rm2 m) (ro2 m a)=pi2 m a:=by
 have hn:(rm2 m (ro2 m a) (rc2 m (ro2 m a))).1=(nm hp (ph2 hp a)).1:=by
  rw[rm2_eq hp hm,ro2_eq hp,rc2_v hp hm];unfold m2;rw[ph2_v,ph2_v,mul_conj];rfl
 unfold ri2;rw[hn];refine Prod.ext ?_ ?_
 ·cases h:eqN ((nm hp (ph2 hp a)).1*iv m (nm hp (ph2 hp a)).1%m) 1 with
  | false =>
   rw[pi2_1 hp,ji_zero hp h];refine Prod.ext ?_ ?_
   ·show 0=((K1 hp).mul (ph hp a.1) (K1 hp).zero).1
    rw[CRing.mul_zero];rfl
   ·show 0=((K1 hp).neg ((K1 hp).mul (ph hp a.2) (K1 hp).zero)).1
    rw[CRing.mul_zero,CRing.neg_zero];rfl
  | true =>
   rw[pi2_1 hp];show((rc2 m (ro2 m a)).1*rIv m _%m,(rc2 m (ro2 m a)).2*rIv m _%m)=_;rw[rIv_v hp,ro2_eq hp,rc2_v hp hm];refine Prod.ext ?_ ?_
   ·exact v_mul hp _ _
   ·refine(v_mul hp _ _).trans (congrArg Subtype.val ?_)
    exact CRing.neg_mul _ _ _
 ·rw[pi2_2 hp]
  cases h:eqN ((nm hp (ph2 hp a)).1*iv m (nm hp (ph2 hp a)).1%m) 1 <;> rfl
omit hm in
theorem found2(h4:m%4=3)(a:N2):(pi2 m a).2=true↔ph2 hp a≠(K2 hp).zero:=by
 rw[pi2_2 hp,found_iff hp];exact⟨fun h e=>h (by rw[e];exact nm_of_zero hp),fun h e=>h (nm_zero hp h4 e)⟩
end
open Go.RowKit Sy
def b3:Zp pB:=⟨3,by decide⟩
theorem curveB:Curve (zpField prB) b3:=⟨no_root prB (by decide +kernel) (by decide +kernel) (by decide +kernel) (by decide +kernel),zp_two prB (by decide +kernel)⟩
def GB:Pt (Zp pB):=.some ⟨1,by decide⟩ ⟨2,by decide⟩
theorem onGB:GB.On (zpField prB) b3:=on_zp prB b3 ⟨1,by decide⟩ ⟨2,by decide⟩ (by decide +kernel)
theorem prNB:Pr nB:=prm_21888242871839275222246405745257275088548364400416034343698204186575808495617
def bitsB:List Bool:=(List.range 254).reverse.map fun i=>nB.testBit i
theorem bits_nB:bitsN bitsB 0=nB:=by decide +kernel
theorem walk_nB:(walkT (natOps pB) 9 (1,2,1) bitsB (0,1,0)).2.2=0:=by decide +kernel
theorem orderGB:nmul (zpField prB) nB GB=.none:=zp_order prB curveB onGB bitsB nB bits_nB (t:=9) (x:=1) (y:=2) (by decide +kernel) rfl rfl walk_nB
theorem orderB{P:Pt (Zp pB)}(hP:P.On (zpField prB) b3):nmul (zpField prB) nB P=.none:=by
 refine order_all curveB (e:=Subtype.val) (p:=pB) (fun a=>a.2) (fun a c h=>zp_ext h) onGB (fun h=>by cases h) orderGB (fun d h0 hd=>?_) (by decide +kernel) hP;exact Nat.Coprime.symm (prNB.coprime fun hdv=>by have:=Nat.le_of_dvd h0 hdv;omega)
namespace Sy
section
variable {p:Nat} (hp:Pr p)
def AW(p a b:Nat):Nat:=(a+b)%p
def SW(p a b:Nat):Nat:=(a%p+(p - b%p))%p
def MW(p a b:Nat):Nat:=a*b%p
def IW(p a:Nat):Nat × Bool:=(if a*iv p a%p=1 then iv p a else 0,eqN (a*iv p a%p) 1)
include hp
theorem iW_v{a:Zp p}(ha:a≠(zpField hp).zero):IW p a.1=(((zpField hp).inv a).1,true):=by
 have h:a.1*iv p a.1%p=1:=(v_inv_iff hp a).2 ha;unfold IW;rw[if_pos h,h];rfl
theorem zp_one_val(_:1<p):((zpField hp).one).1=1:=rfl
theorem nmW(h1:1<p):NmW (zpField hp) Subtype.val (AW p) (SW p) (MW p) (IW p) where
 zero:=rfl
 one:=zp_one_val hp h1
 add:=fun a c=>v_add hp a c
 sub:=fun a c=>v_sub hp a c
 mul:=fun a c=>v_mul hp a c
 inv:=fun a ha=>⟨_,iW_v hp ha,(zpField hp).mul_inv a ha⟩
 no:=by
  show eqN (0*iv p 0%p) 1=false;rw[Nat.zero_mul,Nat.zero_mod];rfl
 eq:=fun a c=>decide_eq_decide.2 ⟨fun h=>zp_ext h,fun h=>congrArg Subtype.val h⟩
omit hp in
theorem belW(n:Nat)(h0:0<p):blwW (AW p) n=true↔∃ a:Zp p,a.1=n:=by
 unfold blwW AW eqN;rw[decide_eq_true_eq,Nat.add_zero];exact⟨fun h=>⟨⟨n,by rw[<- h];exact Nat.mod_lt _ h0⟩,rfl⟩,fun⟨a,h⟩=>by rw[<- h];exact Nat.mod_eq_of_lt a.2⟩
def vR{p:Nat}(a:Zp p):N2:=(a.1,0)
theorem vR_is(a:Zp p):vR a=v2 (a,(K1 hp).zero):=rfl
variable (hm:p<2^256)
include hm
theorem nmR(h1:1<p)(h4:p%4=3):Nm2 (zpField hp) (vR (p:=p)) (ra2 p) (rs2 p) (rm2 p) (ri2 p (rc2 p) (rm2 p)):=by
 have hro:∀ a:Zp p,ro2 p (vR a)=vR a:=fun a=>by
  show(a.1%p,0%p)=(a.1,0);rw[Nat.mod_eq_of_lt a.2,Nat.zero_mod]
 have hri:∀ a:Zp p,ri2 p (rc2 p) (rm2 p) (vR a)=pi2 p (vR a):=fun a=>by
  have e:=ri2_eq hp hm (vR a);rw[hro]at e;exact e
 have hph:∀ a:Zp p,ph2 hp (vR a)=(a,(K1 hp).zero):=fun a=>by rw[vR_is hp,ph2_v]
 refine⟨rfl,?_,fun a c=>?_,fun a c=>?_,fun a c=>?_,fun a ha=>?_,?_,fun a c=>?_⟩
 ·show(((zpField hp).one).1,0)=(1,0)
  rw[zp_one_val hp h1]
 ·rw[vR_is hp,vR_is hp,ra2_v hp hm]
  refine Prod.ext rfl ?_;show((K1 hp).add (K1 hp).zero (K1 hp).zero).1=0;rw[CRing.add_zero];rfl
 ·rw[vR_is hp,vR_is hp,rs2_v hp hm]
  refine Prod.ext rfl ?_;show((K1 hp).sub (K1 hp).zero (K1 hp).zero).1=0;rw[CRing.sub,CRing.add_neg];rfl
 ·rw[vR_is hp,vR_is hp,rm2_eq hp hm]
  unfold m2;rw[ph2_v,ph2_v];refine Prod.ext ?_ ?_
  ·show((K1 hp).add ((K1 hp).mul a c) ((K1 hp).mul ((K1 hp).neg (K1 hp).one) ((K1 hp).mul (K1 hp).zero (K1 hp).zero))).1=_
   rw[CRing.mul_zero,CRing.mul_zero,CRing.add_zero];rfl
  ·show((K1 hp).add ((K1 hp).mul a (K1 hp).zero) ((K1 hp).mul (K1 hp).zero c)).1=0
   rw[CRing.mul_zero,CRing.zero_mul,CRing.add_zero];rfl
 ·have hf:(pi2 p (vR a)).2=true:=(found2 hp h4 _).2 fun e=>ha (by rw[hph]at e;exact congrArg Prod.fst e)
  have hj:=hf;rw[pi2_2 hp,hph]at hj;have hj:=ji_inv hp hj;have h1:=pi2_1 hp (vR a);rw[hph]at h1;refine⟨(K1 hp).mul a (ji hp (nm hp (a,(K1 hp).zero))),?_,?_⟩
  ·rw[hri]
   refine Prod.ext ?_ hf;rw[h1];have ea:ph hp (vR a).1=a:=ph_v hp a;have eb:ph hp (vR a).2=(K1 hp).zero:=congrArg Prod.snd (hph a);rw[ea,eb,CRing.zero_mul,CRing.neg_zero];rfl
  ·show(K1 hp).mul a ((K1 hp).mul a (ji hp (nm hp (a,(K1 hp).zero))))=(K1 hp).one
   rw[<- hj,<- CRing.mul_assoc];congr 1;show(K1 hp).mul a a=(K1 hp).add ((K1 hp).mul a a) ((K1 hp).mul (K1 hp).zero (K1 hp).zero);rw[CRing.mul_zero,CRing.add_zero]
 ·rw[hri]
  cases hf:(pi2 p (vR (zpField hp).zero)).2 with
  | false=>rfl
  | true=>exact absurd (hph _) ((found2 hp h4 _).1 hf)
 ·show decide ([a.1,0]=[c.1,0])=_
  refine decide_eq_decide.2 ⟨fun h=>?_,fun h=>by rw[h]⟩;injection h with h
  exact zp_ext h
end
end Sy
end Go.Proofs.YtadfjjfklihaaaaGreat
