/- The pairing's curve, the second group, told by points. (Cut to what is reached, written closely: EcJac · EcDig · PrJ · PrNW · PrN2.) -/
import Derived.Test.YtadfjjfklihaaaaGreatQ28
import Derived.Test.YtadfjjfklihaaaaGreatQ29
import Derived.Test.YtadfjjfklihaaaaGreatQ30
set_option linter.all false
set_option maxRecDepth 100000
set_option maxHeartbeats 8000000
namespace Go.Proofs.YtadfjjfklihaaaaGreat
section
variable {K:Type} {F:CField K} {b:K}
def Jac(F:CField K)(T:K × K × K):Pt K->Prop
 | .none=>T.2.2=F.zero
 | .some x y=>T.2.2≠F.zero/\T.1=F.mul x (F.mul T.2.2 T.2.2)/\T.2.1=F.mul y (F.mul (F.mul T.2.2 T.2.2) T.2.2)
def jdbl(C:CRing K)(T:K × K × K):K × K × K :=
 let rise:=C.add T.2.1 T.2.1
 let half:=C.mul T.2.1 rise
 let square:=C.add half half
 let middle:=C.mul T.1 square
 let xx:=C.mul T.1 T.1
 let slope:=C.add (C.add xx xx) xx
 let x:=C.sub (C.mul slope slope) (C.add middle middle)
 (x,C.sub (C.mul slope (C.sub middle x)) (C.mul half square),C.mul rise T.2.2)
def jtwice[DecidableEq K](F:CField K)(T:K × K × K):K × K × K:=if T.2.2=F.zero then T else jdbl F.toCRing T
def jacross(C:CRing K)(T:K × K × K)(x2:K):K:=C.sub (C.mul x2 (C.mul T.2.2 T.2.2)) T.1
def jup(C:CRing K)(T:K × K × K)(y2:K):K:=C.sub (C.mul y2 (C.mul (C.mul T.2.2 T.2.2) T.2.2)) T.2.1
def jadd(C:CRing K)(T:K × K × K)(x2 y2:K):K × K × K :=
 let across:=jacross C T x2
 let up:=jup C T y2
 let square:=C.mul across across
 let cube:=C.mul square across
 let middle:=C.mul T.1 square
 let x:=C.sub (C.sub (C.mul up up) cube) (C.add middle middle)
 (x,C.sub (C.mul up (C.sub middle x)) (C.mul T.2.1 cube),C.mul T.2.2 across)
def jplus[DecidableEq K](F:CField K)(T:K × K × K):Pt K->K × K × K
 | .none=>T
 | .some x2 y2 =>
  if T.2.2=F.zero then (x2,y2,F.one)
  else if jacross F.toCRing T x2=F.zero/\jup F.toCRing T y2=F.zero then jtwice F T
  else jadd F.toCRing T x2 y2
theorem jd1(C:CRing K)(x z:K):(C.add (C.add (C.mul (C.mul x (C.mul z z)) (C.mul x (C.mul z z))) (C.mul (C.mul x (C.mul z z)) (C.mul x (C.mul z z)))) (C.mul (C.mul x (C.mul z z)) (C.mul x (C.mul z z))))=(C.mul (C.add (C.mul x x) (C.add (C.mul x x) (C.mul x x))) (C.mul (C.mul z z) (C.mul z z))):=ring4 C (lets x z C.zero C.zero) (.add (.add (.mul (.mul (.v 0) (.mul (.v 1) (.v 1))) (.mul (.v 0) (.mul (.v 1) (.v 1)))) (.mul (.mul (.v 0) (.mul (.v 1) (.v 1))) (.mul (.v 0) (.mul (.v 1) (.v 1))))) (.mul (.mul (.v 0) (.mul (.v 1) (.v 1))) (.mul (.v 0) (.mul (.v 1) (.v 1))))) (.mul (.add (.mul (.v 0) (.v 0)) (.add (.mul (.v 0) (.v 0)) (.mul (.v 0) (.v 0)))) (.mul (.mul (.v 1) (.v 1)) (.mul (.v 1) (.v 1)))) (by decide +kernel)
theorem jd2(C:CRing K)(s y z:K):(C.mul (C.mul s (C.add y y)) (C.mul (C.mul z z) (C.mul z z)))=(C.mul s (C.mul (C.add (C.mul y (C.mul (C.mul z z) z)) (C.mul y (C.mul (C.mul z z) z))) z)):=ring4 C (lets s y z C.zero) (.mul (.mul (.v 0) (.add (.v 1) (.v 1))) (.mul (.mul (.v 2) (.v 2)) (.mul (.v 2) (.v 2)))) (.mul (.v 0) (.mul (.add (.mul (.v 1) (.mul (.mul (.v 2) (.v 2)) (.v 2))) (.mul (.v 1) (.mul (.mul (.v 2) (.v 2)) (.v 2)))) (.v 2))) (by decide +kernel)
theorem jd3(C:CRing K)(x y z:K):(C.mul (C.mul x (C.mul z z)) (C.add (C.mul (C.mul y (C.mul (C.mul z z) z)) (C.add (C.mul y (C.mul (C.mul z z) z)) (C.mul y (C.mul (C.mul z z) z)))) (C.mul (C.mul y (C.mul (C.mul z z) z)) (C.add (C.mul y (C.mul (C.mul z z) z)) (C.mul y (C.mul (C.mul z z) z))))))=(C.mul x (C.mul (C.mul (C.add (C.mul y (C.mul (C.mul z z) z)) (C.mul y (C.mul (C.mul z z) z))) z) (C.mul (C.add (C.mul y (C.mul (C.mul z z) z)) (C.mul y (C.mul (C.mul z z) z))) z))):=ring4 C (lets x y z C.zero) (.mul (.mul (.v 0) (.mul (.v 2) (.v 2))) (.add (.mul (.mul (.v 1) (.mul (.mul (.v 2) (.v 2)) (.v 2))) (.add (.mul (.v 1) (.mul (.mul (.v 2) (.v 2)) (.v 2))) (.mul (.v 1) (.mul (.mul (.v 2) (.v 2)) (.v 2))))) (.mul (.mul (.v 1) (.mul (.mul (.v 2) (.v 2)) (.v 2))) (.add (.mul (.v 1) (.mul (.mul (.v 2) (.v 2)) (.v 2))) (.mul (.v 1) (.mul (.mul (.v 2) (.v 2)) (.v 2))))))) (.mul (.v 0) (.mul (.mul (.add (.mul (.v 1) (.mul (.mul (.v 2) (.v 2)) (.v 2))) (.mul (.v 1) (.mul (.mul (.v 2) (.v 2)) (.v 2)))) (.v 2)) (.mul (.add (.mul (.v 1) (.mul (.mul (.v 2) (.v 2)) (.v 2))) (.mul (.v 1) (.mul (.mul (.v 2) (.v 2)) (.v 2)))) (.v 2)))) (by decide +kernel)
theorem jd4a(C:CRing K)(v:K):(C.mul (C.mul v (C.add v v)) (C.add (C.mul v (C.add v v)) (C.mul v (C.add v v))))=(C.mul v (C.mul (C.mul (C.add v v) (C.add v v)) (C.add v v))):=ring4 C (lets v C.zero C.zero C.zero) (.mul (.mul (.v 0) (.add (.v 0) (.v 0))) (.add (.mul (.v 0) (.add (.v 0) (.v 0))) (.mul (.v 0) (.add (.v 0) (.v 0))))) (.mul (.v 0) (.mul (.mul (.add (.v 0) (.v 0)) (.add (.v 0) (.v 0))) (.add (.v 0) (.v 0)))) (by decide +kernel)
theorem jd4b(C:CRing K)(y z r:K):(C.mul (C.mul y (C.mul (C.mul z z) z)) (C.mul (C.mul r r) r))=(C.mul y (C.mul (C.mul (C.mul r z) (C.mul r z)) (C.mul r z))):=ring4 C (lets y z r C.zero) (.mul (.mul (.v 0) (.mul (.mul (.v 1) (.v 1)) (.v 1))) (.mul (.mul (.v 2) (.v 2)) (.v 2))) (.mul (.v 0) (.mul (.mul (.mul (.v 2) (.v 1)) (.mul (.v 2) (.v 1))) (.mul (.v 2) (.v 1)))) (by decide +kernel)
theorem j2x(C:CRing K)(x D S:K):(C.sub (C.mul S D) (C.add (C.mul x D) (C.mul x D)))=(C.mul (C.sub (C.sub S x) x) D):=ring4 C (lets x D S C.zero) (.sub (.mul (.v 2) (.v 1)) (.add (.mul (.v 0) (.v 1)) (.mul (.v 0) (.v 1)))) (.mul (.sub (.sub (.v 2) (.v 0)) (.v 0)) (.v 1)) (by decide +kernel)
theorem ja1(C:CRing K)(x1 x2 z:K):(C.sub (C.mul x2 (C.mul z z)) (C.mul x1 (C.mul z z)))=(C.mul (C.sub x2 x1) (C.mul z z)):=ring4 C (lets x1 x2 z C.zero) (.sub (.mul (.v 1) (.mul (.v 2) (.v 2))) (.mul (.v 0) (.mul (.v 2) (.v 2)))) (.mul (.sub (.v 1) (.v 0)) (.mul (.v 2) (.v 2))) (by decide +kernel)
theorem ja2(C:CRing K)(x1 x2 z:K):(C.sub (C.mul x2 (C.mul (C.mul z z) z)) (C.mul x1 (C.mul (C.mul z z) z)))=(C.mul (C.sub x2 x1) (C.mul (C.mul z z) z)):=ring4 C (lets x1 x2 z C.zero) (.sub (.mul (.v 1) (.mul (.mul (.v 2) (.v 2)) (.v 2))) (.mul (.v 0) (.mul (.mul (.v 2) (.v 2)) (.v 2)))) (.mul (.sub (.v 1) (.v 0)) (.mul (.mul (.v 2) (.v 2)) (.v 2))) (by decide +kernel)
theorem ja3(C:CRing K)(s d z:K):(C.mul (C.mul s d) (C.mul (C.mul z z) z))=(C.mul s (C.mul z (C.mul d (C.mul z z)))):=ring4 C (lets s d z C.zero) (.mul (.mul (.v 0) (.v 1)) (.mul (.mul (.v 2) (.v 2)) (.v 2))) (.mul (.v 0) (.mul (.v 2) (.mul (.v 1) (.mul (.v 2) (.v 2))))) (by decide +kernel)
theorem ja4(C:CRing K)(x a z:K):(C.mul (C.mul x (C.mul z z)) (C.mul a a))=(C.mul x (C.mul (C.mul z a) (C.mul z a))):=ring4 C (lets x a z C.zero) (.mul (.mul (.v 0) (.mul (.v 2) (.v 2))) (.mul (.v 1) (.v 1))) (.mul (.v 0) (.mul (.mul (.v 2) (.v 1)) (.mul (.v 2) (.v 1)))) (by decide +kernel)
theorem ja5(C:CRing K)(x a z:K):(C.mul (C.mul x (C.mul (C.mul z z) z)) (C.mul (C.mul a a) a))=(C.mul x (C.mul (C.mul (C.mul z a) (C.mul z a)) (C.mul z a))):=ring4 C (lets x a z C.zero) (.mul (.mul (.v 0) (.mul (.mul (.v 2) (.v 2)) (.v 2))) (.mul (.mul (.v 1) (.v 1)) (.v 1))) (.mul (.v 0) (.mul (.mul (.mul (.v 2) (.v 1)) (.mul (.v 2) (.v 1))) (.mul (.v 2) (.v 1)))) (by decide +kernel)
theorem ja6(C:CRing K)(d z:K):(C.mul (C.mul (C.mul d (C.mul z z)) (C.mul d (C.mul z z))) (C.mul d (C.mul z z)))=(C.mul d (C.mul (C.mul z (C.mul d (C.mul z z))) (C.mul z (C.mul d (C.mul z z))))):=ring4 C (lets d z C.zero C.zero) (.mul (.mul (.mul (.v 0) (.mul (.v 1) (.v 1))) (.mul (.v 0) (.mul (.v 1) (.v 1)))) (.mul (.v 0) (.mul (.v 1) (.v 1)))) (.mul (.v 0) (.mul (.mul (.v 1) (.mul (.v 0) (.mul (.v 1) (.v 1)))) (.mul (.v 1) (.mul (.v 0) (.mul (.v 1) (.v 1)))))) (by decide +kernel)
theorem ja7(C:CRing K)(S x1 x2 D:K):(C.sub (C.sub (C.mul S D) (C.mul (C.sub x2 x1) D)) (C.add (C.mul x1 D) (C.mul x1 D)))=(C.mul (C.sub (C.sub S x1) x2) D):=ring4 C (lets S x1 x2 D) (.sub (.sub (.mul (.v 0) (.v 3)) (.mul (.sub (.v 2) (.v 1)) (.v 3))) (.add (.mul (.v 1) (.v 3)) (.mul (.v 1) (.v 3)))) (.mul (.sub (.sub (.v 0) (.v 1)) (.v 2)) (.v 3)) (by decide +kernel)
theorem jsq(C:CRing K)(s D:K):(C.mul (C.mul s D) (C.mul s D))=(C.mul (C.mul s s) (C.mul D D)):=ring4 C (lets s D C.zero C.zero) (.mul (.mul (.v 0) (.v 1)) (.mul (.v 0) (.v 1))) (.mul (.mul (.v 0) (.v 0)) (.mul (.v 1) (.v 1))) (by decide +kernel)
theorem jp1(C:CRing K)(x z i:K):(C.mul (C.mul x (C.mul z z)) (C.mul i i))=(C.mul x (C.mul (C.mul z i) (C.mul z i))):=ring4 C (lets x z i C.zero) (.mul (.mul (.v 0) (.mul (.v 1) (.v 1))) (.mul (.v 2) (.v 2))) (.mul (.v 0) (.mul (.mul (.v 1) (.v 2)) (.mul (.v 1) (.v 2)))) (by decide +kernel)
theorem jp2(C:CRing K)(x z i:K):(C.mul (C.mul x (C.mul (C.mul z z) z)) (C.mul (C.mul i i) i))=(C.mul x (C.mul (C.mul (C.mul z i) (C.mul z i)) (C.mul z i))):=ring4 C (lets x z i C.zero) (.mul (.mul (.v 0) (.mul (.mul (.v 1) (.v 1)) (.v 1))) (.mul (.mul (.v 2) (.v 2)) (.v 2))) (.mul (.v 0) (.mul (.mul (.mul (.v 1) (.v 2)) (.mul (.v 1) (.v 2))) (.mul (.v 1) (.v 2)))) (by decide +kernel)
theorem jr1(C:CRing K)(X Y:K):(C.add (C.add (C.mul X (C.mul Y Y)) (C.mul X (C.mul Y Y))) (C.add (C.mul X (C.mul Y Y)) (C.mul X (C.mul Y Y))))=(C.mul X (C.add (C.mul Y (C.add Y Y)) (C.mul Y (C.add Y Y)))):=ring4 C (lets X Y C.zero C.zero) (.add (.add (.mul (.v 0) (.mul (.v 1) (.v 1))) (.mul (.v 0) (.mul (.v 1) (.v 1)))) (.add (.mul (.v 0) (.mul (.v 1) (.v 1))) (.mul (.v 0) (.mul (.v 1) (.v 1))))) (.mul (.v 0) (.add (.mul (.v 1) (.add (.v 1) (.v 1))) (.mul (.v 1) (.add (.v 1) (.v 1))))) (by decide +kernel)
theorem jr2(C:CRing K)(X:K):(C.add (C.mul X X) (C.add (C.mul X X) (C.mul X X)))=(C.add (C.add (C.mul X X) (C.mul X X)) (C.mul X X)):=ring4 C (lets X C.zero C.zero C.zero) (.add (.mul (.v 0) (.v 0)) (.add (.mul (.v 0) (.v 0)) (.mul (.v 0) (.v 0)))) (.add (.add (.mul (.v 0) (.v 0)) (.mul (.v 0) (.v 0))) (.mul (.v 0) (.v 0))) (by decide +kernel)
theorem jr3(C:CRing K)(Y:K):(C.add (C.add (C.add (C.mul (C.mul Y Y) (C.mul Y Y)) (C.mul (C.mul Y Y) (C.mul Y Y))) (C.add (C.mul (C.mul Y Y) (C.mul Y Y)) (C.mul (C.mul Y Y) (C.mul Y Y)))) (C.add (C.add (C.mul (C.mul Y Y) (C.mul Y Y)) (C.mul (C.mul Y Y) (C.mul Y Y))) (C.add (C.mul (C.mul Y Y) (C.mul Y Y)) (C.mul (C.mul Y Y) (C.mul Y Y)))))=(C.mul (C.mul Y (C.add Y Y)) (C.add (C.mul Y (C.add Y Y)) (C.mul Y (C.add Y Y)))):=ring4 C (lets Y C.zero C.zero C.zero) (.add (.add (.add (.mul (.mul (.v 0) (.v 0)) (.mul (.v 0) (.v 0))) (.mul (.mul (.v 0) (.v 0)) (.mul (.v 0) (.v 0)))) (.add (.mul (.mul (.v 0) (.v 0)) (.mul (.v 0) (.v 0))) (.mul (.mul (.v 0) (.v 0)) (.mul (.v 0) (.v 0))))) (.add (.add (.mul (.mul (.v 0) (.v 0)) (.mul (.v 0) (.v 0))) (.mul (.mul (.v 0) (.v 0)) (.mul (.v 0) (.v 0)))) (.add (.mul (.mul (.v 0) (.v 0)) (.mul (.v 0) (.v 0))) (.mul (.mul (.v 0) (.v 0)) (.mul (.v 0) (.v 0)))))) (.mul (.mul (.v 0) (.add (.v 0) (.v 0))) (.add (.mul (.v 0) (.add (.v 0) (.v 0))) (.mul (.v 0) (.add (.v 0) (.v 0))))) (by decide +kernel)
theorem jac_dbl[DecidableEq K](h:Curve F b){T:K × K × K}{x y:K}(hp:(Pt.some x y).On F b)(hT:Jac F T (.some x y)):Jac F (jdbl F.toCRing T) (psum F (.some x y) (.some x y)):=by
 have hy:=y_ne h.root hp;obtain⟨X,Y,z⟩:=T;obtain⟨hz,hX,hY⟩:=hT;dsimp only at hz hX hY;have hy2:=h.two y hy;have hs:=F.div_mul (F.add (F.mul x x) (F.add (F.mul x x) (F.mul x x))) hy2;have ep:psum F (.some x y) (.some x y)=lineTo F x y x (F.mul (F.add (F.mul x x) (F.add (F.mul x x) (F.mul x x))) (F.inv (F.add y y))):=by
  show(if x=x then (if y≠y\/y=F.zero then _ else _)else _)=_;rw[if_pos rfl,if_neg (by rintro(e | e);exact e rfl;exact hy e)]
 rw[ep];generalize F.mul (F.add (F.mul x x) (F.add (F.mul x x) (F.mul x x))) (F.inv (F.add y y))=s at hs |-
 have hzz:=F.mul_ne hz hz;have hY0:Y≠F.zero:=by rw[hY];exact F.mul_ne hy (F.mul_ne hzz hz)
 -- the parts
 have e1:F.add (F.add (F.mul X X) (F.mul X X)) (F.mul X X)=F.mul s (F.mul (F.add Y Y) z):=by
  rw[hX,hY,jd1,<- hs,jd2]
 have e2:F.mul X (F.add (F.mul Y (F.add Y Y)) (F.mul Y (F.add Y Y)))=F.mul x (F.mul (F.mul (F.add Y Y) z) (F.mul (F.add Y Y) z)):=by
  rw[hX,hY,jd3]
 have e3:F.mul (F.mul Y (F.add Y Y)) (F.add (F.mul Y (F.add Y Y)) (F.mul Y (F.add Y Y)))=F.mul y (F.mul (F.mul (F.mul (F.add Y Y) z) (F.mul (F.add Y Y) z)) (F.mul (F.add Y Y) z)):=by
  rw[jd4a];generalize F.add Y Y=r;rw[hY,jd4b]
 have hZ:F.mul (F.add Y Y) z≠F.zero:=F.mul_ne (h.two Y hY0) hz;refine⟨hZ,?_,?_⟩
 ·show F.sub (F.mul (F.add (F.add (F.mul X X) (F.mul X X)) (F.mul X X)) (F.add (F.add (F.mul X X) (F.mul X X)) (F.mul X X))) (F.add (F.mul X (F.add (F.mul Y (F.add Y Y)) (F.mul Y (F.add Y Y)))) (F.mul X (F.add (F.mul Y (F.add Y Y)) (F.mul Y (F.add Y Y)))))=F.mul _ (F.mul (F.mul (F.add Y Y) z) (F.mul (F.add Y Y) z))
  rw[e1,e2,jsq F.toCRing s,j2x]
 ·show F.sub (F.mul (F.add (F.add (F.mul X X) (F.mul X X)) (F.mul X X)) (F.sub (F.mul X (F.add (F.mul Y (F.add Y Y)) (F.mul Y (F.add Y Y)))) (F.sub (F.mul (F.add (F.add (F.mul X X) (F.mul X X)) (F.mul X X)) (F.add (F.add (F.mul X X) (F.mul X X)) (F.mul X X))) (F.add (F.mul X (F.add (F.mul Y (F.add Y Y)) (F.mul Y (F.add Y Y)))) (F.mul X (F.add (F.mul Y (F.add Y Y)) (F.mul Y (F.add Y Y)))))))) (F.mul (F.mul Y (F.add Y Y)) (F.add (F.mul Y (F.add Y Y)) (F.mul Y (F.add Y Y))))=F.mul _ (F.mul (F.mul (F.mul (F.add Y Y) z) (F.mul (F.add Y Y) z)) (F.mul (F.add Y Y) z))
  rw[e1,e2,e3,jsq F.toCRing s,j2x,r5,r4]
theorem jac_twice[DecidableEq K](h:Curve F b){T:K × K × K}{p:Pt K}(hp:p.On F b)(hT:Jac F T p):Jac F (jtwice F T) (psum F p p):=by
 cases p with
 | none =>
  have e:T.2.2=F.zero:=hT;show Jac F (if T.2.2=F.zero then T else _) .none;rw[if_pos e];exact e
 | some x y =>
  have e:T.2.2≠F.zero:=hT.1;have g:=jac_dbl h hp hT;show Jac F (if T.2.2=F.zero then T else _) _;rw[if_neg e];exact g
theorem jac_plus[DecidableEq K](h:Curve F b){T:K × K × K}{p q:Pt K}(hp:p.On F b)(hT:Jac F T p):Jac F (jplus F T q) (psum F p q):=by
 cases q with
 | none=>rw[psum_none_r];exact hT
 | some x2 y2 =>
  cases p with
  | none =>
   have e:T.2.2=F.zero:=hT;show Jac F (if T.2.2=F.zero then _ else _) (.some x2 y2);rw[if_pos e];refine⟨F.one_ne,?_,?_⟩
   ·show x2=F.mul x2 (F.mul F.one F.one)
    rw[F.mul_one,F.mul_one]
   ·show y2=F.mul y2 (F.mul (F.mul F.one F.one) F.one)
    rw[F.mul_one,F.mul_one,F.mul_one]
  | some x y =>
   have hT':=hT;obtain⟨X,Y,z⟩:=T;obtain⟨hz,hX,hY⟩:=hT;dsimp only at hz hX hY;have hzz:=F.mul_ne hz hz;have ha:jacross F.toCRing (X,Y,z) x2=F.mul (F.sub x2 x) (F.mul z z):=by
    show F.sub (F.mul x2 (F.mul z z)) X=_;rw[hX,ja1]
   have hu:jup F.toCRing (X,Y,z) y2=F.mul (F.sub y2 y) (F.mul (F.mul z z) z):=by
    show F.sub (F.mul y2 (F.mul (F.mul z z) z)) Y=_;rw[hY,ja2]
   have sub_self:∀ a:K,F.sub a a=F.zero:=fun a=>F.add_neg a;show Jac F (if z=F.zero then _ else if jacross F.toCRing (X,Y,z) x2=F.zero/\jup F.toCRing (X,Y,z) y2=F.zero then _ else _) (if x=x2 then _ else _);rw[if_neg hz];by_cases ex:x=x2
   ·subst ex
    by_cases ey:y=y2
    ·subst ey
     rw[if_pos ⟨by rw[ha,sub_self,F.zero_mul],by rw[hu,sub_self,F.zero_mul]⟩];exact jac_twice h hp hT'
    ·rw[if_neg (show ¬(jacross F.toCRing (X,Y,z) x=F.zero/\jup F.toCRing (X,Y,z) y2=F.zero) from fun e=>ey (F.eq_of_sub (F.left_zero (F.mul_ne hzz hz) (hu.symm.trans e.2))).symm),if_pos rfl,if_pos (show y≠y2\/y=F.zero from .inl ey)]
     show F.mul z (jacross F.toCRing (X,Y,z) x)=F.zero;rw[ha,sub_self,F.zero_mul,F.mul_comm,F.zero_mul]
   ·have hd:=ne_sub F.toCRing ex
    rw[if_neg ex,if_neg fun e=>ex (F.eq_of_sub (F.left_zero hzz (ha.symm.trans e.1))).symm];have hs:=F.div_mul (F.sub y2 y) hd;generalize F.mul (F.sub y2 y) (F.inv (F.sub x2 x))=s at hs |-
    have hA:jacross F.toCRing (X,Y,z) x2≠F.zero:=by rw[ha];exact F.mul_ne hd hzz
    have e1:jup F.toCRing (X,Y,z) y2=F.mul s (F.mul z (jacross F.toCRing (X,Y,z) x2)):=by
     rw[hu,ha,<- hs,ja3]
    have e4:F.mul (F.mul (jacross F.toCRing (X,Y,z) x2) (jacross F.toCRing (X,Y,z) x2)) (jacross F.toCRing (X,Y,z) x2)=F.mul (F.sub x2 x) (F.mul (F.mul z (jacross F.toCRing (X,Y,z) x2)) (F.mul z (jacross F.toCRing (X,Y,z) x2))):=by
     rw[ha,ja6]
    have e2:F.mul X (F.mul (jacross F.toCRing (X,Y,z) x2) (jacross F.toCRing (X,Y,z) x2))=F.mul x (F.mul (F.mul z (jacross F.toCRing (X,Y,z) x2)) (F.mul z (jacross F.toCRing (X,Y,z) x2))):=by
     generalize jacross F.toCRing (X,Y,z) x2=a;rw[hX,ja4]
    have e3:F.mul Y (F.mul (F.mul (jacross F.toCRing (X,Y,z) x2) (jacross F.toCRing (X,Y,z) x2)) (jacross F.toCRing (X,Y,z) x2))=F.mul y (F.mul (F.mul (F.mul z (jacross F.toCRing (X,Y,z) x2)) (F.mul z (jacross F.toCRing (X,Y,z) x2))) (F.mul z (jacross F.toCRing (X,Y,z) x2))):=by
     generalize jacross F.toCRing (X,Y,z) x2=a;rw[hY,ja5]
    have hx:F.sub (F.sub (F.mul (jup F.toCRing (X,Y,z) y2) (jup F.toCRing (X,Y,z) y2)) (F.mul (F.mul (jacross F.toCRing (X,Y,z) x2) (jacross F.toCRing (X,Y,z) x2)) (jacross F.toCRing (X,Y,z) x2))) (F.add (F.mul X (F.mul (jacross F.toCRing (X,Y,z) x2) (jacross F.toCRing (X,Y,z) x2))) (F.mul X (F.mul (jacross F.toCRing (X,Y,z) x2) (jacross F.toCRing (X,Y,z) x2))))=F.mul (F.sub (F.sub (F.mul s s) x) x2) (F.mul (F.mul z (jacross F.toCRing (X,Y,z) x2)) (F.mul z (jacross F.toCRing (X,Y,z) x2))):=by
     rw[e1,e2,e4,jsq F.toCRing s,ja7]
    refine⟨F.mul_ne hz hA,hx,?_⟩;show F.sub (F.mul (jup F.toCRing (X,Y,z) y2) (F.sub (F.mul X (F.mul (jacross F.toCRing (X,Y,z) x2) (jacross F.toCRing (X,Y,z) x2))) (F.sub (F.sub (F.mul (jup F.toCRing (X,Y,z) y2) (jup F.toCRing (X,Y,z) y2)) (F.mul (F.mul (jacross F.toCRing (X,Y,z) x2) (jacross F.toCRing (X,Y,z) x2)) (jacross F.toCRing (X,Y,z) x2))) (F.add (F.mul X (F.mul (jacross F.toCRing (X,Y,z) x2) (jacross F.toCRing (X,Y,z) x2))) (F.mul X (F.mul (jacross F.toCRing (X,Y,z) x2) (jacross F.toCRing (X,Y,z) x2))))))) (F.mul Y (F.mul (F.mul (jacross F.toCRing (X,Y,z) x2) (jacross F.toCRing (X,Y,z) x2)) (jacross F.toCRing (X,Y,z) x2)))=F.mul _ (F.mul (F.mul (F.mul z (jacross F.toCRing (X,Y,z) x2)) (F.mul z (jacross F.toCRing (X,Y,z) x2))) (F.mul z (jacross F.toCRing (X,Y,z) x2)));rw[hx,e1,e2,e3,r5,r4]
theorem jac_point{T:K × K × K}{p:Pt K}{i:K}(hT:Jac F T p)(hi:F.mul T.2.2 i=F.one):p=.some (F.mul T.1 (F.mul i i)) (F.mul T.2.1 (F.mul (F.mul i i) i)):=by
 obtain⟨X,Y,z⟩:=T;dsimp only at hi |-
 cases p with
 | none =>
  have e:z=F.zero:=hT;rw[e,F.zero_mul]at hi;exact absurd hi.symm F.one_ne
 | some x y =>
  obtain⟨hz,hX,hY⟩:=hT;dsimp only at hz hX hY;rw[hX,hY,jp1,jp2,hi,F.mul_one,F.mul_one,F.mul_one,F.mul_one]
def c3(C:CRing K):K:=C.add C.one (C.add C.one C.one)
def c4(C:CRing K):K:=C.add (C.add C.one C.one) (C.add C.one C.one)
def c8(C:CRing K):K:=C.add (c4 C) (c4 C)
theorem mul_c3(C:CRing K)(a:K):C.mul a (c3 C)=C.add a (C.add a a):=by unfold c3;rw[C.mul_add,C.mul_add,C.mul_one]
theorem mul_c4(C:CRing K)(a:K):C.mul a (c4 C)=C.add (C.add a a) (C.add a a):=by unfold c4;rw[C.mul_add,C.mul_add,C.mul_one]
theorem mul_c8(C:CRing K)(a:K):C.mul a (c8 C)=C.add (C.add (C.add a a) (C.add a a)) (C.add (C.add a a) (C.add a a)):=by unfold c8;rw[C.mul_add,mul_c4]
def rdbl(C:CRing K)(T:K × K × K):K × K × K :=
 let y2:=C.mul T.2.1 T.2.1
 let s:=C.mul (C.mul T.1 y2) (c4 C)
 let m:=C.mul (C.mul T.1 T.1) (c3 C)
 let x:=C.sub (C.mul m m) (C.add s s)
 (x,C.sub (C.mul m (C.sub s x)) (C.mul (C.mul y2 y2) (c8 C)),C.mul (C.add T.2.1 T.2.1) T.2.2)
theorem rdbl_is(C:CRing K)(T:K × K × K):rdbl C T=jdbl C T:=by
 obtain⟨X,Y,z⟩:=T;unfold rdbl jdbl;dsimp only;rw[mul_c3,mul_c4,mul_c8,jr1,jr2,jr3]
theorem jac_rdbl[DecidableEq K](h:Curve F b){T:K × K × K}{p:Pt K}(hp:p.On F b)(hT:Jac F T p):Jac F (rdbl F.toCRing T) (psum F p p):=by
 cases p with
 | none =>
  have e:T.2.2=F.zero:=hT;show F.mul (F.add T.2.1 T.2.1) T.2.2=F.zero;rw[e,F.mul_comm,F.zero_mul]
 | some x y=>rw[rdbl_is];exact jac_dbl h hp hT
def rplus[DecidableEq K](F:CField K)(T:K × K × K)(x2 y2:K):K × K × K :=
 if T.2.2=F.zero then (x2,y2,F.one)
 else if jacross F.toCRing T x2=F.zero then (if jup F.toCRing T y2=F.zero then rdbl F.toCRing T else (F.zero,F.zero,F.zero))
 else jadd F.toCRing T x2 y2
theorem jac_rplus[DecidableEq K](h:Curve F b){T:K × K × K}{p:Pt K}{x2 y2:K}(hp:p.On F b)(hT:Jac F T p):Jac F (rplus F T x2 y2) (psum F p (.some x2 y2)):=by
 have g:=jac_plus (q:=.some x2 y2) h hp hT;change Jac F (if T.2.2=F.zero then (x2,y2,F.one)else if jacross F.toCRing T x2=F.zero/\jup F.toCRing T y2=F.zero then jtwice F T else jadd F.toCRing T x2 y2) _ at g;unfold rplus;by_cases hz:T.2.2=F.zero
 ·rw[if_pos hz]at g |-;exact g
 ·rw[if_neg hz]at g |-
  by_cases ha:jacross F.toCRing T x2=F.zero
  ·rw[if_pos ha]
   by_cases hu:jup F.toCRing T y2=F.zero
   ·rw[if_pos ⟨ha,hu⟩]at g
    rw[if_pos hu,rdbl_is];unfold jtwice at g;rwa [if_neg hz]at g
   ·rw[if_neg fun e=>hu e.2]at g
    rw[if_neg hu];have e0:(jadd F.toCRing T x2 y2).2.2=F.zero:=by
     show F.mul T.2.2 (jacross F.toCRing T x2)=F.zero;rw[ha,F.mul_comm,F.zero_mul]
    generalize psum F p (.some x2 y2)=P at g |-
    cases P with
    | none=>rfl
    | some x y=>exact absurd e0 g.1
  ·rw[if_neg ha]
   rwa [if_neg fun e=>ha e.1]at g
end
section
variable {K:Type} {F:CField K} {b:K}
theorem nmul_twice[DecidableEq K](h:Curve F b){p:Pt K}(hp:p.On F b)(n:Nat):nmul F (2*n) p=psum F (nmul F n p) (nmul F n p):=by
 rw[Nat.two_mul,nmul_add h hp]
theorem nmul_bit[DecidableEq K](h:Curve F b){p:Pt K}(hp:p.On F b)(k i:Nat):nmul F (k / 2^i) p=if k / 2^i%2=1 then psum F (psum F (nmul F (k / 2^(i+1)) p) (nmul F (k / 2^(i+1)) p)) p else psum F (nmul F (k / 2^(i+1)) p) (nmul F (k / 2^(i+1)) p):=by
 have e:k / 2^(i+1)=k / 2^i / 2:=by rw[Nat.pow_succ,Nat.div_div_eq_div_mul]
 rw[e,<- nmul_twice h hp];generalize k / 2^i=n;by_cases hb:n%2=1
 ·rw[if_pos hb]
  have:n=2*(n / 2)+1:=by omega
  exact(congrArg (fun n=>nmul F n p) this).trans rfl
 ·rw[if_neg hb]
  have:n=2*(n / 2):=by omega
  exact congrArg (fun n=>nmul F n p) this
end
theorem pj1{K:Type}(C:CRing K)(x:K):C.add x (C.add x x)=C.add (C.add x x) x:=(C.add_assoc x x x).symm
theorem pj2{K:Type}(C:CRing K)(y:K):C.mul (C.add y y) (C.add y y)=C.add (C.mul y (C.add y y)) (C.mul y (C.add y y)):=ring4 C (lets y C.zero C.zero C.zero) (.mul (.add (.v 0) (.v 0)) (.add (.v 0) (.v 0))) (.add (.mul (.v 0) (.add (.v 0) (.v 0))) (.mul (.v 0) (.add (.v 0) (.v 0)))) (by decide +kernel)
theorem pj3{K:Type}(C:CRing K)(y:K):C.mul (C.add y y) (C.mul y (C.mul (C.add y y) (C.add y y)))=C.mul (C.mul y (C.add y y)) (C.add (C.mul y (C.add y y)) (C.mul y (C.add y y))):=ring4 C (lets y C.zero C.zero C.zero) (.mul (.add (.v 0) (.v 0)) (.mul (.v 0) (.mul (.add (.v 0) (.v 0)) (.add (.v 0) (.v 0))))) (.mul (.mul (.v 0) (.add (.v 0) (.v 0))) (.add (.mul (.v 0) (.add (.v 0) (.v 0))) (.mul (.v 0) (.add (.v 0) (.v 0))))) (by decide +kernel)
theorem pj4{K:Type}(C:CRing K)(s t m:K):C.sub s (C.add t m)=C.sub (C.sub s t) m:=ring4 C (lets s t m C.zero) (.sub (.v 0) (.add (.v 1) (.v 2))) (.sub (.sub (.v 0) (.v 1)) (.v 2)) (by decide +kernel)
section
variable {K:Type} {F:CField K} {b:K}
def ptw(C:CRing K)(T:K × K × K):K × K × K :=
 let double:=C.add T.2.1 T.2.1
 let middle:=C.mul T.1 (C.mul double double)
 let square:=C.mul T.1 T.1
 let slope:=C.add square (C.add square square)
 let x:=C.sub (C.mul slope slope) (C.add middle middle)
 let fourth:=C.mul double (C.mul T.2.1 (C.mul double double))
 (x,C.sub (C.mul slope (C.sub middle x)) fourth,C.mul double T.2.2)
theorem ptw_is(C:CRing K)(T:K × K × K):ptw C T=jdbl C T:=by
 obtain⟨X,Y,z⟩:=T;unfold ptw jdbl;dsimp only;rw[pj3,pj2,pj1]
theorem jac_ptw[DecidableEq K](h:Curve F b){T:K × K × K}{p:Pt K}(hp:p.On F b)(hT:Jac F T p):Jac F (ptw F.toCRing T) (psum F p p):=by
 cases p with
 | none =>
  have e:T.2.2=F.zero:=hT;show F.mul (F.add T.2.1 T.2.1) T.2.2=F.zero;rw[e,F.mul_comm,F.zero_mul]
 | some x y=>rw[ptw_is];exact jac_dbl h hp hT
def padd(C:CRing K)(T:K × K × K)(x2 y2:K):K × K × K :=
 let across:=jacross C T x2
 let slope:=C.sub (C.mul y2 (C.mul (C.mul T.2.2 T.2.2) T.2.2)) T.2.1
 let middle:=C.mul T.1 (C.mul across across)
 let third:=C.mul across (C.mul across across)
 let x:=C.sub (C.mul slope slope) (C.add third (C.add middle middle))
 (x,C.sub (C.mul slope (C.sub middle x)) (C.mul T.2.1 third),C.mul T.2.2 across)
theorem padd_is(C:CRing K)(T:K × K × K)(x2 y2:K):padd C T x2 y2=jadd C T x2 y2:=by
 unfold padd jadd jup;dsimp only;generalize jacross C T x2=a;rw[pj4,C.mul_comm a (C.mul a a)]
def ppl[DecidableEq K](F:CField K)(T:K × K × K)(x2 y2:K):K × K × K :=
 if T.2.2=F.zero then (x2,y2,F.one)
 else if jacross F.toCRing T x2=F.zero/\jup F.toCRing T y2=F.zero then ptw F.toCRing T
 else padd F.toCRing T x2 y2
theorem jac_ppl[DecidableEq K](h:Curve F b){T:K × K × K}{p:Pt K}{x2 y2:K}(hp:p.On F b)(hT:Jac F T p):Jac F (ppl F T x2 y2) (psum F p (.some x2 y2)):=by
 have g:=jac_plus (q:=.some x2 y2) h hp hT;change Jac F (if T.2.2=F.zero then (x2,y2,F.one)else if jacross F.toCRing T x2=F.zero/\jup F.toCRing T y2=F.zero then jtwice F T else jadd F.toCRing T x2 y2) _ at g;unfold ppl;rw[ptw_is,padd_is];by_cases hz:T.2.2=F.zero
 ·rw[if_pos hz]at g |-
  exact g
 ·rw[if_neg hz]at g |-
  unfold jtwice at g;rw[if_neg hz]at g;exact g
end
open Go.RowKit
namespace Sy
structure NmW {K:Type} [DecidableEq K] (F:CField K) (v:K->Nat) (A S M:Nat->Nat->Nat) (I:Nat->Nat × Bool):Prop where
 zero:v F.zero=0
 one:v F.one=1
 add:∀ a c,A (v a) (v c)=v (F.add a c)
 sub:∀ a c,S (v a) (v c)=v (F.sub a c)
 mul:∀ a c,M (v a) (v c)=v (F.mul a c)
 inv:∀ a,a≠F.zero->∃ i,I (v a)=(v i,true)/\F.mul a i=F.one
 no:(I (v F.zero)).2=false
 eq:∀ a c,eqN (v a) (v c)=decide (a=c)
section
variable {K:Type} [DecidableEq K] {F:CField K} {b:K} {v:K->Nat} {A S M:Nat->Nat->Nat} {I:Nat->Nat × Bool}
def vJW(v:K->Nat)(T:K × K × K):(Nat × Nat × Nat):=(v T.1,v T.2.1,v T.2.2)
def cnW(v:K->Nat):Pt K->(Nat × Nat × Bool)
 | .none=>(0,0,true)
 | .some x y=>(v x,v y,false)
def rlW(v:K->Nat)(p:(Nat × Nat × Bool)):Pt K->Prop
 | .none=>p.2.2=true
 | .some x y=>p=(v x,v y,false)
section
variable (h:NmW F v A S M I)
include h
theorem zJW_v:zJW=vJW v (F.zero,F.zero,F.zero):=by unfold zJW vJW;rw[h.zero]
theorem eqzW_v(a:K):eqN (v a) (0)=decide (a=F.zero):=by rw[<- h.zero];exact h.eq _ _
theorem zrW_v(T:K × K × K):zrW (vJW v T)=decide (T.2.2=F.zero):=eqzW_v h T.2.2
theorem ptwW_v(T:K × K × K):(ptwW A S M (vJW v T)).1=vJW v (ptw F.toCRing T):=by
 unfold ptwW ptw vJW;simp only[h.add,h.sub,h.mul]
theorem pacW_v(T:K × K × K)(x:K):pacW S M (vJW v T) (v x)=v (jacross F.toCRing T x):=by
 unfold pacW jacross vJW;simp only[h.sub,h.mul]
theorem pupW_v(T:K × K × K)(y:K):pupW S M (vJW v T) (v y)=v (jup F.toCRing T y):=by
 unfold pupW jup vJW;simp only[h.sub,h.mul]
theorem padW_v(T:K × K × K)(x y:K):(padW A S M (vJW v T) (v x) (v y)).1=vJW v (padd F.toCRing T x y):=by
 unfold padW padd;rw[pacW_v h,pupW_v h];unfold vJW jup;simp only[h.add,h.sub,h.mul]
theorem sameW_v(T:K × K × K)(x y:K):sameW S M (vJW v T) (v x) (v y)=decide (jacross F.toCRing T x=F.zero/\jup F.toCRing T y=F.zero):=by
 unfold sameW;rw[pacW_v h,pupW_v h,eqzW_v h,eqzW_v h];by_cases h1:jacross F.toCRing T x=F.zero <;> by_cases h2:jup F.toCRing T y=F.zero <;> simp[h1,h2]
theorem pplW_v(T:K × K × K)(x y:K):(pplW A S M (vJW v T) (v x,v y,false)).1=vJW v (ppl F T x y):=by
 show(bif false then _ else bif zrW (vJW v T)then _ else bif sameW S M (vJW v T) (v x) (v y)then _ else _:(Nat × Nat × Nat) × Nat).1=_;rw[zrW_v h,sameW_v h];unfold ppl;by_cases hz:T.2.2=F.zero
 ·rw[if_pos hz,decide_eq_true hz]
  show plcW (v x,v y,false)=_;unfold vJW;rw[h.one];rfl
 ·rw[if_neg hz,decide_eq_false hz]
  by_cases hs:jacross F.toCRing T x=F.zero/\jup F.toCRing T y=F.zero
  ·rw[if_pos hs,decide_eq_true hs]
   exact ptwW_v h T
  ·rw[if_neg hs,decide_eq_false hs]
   exact padW_v h T x y
omit h in
theorem pplW_n(T:(Nat × Nat × Nat)){p:(Nat × Nat × Bool)}(hp:p.2.2=true):(pplW A S M T p).1=T:=by
 unfold pplW;rw[hp];rfl
theorem pntW_v{T:K × K × K}{P:Pt K}(hT:Jac F T P):pntW M I (vJW v T)=cnW v P:=by
 unfold pntW;cases P with
 | none =>
  have e:T.2.2=F.zero:=hT;rw[show(vJW v T).2.2=v F.zero from congrArg v e,h.no];rfl
 | some x y =>
  obtain⟨i,h1,h2⟩:=h.inv T.2.2 hT.1;have e:=jac_point hT h2;injection e with ex ey
  rw[show(vJW v T).2.2=v T.2.2 from rfl,h1];show(M (v T.1) (M (v i) (v i)),M (v T.2.1) (M (M (v i) (v i)) (v i)),false)=(v x,v y,false);rw[h.mul,h.mul,h.mul,h.mul,ex,ey]
theorem plcW_v{p:(Nat × Nat × Bool)}{P:Pt K}(hr:rlW v p P):∃ T,plcW p=vJW v T/\Jac F T P:=by
 unfold plcW;cases P with
 | none =>
  rw[show p.2.2=true from hr];exact⟨_,zJW_v h,rfl⟩
 | some x y =>
  rw[show p=(v x,v y,false) from hr];refine⟨(x,y,F.one),?_,F.one_ne,?_,?_⟩
  ·show(v x,v y,1)=_
   unfold vJW;rw[h.one]
  ·show x=F.mul x (F.mul F.one F.one)
   rw[F.mul_one,F.mul_one]
  ·show y=F.mul y (F.mul (F.mul F.one F.one) F.one)
   rw[F.mul_one,F.mul_one,F.mul_one]
theorem smPW_v(hc:Curve F b){H:(Nat × Nat × Bool)->Bool}{p q:(Nat × Nat × Bool)}{P Q:Pt K}(hp:rlW v p P)(hq:rlW v q Q)(oP:P.On F b)(h1:H p=true)(h2:H q=true):smPW H (pplW A S M) (pntW M I) p q=(cnW v (psum F P Q),0):=by
 unfold smPW;rw[h1,h2];show(pntW M I (pplW A S M (plcW p) q).1,(0:Int))=_;obtain⟨T,e,hT⟩:=plcW_v h hp;rw[e];congr 1;cases Q with
 | none =>
  rw[pplW_n _ hq,psum_none_r];exact pntW_v h hT
 | some x y =>
  rw[show(pplW A S M (vJW v T) q).1=vJW v (ppl F T x y) by rw[show q=(v x,v y,false) from hq];exact pplW_v h T x y];exact pntW_v h (jac_ppl hc oP hT)
theorem fitW_v(hb:v b=3)(bel:∀ n,blwW A n=true↔∃ a,v a=n)(x y:Nat):fitW A M x y=true↔∃ a c,x=v a/\y=v c/\OnC F.toCRing b a c:=by
 unfold fitW;constructor
 ·intro hf
  cases h1:blwW A x
  ·rw[h1]at hf;cases hf
  ·cases h2:blwW A y
   ·rw[h1,h2]at hf;cases hf
   ·obtain⟨a,rfl⟩:=(bel x).1 h1
    obtain⟨c,rfl⟩:=(bel y).1 h2;rw[h1,h2]at hf;refine⟨a,c,rfl,rfl,?_⟩;change eqN (M (v c) (v c)) (A (M (M (v a) (v a)) (v a)) 3)=true at hf;rw[<- hb,h.mul,h.mul,h.mul,h.add,h.eq]at hf;exact(of_decide_eq_true hf:F.mul c c=F.add (F.mul (F.mul a a) a) b)
 ·rintro⟨a,c,rfl,rfl,ho⟩
  rw[(bel _).2 ⟨a,rfl⟩,(bel _).2 ⟨c,rfl⟩];show eqN (M (v c) (v c)) (A (M (M (v a) (v a)) (v a)) 3)=true;rw[<- hb,h.mul,h.mul,h.mul,h.add,h.eq];exact decide_eq_true (show F.mul c c=F.add (F.mul (F.mul a a) a) b from ho)
end
end
end Sy
open Go.RowKit
namespace Sy
structure Nm2 {K:Type} [DecidableEq K] (F:CField K) (v:K->N2) (A S M:N2->N2->N2) (I:N2->N2 × Bool):Prop where
 zero:v F.zero=z2
 one:v F.one=((1,0):N2)
 add:∀ a c,A (v a) (v c)=v (F.add a c)
 sub:∀ a c,S (v a) (v c)=v (F.sub a c)
 mul:∀ a c,M (v a) (v c)=v (F.mul a c)
 inv:∀ a,a≠F.zero->∃ i,I (v a)=(v i,true)/\F.mul a i=F.one
 no:(I (v F.zero)).2=false
 eq:∀ a c,eqL (wl2 (v a)) (wl2 (v c))=decide (a=c)
section
variable {K:Type} [DecidableEq K] {F:CField K} {b:K} {v:K->N2} {A S M:N2->N2->N2} {I:N2->N2 × Bool}
def vJ2(v:K->N2)(T:K × K × K):(N2 × N2 × N2):=(v T.1,v T.2.1,v T.2.2)
def cn2(v:K->N2):Pt K->(N2 × N2 × Bool)
 | .none=>(z2,z2,true)
 | .some x y=>(v x,v y,false)
def rl2(v:K->N2)(p:(N2 × N2 × Bool)):Pt K->Prop
 | .none=>p.2.2=true
 | .some x y=>p=(v x,v y,false)
section
variable (h:Nm2 F v A S M I)
include h
theorem zJ2_v:zJ2=vJ2 v (F.zero,F.zero,F.zero):=by unfold zJ2 vJ2;rw[h.zero]
theorem eqz2_v(a:K):eqL (wl2 (v a)) (wl2 (z2))=decide (a=F.zero):=by rw[<- h.zero];exact h.eq _ _
theorem zr2_v(T:K × K × K):zr2 (vJ2 v T)=decide (T.2.2=F.zero):=eqz2_v h T.2.2
theorem ptw2_v(T:K × K × K):(ptw2 A S M (vJ2 v T)).1=vJ2 v (ptw F.toCRing T):=by
 unfold ptw2 ptw vJ2;simp only[h.add,h.sub,h.mul]
theorem pac2_v(T:K × K × K)(x:K):pac2 S M (vJ2 v T) (v x)=v (jacross F.toCRing T x):=by
 unfold pac2 jacross vJ2;simp only[h.sub,h.mul]
theorem pup2_v(T:K × K × K)(y:K):pup2 S M (vJ2 v T) (v y)=v (jup F.toCRing T y):=by
 unfold pup2 jup vJ2;simp only[h.sub,h.mul]
theorem pad2_v(T:K × K × K)(x y:K):(pad2 A S M (vJ2 v T) (v x) (v y)).1=vJ2 v (padd F.toCRing T x y):=by
 unfold pad2 padd;rw[pac2_v h,pup2_v h];unfold vJ2 jup;simp only[h.add,h.sub,h.mul]
theorem same2_v(T:K × K × K)(x y:K):same2 S M (vJ2 v T) (v x) (v y)=decide (jacross F.toCRing T x=F.zero/\jup F.toCRing T y=F.zero):=by
 unfold same2;rw[pac2_v h,pup2_v h,eqz2_v h,eqz2_v h];by_cases h1:jacross F.toCRing T x=F.zero <;> by_cases h2:jup F.toCRing T y=F.zero <;> simp[h1,h2]
theorem ppl2_v(T:K × K × K)(x y:K):(ppl2 A S M (vJ2 v T) (v x,v y,false)).1=vJ2 v (ppl F T x y):=by
 show(bif false then _ else bif zr2 (vJ2 v T)then _ else bif same2 S M (vJ2 v T) (v x) (v y)then _ else _:(N2 × N2 × N2) × N2).1=_;rw[zr2_v h,same2_v h];unfold ppl;by_cases hz:T.2.2=F.zero
 ·rw[if_pos hz,decide_eq_true hz]
  show plc2 (v x,v y,false)=_;unfold vJ2;rw[h.one];rfl
 ·rw[if_neg hz,decide_eq_false hz]
  by_cases hs:jacross F.toCRing T x=F.zero/\jup F.toCRing T y=F.zero
  ·rw[if_pos hs,decide_eq_true hs]
   exact ptw2_v h T
  ·rw[if_neg hs,decide_eq_false hs]
   exact pad2_v h T x y
omit h in
theorem ppl2_n(T:(N2 × N2 × N2)){p:(N2 × N2 × Bool)}(hp:p.2.2=true):(ppl2 A S M T p).1=T:=by
 unfold ppl2;rw[hp];rfl
theorem tms2_v(hc:Curve F b){P:Pt K}(hP:P.On F b){p:(N2 × N2 × Bool)}(hr:rl2 v p P)(kk:Nat):∀ s T,Jac F T (nmul F (kk / 2^s) P)->∃ T',tms2 (ptw2 A S M) (ppl2 A S M) kk p s (vJ2 v T)=vJ2 v T'/\Jac F T' (nmul F kk P)
 | 0,T,hT=>by
  rw[Nat.pow_zero,Nat.div_one]at hT;exact⟨T,rfl,hT⟩
 | s+1,T,hT=>by
  have o:=on_nmul hc hP (kk / 2^(s+1));have g:=jac_ptw hc o hT;have hb:=nmul_bit hc hP kk s;show ∃ T',tms2 (ptw2 A S M) (ppl2 A S M) kk p s (trd2 (ptw2 A S M) (ppl2 A S M) kk p s (vJ2 v T))=_/\_;unfold trd2;rw[bkI_is,ptw2_v h];by_cases h1:kk / 2^s%2=1
  ·have e:eqI ((kk / 2^s%2:Nat):Int) 1=true:=decide_eq_true (by omega)
   rw[if_pos h1]at hb;rw[e];show ∃ T',tms2 _ _ kk p s ((ppl2 A S M (vJ2 v (ptw F.toCRing T)) p).1)=_/\_;cases P with
   | none =>
    rw[ppl2_n _ hr];refine tms2_v hc hP hr kk s _ ?_;rw[hb,psum_none_r];exact g
   | some x y =>
    have hr':p=(v x,v y,false):=hr;rw[show(ppl2 A S M (vJ2 v (ptw F.toCRing T)) p).1=vJ2 v (ppl F (ptw F.toCRing T) x y) by rw[hr'];exact ppl2_v h _ x y];refine tms2_v hc hP hr kk s _ ?_;rw[hb];exact jac_ppl hc (on_psum hc o o) g
  ·have e:eqI ((kk / 2^s%2:Nat):Int) 1=false:=decide_eq_false (by omega)
   rw[if_neg h1]at hb;rw[e];show ∃ T',tms2 _ _ kk p s (vJ2 v (ptw F.toCRing T))=_/\_;refine tms2_v hc hP hr kk s _ ?_;rw[hb];exact g
theorem tm2_v(hc:Curve F b){P:Pt K}(hP:P.On F b){p:(N2 × N2 × Bool)}(hr:rl2 v p P){kk:Nat}(hk:kk<2^256):∃ T',tms2 (ptw2 A S M) (ppl2 A S M) kk p (bl kk 256) zJ2=vJ2 v T'/\Jac F T' (nmul F kk P):=by
 rw[zJ2_v h];refine tms2_v h hc hP hr kk _ _ ?_;have hs:=(bl_spec kk 256).1;have hm:kk%115792089237316195423570985008687907853269984665640564039457584007913129639936=kk:=Nat.mod_eq_of_lt hk;rw[hm,Nat.mod_eq_of_lt hk]at hs;rw[Nat.div_eq_of_lt hs];rfl
theorem pnt2_v{T:K × K × K}{P:Pt K}(hT:Jac F T P):pnt2 M I (vJ2 v T)=cn2 v P:=by
 unfold pnt2;cases P with
 | none =>
  have e:T.2.2=F.zero:=hT;rw[show(vJ2 v T).2.2=v F.zero from congrArg v e,h.no];rfl
 | some x y =>
  obtain⟨i,h1,h2⟩:=h.inv T.2.2 hT.1;have e:=jac_point hT h2;injection e with ex ey
  rw[show(vJ2 v T).2.2=v T.2.2 from rfl,h1];show(M (v T.1) (M (v i) (v i)),M (v T.2.1) (M (M (v i) (v i)) (v i)),false)=(v x,v y,false);rw[h.mul,h.mul,h.mul,h.mul,ex,ey]
theorem plc2_v{p:(N2 × N2 × Bool)}{P:Pt K}(hr:rl2 v p P):∃ T,plc2 p=vJ2 v T/\Jac F T P:=by
 unfold plc2;cases P with
 | none =>
  rw[show p.2.2=true from hr];exact⟨_,zJ2_v h,rfl⟩
 | some x y =>
  rw[show p=(v x,v y,false) from hr];refine⟨(x,y,F.one),?_,F.one_ne,?_,?_⟩
  ·show(v x,v y,((1,0):N2))=_
   unfold vJ2;rw[h.one]
  ·show x=F.mul x (F.mul F.one F.one)
   rw[F.mul_one,F.mul_one]
  ·show y=F.mul y (F.mul (F.mul F.one F.one) F.one)
   rw[F.mul_one,F.mul_one,F.mul_one]
theorem smP2_v(hc:Curve F b){H:(N2 × N2 × Bool)->Bool}{p q:(N2 × N2 × Bool)}{P Q:Pt K}(hp:rl2 v p P)(hq:rl2 v q Q)(oP:P.On F b)(h1:H p=true)(h2:H q=true):smP2 H (ppl2 A S M) (pnt2 M I) p q=(cn2 v (psum F P Q),0):=by
 unfold smP2;rw[h1,h2];show(pnt2 M I (ppl2 A S M (plc2 p) q).1,(0:Int))=_;obtain⟨T,e,hT⟩:=plc2_v h hp;rw[e];congr 1;cases Q with
 | none =>
  rw[ppl2_n _ hq,psum_none_r];exact pnt2_v h hT
 | some x y =>
  rw[show(ppl2 A S M (vJ2 v T) q).1=vJ2 v (ppl F T x y) by rw[show q=(v x,v y,false) from hq];exact ppl2_v h T x y];exact pnt2_v h (jac_ppl hc oP hT)
theorem pdP2_v(hc:Curve F b){H:(N2 × N2 × Bool)->Bool}{p:(N2 × N2 × Bool)}{P:Pt K}(hp:rl2 v p P)(oP:P.On F b)(h1:H p=true){n:Nat}(hn:n<2^256):pdP2 H (fun n P=>tms2 (ptw2 A S M) (ppl2 A S M) n P (bl n 256) zJ2) (pnt2 M I) n p=(cn2 v (nmul F n P),0):=by
 unfold pdP2;rw[h1];show(pnt2 M I (tms2 (ptw2 A S M) (ppl2 A S M) n p (bl n 256) zJ2),(0:Int))=_;obtain⟨T,e,hT⟩:=tm2_v h hc oP hp hn;rw[e,pnt2_v h hT]
theorem fit2_v(hb:v b=b2v)(bel:∀ n,blw2 A n=true↔∃ a,v a=n)(x y:N2):fit2 A M x y=true↔∃ a c,x=v a/\y=v c/\OnC F.toCRing b a c:=by
 unfold fit2;constructor
 ·intro hf
  cases h1:blw2 A x
  ·rw[h1]at hf;cases hf
  ·cases h2:blw2 A y
   ·rw[h1,h2]at hf;cases hf
   ·obtain⟨a,rfl⟩:=(bel x).1 h1
    obtain⟨c,rfl⟩:=(bel y).1 h2;rw[h1,h2]at hf;refine⟨a,c,rfl,rfl,?_⟩;change eqL (wl2 (M (v c) (v c))) (wl2 (A (M (M (v a) (v a)) (v a)) b2v))=true at hf;rw[<- hb,h.mul,h.mul,h.mul,h.add,h.eq]at hf;exact(of_decide_eq_true hf:F.mul c c=F.add (F.mul (F.mul a a) a) b)
 ·rintro⟨a,c,rfl,rfl,ho⟩
  rw[(bel _).2 ⟨a,rfl⟩,(bel _).2 ⟨c,rfl⟩];show eqL (wl2 (M (v c) (v c))) (wl2 (A (M (M (v a) (v a)) (v a)) b2v))=true;rw[<- hb,h.mul,h.mul,h.mul,h.add,h.eq];exact decide_eq_true (show F.mul c c=F.add (F.mul (F.mul a a) a) b from ho)
end
end
end Sy
end Go.Proofs.YtadfjjfklihaaaaGreat
