/- So many times a point; the negative of one. (Cut to what is reached, written closely: EcGrp · EcMul.) -/
import Derived.Test.YtphafjbajlcbnaaGreatB36
set_option linter.all false
set_option maxRecDepth 100000
set_option maxHeartbeats 8000000
namespace Go.Proofs.YtphafjbajlcbnaaGreat
structure CField (K:Type) extends CRing K where
 inv:K->K
 mul_inv:∀ a,a≠zero->mul a (inv a)=one
 one_ne:one≠zero
theorem BP{K:Type}(C:CRing K)(r:Nat->K)(e1 e2:Ex)(h:small (12,12,12,12) (2^30) (Ex.sub e1 e2).nd/\(Ex.sub e1 e2).eval intRing (kp (2^30) (12,12,12,12))=0):e1.eval C r=e2.eval C r :=
 C.eq_of_sub (Kg C r _ _ (Ex.sub e1 e2) h.1 h.2)
namespace CField
variable {K:Type} (F:CField K)
theorem cancel{a b d:K}(hd:d≠F.zero)(h:F.mul a d=F.mul b d):a=b:=by
 have h2:=congrArg (fun x=>F.mul x (F.inv d)) h;simp only[F.mul_assoc,F.mul_inv d hd,F.mul_one]at h2;exact h2
theorem mul_ne{a b:K}(ha:a≠F.zero)(hb:b≠F.zero):F.mul a b≠F.zero:=fun h=>ha (F.cancel hb (by rw[h,F.zero_mul]))
theorem left_zero{a b:K}(hb:b≠F.zero)(h:F.mul a b=F.zero):a=F.zero:=F.cancel hb (by rw[h,F.zero_mul])
theorem div_mul(a:K){d:K}(hd:d≠F.zero):F.mul (F.mul a (F.inv d)) d=a:=by rw[F.mul_assoc,F.mul_comm (F.inv d),F.mul_inv d hd,F.mul_one]
end CField
inductive Pt (K:Type)
 | none
 | some (x y:K)
section
variable {K:Type} (F:CField K) (b:K)
def Pt.On:Pt K->Prop
 | .none=>True
 | .some x y=>OnC F.toCRing b x y
def EI(x1 y1 x2 s:K):Pt K:=.some (F.sub (F.sub (F.mul s s) x1) x2) (F.sub (F.mul s (F.sub x1 (F.sub (F.sub (F.mul s s) x1) x2))) y1)
def Ba[DecidableEq K]:Pt K->Pt K->Pt K
 | .none,q=>q
 | p,.none=>p
 | .some x1 y1,.some x2 y2 =>
  if x1=x2 then (if y1≠y2\/y1=F.zero then .none else EI F x1 y1 x2 (F.mul (F.add (F.mul x1 x1) (F.add (F.mul x1 x1) (F.mul x1 x1))) (F.inv (F.add y1 y1))))
  else EI F x1 y1 x2 (F.mul (F.sub y2 y1) (F.inv (F.sub x2 x1)))
def Pt.emb:Pt K->K × K × K
 | .none=>(F.zero,F.one,F.zero)
 | .some x y=>(x,y,F.one)
def Rep(T:K × K × K):Pt K->Prop
 | .none=>T.1=F.zero/\T.2.2=F.zero/\T.2.1≠F.zero
 | .some x y=>T.2.2≠F.zero/\T.1=F.mul x T.2.2/\T.2.1=F.mul y T.2.2
def DI(T U:K × K × K):K × K × K:=Cm F.ops (F.add (F.add b b) b) T U
end
section
variable {K:Type} {F:CField K} {b:K}
def idW{K:Type}(F:CField K)(x1 y1 x2 y2:K):K:=(F.add (F.mul (F.add y1 y2) (F.sub (F.mul (F.add (F.add x1 x1) x2) (F.mul (F.sub x2 x1) (F.sub x2 x1))) (F.mul (F.add y1 y2) (F.add y1 y2)))) (F.mul y1 (F.mul (F.mul (F.sub x2 x1) (F.sub x2 x1)) (F.sub x2 x1))))
def WM{K:Type}(F:CField K)(x1 y1 x2 y2:K):K:=(F.sub (F.mul (F.add y1 y2) (F.add y1 y2)) (F.mul (F.add x1 x2) (F.mul (F.sub x2 x1) (F.sub x2 x1))))
theorem WN(C:CRing K){x1 x2:K}(h:x1≠x2):C.sub x2 x1≠C.zero:=fun e=>h (C.eq_of_sub e).symm
theorem r1(C:CRing K)(s dx sx:K):(C.sub (C.mul (C.mul s dx) (C.mul s dx)) (C.mul sx (C.mul dx dx)))=(C.mul (C.sub (C.mul s s) sx) (C.mul dx dx)):=BP C (lets s dx sx C.zero) (.sub (.mul (.mul (.v 0) (.v 1)) (.mul (.v 0) (.v 1))) (.mul (.v 2) (.mul (.v 1) (.v 1)))) (.mul (.sub (.mul (.v 0) (.v 0)) (.v 2)) (.mul (.v 1) (.v 1))) (by decide +kernel)
theorem r2(C:CRing K)(a x1 x2:K):(C.sub a (C.add x1 x2))=(C.sub (C.sub a x1) x2):=BP C (lets a x1 x2 C.zero) (.sub (.v 0) (.add (.v 1) (.v 2))) (.sub (.sub (.v 0) (.v 1)) (.v 2)) (by decide +kernel)
theorem r3(C:CRing K)(Z X D:K):C.mul Z (C.mul X D)=C.mul (C.mul X Z) D:=by rw[<- C.mul_assoc,C.mul_comm Z X]
theorem r4(C:CRing K)(s dx m y1:K):(C.sub (C.mul (C.mul s dx) (C.mul m (C.mul dx dx))) (C.mul y1 (C.mul (C.mul dx dx) dx)))=(C.mul (C.sub (C.mul s m) y1) (C.mul (C.mul dx dx) dx)):=BP C (lets s dx m y1) (.sub (.mul (.mul (.v 0) (.v 1)) (.mul (.v 2) (.mul (.v 1) (.v 1)))) (.mul (.v 3) (.mul (.mul (.v 1) (.v 1)) (.v 1)))) (.mul (.sub (.mul (.v 0) (.v 2)) (.v 3)) (.mul (.mul (.v 1) (.v 1)) (.v 1))) (by decide +kernel)
theorem r5(C:CRing K)(x1 X D:K):(C.sub (C.mul x1 D) (C.mul X D))=(C.mul (C.sub x1 X) D):=BP C (lets x1 X D C.zero) (.sub (.mul (.v 0) (.v 2)) (.mul (.v 1) (.v 2))) (.mul (.sub (.v 0) (.v 1)) (.v 2)) (by decide +kernel)
theorem r6(C:CRing K)(u d b:K):(C.add (C.mul (C.mul (C.mul u (C.mul d d)) (C.mul u (C.mul d d))) (C.mul u (C.mul d d))) (C.mul b (C.mul (C.mul (C.mul (C.mul (C.mul d d) d) d) d) d)))=(C.mul (C.add (C.mul (C.mul u u) u) b) (C.mul (C.mul (C.mul (C.mul (C.mul d d) d) d) d) d)):=BP C (lets u d b C.zero) (.add (.mul (.mul (.mul (.v 0) (.mul (.v 1) (.v 1))) (.mul (.v 0) (.mul (.v 1) (.v 1)))) (.mul (.v 0) (.mul (.v 1) (.v 1)))) (.mul (.v 2) (.mul (.mul (.mul (.mul (.mul (.v 1) (.v 1)) (.v 1)) (.v 1)) (.v 1)) (.v 1)))) (.mul (.add (.mul (.mul (.v 0) (.v 0)) (.v 0)) (.v 2)) (.mul (.mul (.mul (.mul (.mul (.v 1) (.v 1)) (.v 1)) (.v 1)) (.v 1)) (.v 1))) (by decide +kernel)
theorem r7(C:CRing K)(v d:K):(C.mul (C.mul v (C.mul (C.mul d d) d)) (C.mul v (C.mul (C.mul d d) d)))=(C.mul (C.mul v v) (C.mul (C.mul (C.mul (C.mul (C.mul d d) d) d) d) d)):=BP C (lets v d C.zero C.zero) (.mul (.mul (.v 0) (.mul (.mul (.v 1) (.v 1)) (.v 1))) (.mul (.v 0) (.mul (.mul (.v 1) (.v 1)) (.v 1)))) (.mul (.mul (.v 0) (.v 0)) (.mul (.mul (.mul (.mul (.mul (.v 1) (.v 1)) (.v 1)) (.v 1)) (.v 1)) (.v 1))) (by decide +kernel)
theorem A3E{x1 y1 x2 y2:K}(hb:∀ x,cub F.ops x b≠F.zero)(h1:OnC F.toCRing b x1 y1)(h2:OnC F.toCRing b x2 y2)(hne:x1≠x2) :
  Rep F (DI F b (x1,y1,F.one) (x2,y2,F.one)) (EI F x1 y1 x2 (F.mul (F.sub y2 y1) (F.inv (F.sub x2 x1))))/\(EI F x1 y1 x2 (F.mul (F.sub y2 y1) (F.inv (F.sub x2 x1)))).On F b:=by
 have hX:=id2 idChX ZI ZJ F.toCRing h1 h2;have hY:=id2 idChY ZK ZL F.toCRing h1 h2;have hD:=id2 idDiff WK WL F.toCRing h1 h2;have hW:=id2 idDCl ZM ZN F.toCRing h1 h2;have hC:=id2 idClS ZO ZP F.toCRing h1 h2;have hdx:=WN F.toCRing hne;have hs:=F.div_mul (F.sub y2 y1) hdx;obtain⟨s,es⟩:∃ s,F.mul (F.sub y2 y1) (F.inv (F.sub x2 x1))=s:=⟨_,rfl⟩
 rw[es]at hs |-
 obtain⟨S,eS⟩:∃ S,DI F b (x1,y1,F.one) (x2,y2,F.one)=S:=⟨_,rfl⟩
 have hX':F.sub (F.mul S.1 (F.mul (F.sub x2 x1) (F.sub x2 x1))) (F.mul S.2.2 (F.sub (F.mul (F.sub y2 y1) (F.sub y2 y1)) (F.mul (F.add x1 x2) (F.mul (F.sub x2 x1) (F.sub x2 x1)))))=F.zero:=by rw[<- eS];exact hX
 have hY':F.sub (F.mul S.2.1 (F.mul (F.mul (F.sub x2 x1) (F.sub x2 x1)) (F.sub x2 x1))) (F.mul S.2.2 (F.sub (F.mul (F.sub y2 y1) (F.sub (F.mul x1 (F.mul (F.sub x2 x1) (F.sub x2 x1))) (F.sub (F.mul (F.sub y2 y1) (F.sub y2 y1)) (F.mul (F.add x1 x2) (F.mul (F.sub x2 x1) (F.sub x2 x1)))))) (F.mul y1 (F.mul (F.mul (F.sub x2 x1) (F.sub x2 x1)) (F.sub x2 x1)))))=F.zero:=by rw[<- eS];exact hY
 have hC':F.sub (F.mul (F.sub (F.mul (F.sub y2 y1) (F.sub (F.mul x1 (F.mul (F.sub x2 x1) (F.sub x2 x1))) (F.sub (F.mul (F.sub y2 y1) (F.sub y2 y1)) (F.mul (F.add x1 x2) (F.mul (F.sub x2 x1) (F.sub x2 x1)))))) (F.mul y1 (F.mul (F.mul (F.sub x2 x1) (F.sub x2 x1)) (F.sub x2 x1)))) (F.sub (F.mul (F.sub y2 y1) (F.sub (F.mul x1 (F.mul (F.sub x2 x1) (F.sub x2 x1))) (F.sub (F.mul (F.sub y2 y1) (F.sub y2 y1)) (F.mul (F.add x1 x2) (F.mul (F.sub x2 x1) (F.sub x2 x1)))))) (F.mul y1 (F.mul (F.mul (F.sub x2 x1) (F.sub x2 x1)) (F.sub x2 x1))))) (F.add (F.mul (F.mul (F.sub (F.mul (F.sub y2 y1) (F.sub y2 y1)) (F.mul (F.add x1 x2) (F.mul (F.sub x2 x1) (F.sub x2 x1)))) (F.sub (F.mul (F.sub y2 y1) (F.sub y2 y1)) (F.mul (F.add x1 x2) (F.mul (F.sub x2 x1) (F.sub x2 x1))))) (F.sub (F.mul (F.sub y2 y1) (F.sub y2 y1)) (F.mul (F.add x1 x2) (F.mul (F.sub x2 x1) (F.sub x2 x1))))) (F.mul b (F.mul (F.mul (F.mul (F.mul (F.mul (F.sub x2 x1) (F.sub x2 x1)) (F.sub x2 x1)) (F.sub x2 x1)) (F.sub x2 x1)) (F.sub x2 x1))))=F.zero:=hC
 -- the third number is not nought
 have hZ:S.2.2≠F.zero:=fun e=>by
  have hD':F.add S.2.2 (idW F x1 y1 x2 y2)=F.zero:=by rw[<- eS];exact hD
  rw[e,F.zero_add]at hD';have hW':F.sub (F.mul (idW F x1 y1 x2 y2) (idW F x1 y1 x2 y2)) (F.add (F.mul (F.mul (WM F x1 y1 x2 y2) (WM F x1 y1 x2 y2)) (WM F x1 y1 x2 y2)) (F.mul b (F.mul (F.mul (F.mul (F.mul (F.mul (F.sub x2 x1) (F.sub x2 x1)) (F.sub x2 x1)) (F.sub x2 x1)) (F.sub x2 x1)) (F.sub x2 x1))))=F.zero:=hW;have h3:=F.eq_of_sub hW';rw[hD',F.zero_mul]at h3;have hu:=F.div_mul (WM F x1 y1 x2 y2) (F.mul_ne hdx hdx);obtain⟨u,eu⟩:∃ u,F.mul (WM F x1 y1 x2 y2) (F.inv (F.mul (F.sub x2 x1) (F.sub x2 x1)))=u:=⟨_,rfl⟩
  rw[eu]at hu;rw[<- hu,r6]at h3;have hd6:F.mul (F.mul (F.mul (F.mul (F.mul (F.sub x2 x1) (F.sub x2 x1)) (F.sub x2 x1)) (F.sub x2 x1)) (F.sub x2 x1)) (F.sub x2 x1)≠F.zero:=F.mul_ne (F.mul_ne (F.mul_ne (F.mul_ne (F.mul_ne hdx hdx) hdx) hdx) hdx) hdx;exact hb u (F.left_zero hd6 h3.symm)
 rw[eS];generalize F.sub x2 x1=dx at *;rw[<- hs]at hX' hY' hC';rw[r1,r2 F.toCRing (F.mul s s) x1 x2]at hX' hY' hC';rw[r5,r4]at hY' hC';rw[r7]at hC';have hC2:=F.eq_of_sub hC';rw[r6]at hC2;have hd6:F.mul (F.mul (F.mul (F.mul (F.mul dx dx) dx) dx) dx) dx≠F.zero:=F.mul_ne (F.mul_ne (F.mul_ne (F.mul_ne (F.mul_ne hdx hdx) hdx) hdx) hdx) hdx;refine⟨⟨hZ,?_,?_⟩,?_⟩
 ·have h:=F.eq_of_sub hX'
  exact F.cancel (F.mul_ne hdx hdx) (h.trans (r3 F.toCRing _ _ _))
 ·have h:=F.eq_of_sub hY'
  exact F.cancel (F.mul_ne (F.mul_ne hdx hdx) hdx) (h.trans (r3 F.toCRing _ _ _))
 ·exact F.cancel hd6 hC2
theorem r8(C:CRing K)(y1:K):(C.add (C.add (C.add (C.add (C.add (C.add (C.add (C.mul (C.mul y1 y1) y1) (C.mul (C.mul y1 y1) y1)) (C.mul (C.mul y1 y1) y1)) (C.mul (C.mul y1 y1) y1)) (C.mul (C.mul y1 y1) y1)) (C.mul (C.mul y1 y1) y1)) (C.mul (C.mul y1 y1) y1)) (C.mul (C.mul y1 y1) y1))=(C.mul (C.mul (C.add y1 y1) (C.add y1 y1)) (C.add y1 y1)):=BP C (lets y1 C.zero C.zero C.zero) (.add (.add (.add (.add (.add (.add (.add (.mul (.mul (.v 0) (.v 0)) (.v 0)) (.mul (.mul (.v 0) (.v 0)) (.v 0))) (.mul (.mul (.v 0) (.v 0)) (.v 0))) (.mul (.mul (.v 0) (.v 0)) (.v 0))) (.mul (.mul (.v 0) (.v 0)) (.v 0))) (.mul (.mul (.v 0) (.v 0)) (.v 0))) (.mul (.mul (.v 0) (.v 0)) (.v 0))) (.mul (.mul (.v 0) (.v 0)) (.v 0))) (.mul (.mul (.add (.v 0) (.v 0)) (.add (.v 0) (.v 0))) (.add (.v 0) (.v 0))) (by decide +kernel)
theorem r9(C:CRing K)(x1 y1:K):(C.sub (C.add (C.add (C.add (C.add (C.add (C.add (C.add (C.add (C.mul (C.mul (C.mul x1 x1) x1) x1) (C.mul (C.mul (C.mul x1 x1) x1) x1)) (C.mul (C.mul (C.mul x1 x1) x1) x1)) (C.mul (C.mul (C.mul x1 x1) x1) x1)) (C.mul (C.mul (C.mul x1 x1) x1) x1)) (C.mul (C.mul (C.mul x1 x1) x1) x1)) (C.mul (C.mul (C.mul x1 x1) x1) x1)) (C.mul (C.mul (C.mul x1 x1) x1) x1)) (C.mul (C.mul (C.mul x1 x1) x1) x1)) (C.add (C.add (C.add (C.add (C.add (C.add (C.add (C.mul x1 (C.mul y1 y1)) (C.mul x1 (C.mul y1 y1))) (C.mul x1 (C.mul y1 y1))) (C.mul x1 (C.mul y1 y1))) (C.mul x1 (C.mul y1 y1))) (C.mul x1 (C.mul y1 y1))) (C.mul x1 (C.mul y1 y1))) (C.mul x1 (C.mul y1 y1))))=(C.sub (C.mul (C.add (C.add (C.mul x1 x1) (C.mul x1 x1)) (C.mul x1 x1)) (C.add (C.add (C.mul x1 x1) (C.mul x1 x1)) (C.mul x1 x1))) (C.mul (C.add x1 x1) (C.mul (C.add y1 y1) (C.add y1 y1)))):=BP C (lets x1 y1 C.zero C.zero) (.sub (.add (.add (.add (.add (.add (.add (.add (.add (.mul (.mul (.mul (.v 0) (.v 0)) (.v 0)) (.v 0)) (.mul (.mul (.mul (.v 0) (.v 0)) (.v 0)) (.v 0))) (.mul (.mul (.mul (.v 0) (.v 0)) (.v 0)) (.v 0))) (.mul (.mul (.mul (.v 0) (.v 0)) (.v 0)) (.v 0))) (.mul (.mul (.mul (.v 0) (.v 0)) (.v 0)) (.v 0))) (.mul (.mul (.mul (.v 0) (.v 0)) (.v 0)) (.v 0))) (.mul (.mul (.mul (.v 0) (.v 0)) (.v 0)) (.v 0))) (.mul (.mul (.mul (.v 0) (.v 0)) (.v 0)) (.v 0))) (.mul (.mul (.mul (.v 0) (.v 0)) (.v 0)) (.v 0))) (.add (.add (.add (.add (.add (.add (.add (.mul (.v 0) (.mul (.v 1) (.v 1))) (.mul (.v 0) (.mul (.v 1) (.v 1)))) (.mul (.v 0) (.mul (.v 1) (.v 1)))) (.mul (.v 0) (.mul (.v 1) (.v 1)))) (.mul (.v 0) (.mul (.v 1) (.v 1)))) (.mul (.v 0) (.mul (.v 1) (.v 1)))) (.mul (.v 0) (.mul (.v 1) (.v 1)))) (.mul (.v 0) (.mul (.v 1) (.v 1))))) (.sub (.mul (.add (.add (.mul (.v 0) (.v 0)) (.mul (.v 0) (.v 0))) (.mul (.v 0) (.v 0))) (.add (.add (.mul (.v 0) (.v 0)) (.mul (.v 0) (.v 0))) (.mul (.v 0) (.v 0)))) (.mul (.add (.v 0) (.v 0)) (.mul (.add (.v 1) (.v 1)) (.add (.v 1) (.v 1))))) (by decide +kernel)
theorem r10(C:CRing K)(y1 y2:K):(C.mul (C.sub y1 y2) (C.add y1 y2))=(C.sub (C.mul y1 y1) (C.mul y2 y2)):=BP C (lets y1 y2 C.zero C.zero) (.mul (.sub (.v 0) (.v 1)) (.add (.v 0) (.v 1))) (.sub (.mul (.v 0) (.v 0)) (.mul (.v 1) (.v 1))) (by decide +kernel)
theorem A45{x1 y1:K}(h2:∀ a:K,a≠F.zero->F.add a a≠F.zero)(h1:OnC F.toCRing b x1 y1)(hy:y1≠F.zero) :
  Rep F (DI F b (x1,y1,F.one) (x1,y1,F.one)) (EI F x1 y1 x1 (F.mul (F.add (F.mul x1 x1) (F.add (F.mul x1 x1) (F.mul x1 x1))) (F.inv (F.add y1 y1))))/\(EI F x1 y1 x1 (F.mul (F.add (F.mul x1 x1) (F.add (F.mul x1 x1) (F.mul x1 x1))) (F.inv (F.add y1 y1)))).On F b:=by
 have hX:=id2 idDbX ZT ZU F.toCRing h1 h1;have hY:=id2 idDbY ZV ZW F.toCRing h1 h1;have hZ:=id2 idDbZ ZQ ZR F.toCRing h1 h1;have hC:=id2 idDbC ZX ZY F.toCRing h1 h1;have hd:=h2 y1 hy;rw[<- F.add_assoc];have hs:=F.div_mul (F.add (F.add (F.mul x1 x1) (F.mul x1 x1)) (F.mul x1 x1)) hd;obtain⟨s,es⟩:∃ s,F.mul (F.add (F.add (F.mul x1 x1) (F.mul x1 x1)) (F.mul x1 x1)) (F.inv (F.add y1 y1))=s:=⟨_,rfl⟩
 rw[es]at hs |-
 obtain⟨S,eS⟩:∃ S,DI F b (x1,y1,F.one) (x1,y1,F.one)=S:=⟨_,rfl⟩
 have hZ':F.sub S.2.2 (F.add (F.add (F.add (F.add (F.add (F.add (F.add (F.mul (F.mul y1 y1) y1) (F.mul (F.mul y1 y1) y1)) (F.mul (F.mul y1 y1) y1)) (F.mul (F.mul y1 y1) y1)) (F.mul (F.mul y1 y1) y1)) (F.mul (F.mul y1 y1) y1)) (F.mul (F.mul y1 y1) y1)) (F.mul (F.mul y1 y1) y1))=F.zero:=by rw[<- eS];exact hZ
 have hX':F.sub (F.mul S.1 (F.mul (F.add y1 y1) (F.add y1 y1))) (F.mul S.2.2 (F.sub (F.add (F.add (F.add (F.add (F.add (F.add (F.add (F.add (F.mul (F.mul (F.mul x1 x1) x1) x1) (F.mul (F.mul (F.mul x1 x1) x1) x1)) (F.mul (F.mul (F.mul x1 x1) x1) x1)) (F.mul (F.mul (F.mul x1 x1) x1) x1)) (F.mul (F.mul (F.mul x1 x1) x1) x1)) (F.mul (F.mul (F.mul x1 x1) x1) x1)) (F.mul (F.mul (F.mul x1 x1) x1) x1)) (F.mul (F.mul (F.mul x1 x1) x1) x1)) (F.mul (F.mul (F.mul x1 x1) x1) x1)) (F.add (F.add (F.add (F.add (F.add (F.add (F.add (F.mul x1 (F.mul y1 y1)) (F.mul x1 (F.mul y1 y1))) (F.mul x1 (F.mul y1 y1))) (F.mul x1 (F.mul y1 y1))) (F.mul x1 (F.mul y1 y1))) (F.mul x1 (F.mul y1 y1))) (F.mul x1 (F.mul y1 y1))) (F.mul x1 (F.mul y1 y1)))))=F.zero:=by rw[<- eS];exact hX
 have hY':F.sub (F.mul S.2.1 (F.mul (F.mul (F.add y1 y1) (F.add y1 y1)) (F.add y1 y1))) (F.mul S.2.2 (F.sub (F.mul (F.add (F.add (F.mul x1 x1) (F.mul x1 x1)) (F.mul x1 x1)) (F.sub (F.mul x1 (F.mul (F.add y1 y1) (F.add y1 y1))) (F.sub (F.add (F.add (F.add (F.add (F.add (F.add (F.add (F.add (F.mul (F.mul (F.mul x1 x1) x1) x1) (F.mul (F.mul (F.mul x1 x1) x1) x1)) (F.mul (F.mul (F.mul x1 x1) x1) x1)) (F.mul (F.mul (F.mul x1 x1) x1) x1)) (F.mul (F.mul (F.mul x1 x1) x1) x1)) (F.mul (F.mul (F.mul x1 x1) x1) x1)) (F.mul (F.mul (F.mul x1 x1) x1) x1)) (F.mul (F.mul (F.mul x1 x1) x1) x1)) (F.mul (F.mul (F.mul x1 x1) x1) x1)) (F.add (F.add (F.add (F.add (F.add (F.add (F.add (F.mul x1 (F.mul y1 y1)) (F.mul x1 (F.mul y1 y1))) (F.mul x1 (F.mul y1 y1))) (F.mul x1 (F.mul y1 y1))) (F.mul x1 (F.mul y1 y1))) (F.mul x1 (F.mul y1 y1))) (F.mul x1 (F.mul y1 y1))) (F.mul x1 (F.mul y1 y1)))))) (F.mul y1 (F.mul (F.mul (F.add y1 y1) (F.add y1 y1)) (F.add y1 y1)))))=F.zero:=by rw[<- eS];exact hY
 have hC':F.sub (F.mul (F.sub (F.mul (F.add (F.add (F.mul x1 x1) (F.mul x1 x1)) (F.mul x1 x1)) (F.sub (F.mul x1 (F.mul (F.add y1 y1) (F.add y1 y1))) (F.sub (F.add (F.add (F.add (F.add (F.add (F.add (F.add (F.add (F.mul (F.mul (F.mul x1 x1) x1) x1) (F.mul (F.mul (F.mul x1 x1) x1) x1)) (F.mul (F.mul (F.mul x1 x1) x1) x1)) (F.mul (F.mul (F.mul x1 x1) x1) x1)) (F.mul (F.mul (F.mul x1 x1) x1) x1)) (F.mul (F.mul (F.mul x1 x1) x1) x1)) (F.mul (F.mul (F.mul x1 x1) x1) x1)) (F.mul (F.mul (F.mul x1 x1) x1) x1)) (F.mul (F.mul (F.mul x1 x1) x1) x1)) (F.add (F.add (F.add (F.add (F.add (F.add (F.add (F.mul x1 (F.mul y1 y1)) (F.mul x1 (F.mul y1 y1))) (F.mul x1 (F.mul y1 y1))) (F.mul x1 (F.mul y1 y1))) (F.mul x1 (F.mul y1 y1))) (F.mul x1 (F.mul y1 y1))) (F.mul x1 (F.mul y1 y1))) (F.mul x1 (F.mul y1 y1)))))) (F.mul y1 (F.mul (F.mul (F.add y1 y1) (F.add y1 y1)) (F.add y1 y1)))) (F.sub (F.mul (F.add (F.add (F.mul x1 x1) (F.mul x1 x1)) (F.mul x1 x1)) (F.sub (F.mul x1 (F.mul (F.add y1 y1) (F.add y1 y1))) (F.sub (F.add (F.add (F.add (F.add (F.add (F.add (F.add (F.add (F.mul (F.mul (F.mul x1 x1) x1) x1) (F.mul (F.mul (F.mul x1 x1) x1) x1)) (F.mul (F.mul (F.mul x1 x1) x1) x1)) (F.mul (F.mul (F.mul x1 x1) x1) x1)) (F.mul (F.mul (F.mul x1 x1) x1) x1)) (F.mul (F.mul (F.mul x1 x1) x1) x1)) (F.mul (F.mul (F.mul x1 x1) x1) x1)) (F.mul (F.mul (F.mul x1 x1) x1) x1)) (F.mul (F.mul (F.mul x1 x1) x1) x1)) (F.add (F.add (F.add (F.add (F.add (F.add (F.add (F.mul x1 (F.mul y1 y1)) (F.mul x1 (F.mul y1 y1))) (F.mul x1 (F.mul y1 y1))) (F.mul x1 (F.mul y1 y1))) (F.mul x1 (F.mul y1 y1))) (F.mul x1 (F.mul y1 y1))) (F.mul x1 (F.mul y1 y1))) (F.mul x1 (F.mul y1 y1)))))) (F.mul y1 (F.mul (F.mul (F.add y1 y1) (F.add y1 y1)) (F.add y1 y1))))) (F.add (F.mul (F.mul (F.sub (F.add (F.add (F.add (F.add (F.add (F.add (F.add (F.add (F.mul (F.mul (F.mul x1 x1) x1) x1) (F.mul (F.mul (F.mul x1 x1) x1) x1)) (F.mul (F.mul (F.mul x1 x1) x1) x1)) (F.mul (F.mul (F.mul x1 x1) x1) x1)) (F.mul (F.mul (F.mul x1 x1) x1) x1)) (F.mul (F.mul (F.mul x1 x1) x1) x1)) (F.mul (F.mul (F.mul x1 x1) x1) x1)) (F.mul (F.mul (F.mul x1 x1) x1) x1)) (F.mul (F.mul (F.mul x1 x1) x1) x1)) (F.add (F.add (F.add (F.add (F.add (F.add (F.add (F.mul x1 (F.mul y1 y1)) (F.mul x1 (F.mul y1 y1))) (F.mul x1 (F.mul y1 y1))) (F.mul x1 (F.mul y1 y1))) (F.mul x1 (F.mul y1 y1))) (F.mul x1 (F.mul y1 y1))) (F.mul x1 (F.mul y1 y1))) (F.mul x1 (F.mul y1 y1)))) (F.sub (F.add (F.add (F.add (F.add (F.add (F.add (F.add (F.add (F.mul (F.mul (F.mul x1 x1) x1) x1) (F.mul (F.mul (F.mul x1 x1) x1) x1)) (F.mul (F.mul (F.mul x1 x1) x1) x1)) (F.mul (F.mul (F.mul x1 x1) x1) x1)) (F.mul (F.mul (F.mul x1 x1) x1) x1)) (F.mul (F.mul (F.mul x1 x1) x1) x1)) (F.mul (F.mul (F.mul x1 x1) x1) x1)) (F.mul (F.mul (F.mul x1 x1) x1) x1)) (F.mul (F.mul (F.mul x1 x1) x1) x1)) (F.add (F.add (F.add (F.add (F.add (F.add (F.add (F.mul x1 (F.mul y1 y1)) (F.mul x1 (F.mul y1 y1))) (F.mul x1 (F.mul y1 y1))) (F.mul x1 (F.mul y1 y1))) (F.mul x1 (F.mul y1 y1))) (F.mul x1 (F.mul y1 y1))) (F.mul x1 (F.mul y1 y1))) (F.mul x1 (F.mul y1 y1))))) (F.sub (F.add (F.add (F.add (F.add (F.add (F.add (F.add (F.add (F.mul (F.mul (F.mul x1 x1) x1) x1) (F.mul (F.mul (F.mul x1 x1) x1) x1)) (F.mul (F.mul (F.mul x1 x1) x1) x1)) (F.mul (F.mul (F.mul x1 x1) x1) x1)) (F.mul (F.mul (F.mul x1 x1) x1) x1)) (F.mul (F.mul (F.mul x1 x1) x1) x1)) (F.mul (F.mul (F.mul x1 x1) x1) x1)) (F.mul (F.mul (F.mul x1 x1) x1) x1)) (F.mul (F.mul (F.mul x1 x1) x1) x1)) (F.add (F.add (F.add (F.add (F.add (F.add (F.add (F.mul x1 (F.mul y1 y1)) (F.mul x1 (F.mul y1 y1))) (F.mul x1 (F.mul y1 y1))) (F.mul x1 (F.mul y1 y1))) (F.mul x1 (F.mul y1 y1))) (F.mul x1 (F.mul y1 y1))) (F.mul x1 (F.mul y1 y1))) (F.mul x1 (F.mul y1 y1))))) (F.mul b (F.mul (F.mul (F.mul (F.mul (F.mul (F.add y1 y1) (F.add y1 y1)) (F.add y1 y1)) (F.add y1 y1)) (F.add y1 y1)) (F.add y1 y1))))=F.zero:=hC;have hZn:S.2.2≠F.zero:=by
  rw[F.eq_of_sub hZ',r8];exact F.mul_ne (F.mul_ne hd hd) hd
 rw[eS];rw[r9]at hX' hY' hC';generalize F.add y1 y1=dx at *;rw[<- hs]at hX' hY' hC';rw[r1,r2 F.toCRing (F.mul s s) x1 x1]at hX' hY' hC';rw[r5,r4]at hY' hC';rw[r7]at hC';have hC2:=F.eq_of_sub hC';rw[r6]at hC2;have hd6:F.mul (F.mul (F.mul (F.mul (F.mul dx dx) dx) dx) dx) dx≠F.zero:=F.mul_ne (F.mul_ne (F.mul_ne (F.mul_ne (F.mul_ne hd hd) hd) hd) hd) hd;refine⟨⟨hZn,?_,?_⟩,?_⟩
 ·have h:=F.eq_of_sub hX'
  exact F.cancel (F.mul_ne hd hd) (h.trans (r3 F.toCRing _ _ _))
 ·have h:=F.eq_of_sub hY'
  exact F.cancel (F.mul_ne (F.mul_ne hd hd) hd) (h.trans (r3 F.toCRing _ _ _))
 ·exact F.cancel hd6 hC2
theorem A46{x1 y1:K}(hb:∀ x,cub F.ops x b≠F.zero)(h2:∀ a:K,a≠F.zero->F.add a a≠F.zero)(h1:OnC F.toCRing b x1 y1)(hy:y1≠F.zero) :
  Rep F (DI F b (x1,y1,F.one) (x1,F.sub (F.sub y1 y1) y1,F.one)) .none:=by
 have hX:=id2 idOpX ZZ A00 F.toCRing h1 h1;have hY:=id2 idOpY A03 A04 F.toCRing h1 h1;have hZ:=id2 idOpZ A01 A02 F.toCRing h1 h1;have hd:=h2 y1 hy;obtain⟨S,eS⟩:∃ S,DI F b (x1,y1,F.one) (x1,F.sub (F.sub y1 y1) y1,F.one)=S:=⟨_,rfl⟩
 have hX':S.1=F.zero:=by rw[<- eS];exact hX
 have hZ':S.2.2=F.zero:=by rw[<- eS];exact hZ
 have hY':F.sub (F.mul S.2.1 S.2.1) (F.add (F.mul (F.mul (F.sub (F.add (F.add (F.add (F.add (F.add (F.add (F.add (F.add (F.mul (F.mul (F.mul x1 x1) x1) x1) (F.mul (F.mul (F.mul x1 x1) x1) x1)) (F.mul (F.mul (F.mul x1 x1) x1) x1)) (F.mul (F.mul (F.mul x1 x1) x1) x1)) (F.mul (F.mul (F.mul x1 x1) x1) x1)) (F.mul (F.mul (F.mul x1 x1) x1) x1)) (F.mul (F.mul (F.mul x1 x1) x1) x1)) (F.mul (F.mul (F.mul x1 x1) x1) x1)) (F.mul (F.mul (F.mul x1 x1) x1) x1)) (F.add (F.add (F.add (F.add (F.add (F.add (F.add (F.mul x1 (F.mul y1 y1)) (F.mul x1 (F.mul y1 y1))) (F.mul x1 (F.mul y1 y1))) (F.mul x1 (F.mul y1 y1))) (F.mul x1 (F.mul y1 y1))) (F.mul x1 (F.mul y1 y1))) (F.mul x1 (F.mul y1 y1))) (F.mul x1 (F.mul y1 y1)))) (F.sub (F.add (F.add (F.add (F.add (F.add (F.add (F.add (F.add (F.mul (F.mul (F.mul x1 x1) x1) x1) (F.mul (F.mul (F.mul x1 x1) x1) x1)) (F.mul (F.mul (F.mul x1 x1) x1) x1)) (F.mul (F.mul (F.mul x1 x1) x1) x1)) (F.mul (F.mul (F.mul x1 x1) x1) x1)) (F.mul (F.mul (F.mul x1 x1) x1) x1)) (F.mul (F.mul (F.mul x1 x1) x1) x1)) (F.mul (F.mul (F.mul x1 x1) x1) x1)) (F.mul (F.mul (F.mul x1 x1) x1) x1)) (F.add (F.add (F.add (F.add (F.add (F.add (F.add (F.mul x1 (F.mul y1 y1)) (F.mul x1 (F.mul y1 y1))) (F.mul x1 (F.mul y1 y1))) (F.mul x1 (F.mul y1 y1))) (F.mul x1 (F.mul y1 y1))) (F.mul x1 (F.mul y1 y1))) (F.mul x1 (F.mul y1 y1))) (F.mul x1 (F.mul y1 y1))))) (F.sub (F.add (F.add (F.add (F.add (F.add (F.add (F.add (F.add (F.mul (F.mul (F.mul x1 x1) x1) x1) (F.mul (F.mul (F.mul x1 x1) x1) x1)) (F.mul (F.mul (F.mul x1 x1) x1) x1)) (F.mul (F.mul (F.mul x1 x1) x1) x1)) (F.mul (F.mul (F.mul x1 x1) x1) x1)) (F.mul (F.mul (F.mul x1 x1) x1) x1)) (F.mul (F.mul (F.mul x1 x1) x1) x1)) (F.mul (F.mul (F.mul x1 x1) x1) x1)) (F.mul (F.mul (F.mul x1 x1) x1) x1)) (F.add (F.add (F.add (F.add (F.add (F.add (F.add (F.mul x1 (F.mul y1 y1)) (F.mul x1 (F.mul y1 y1))) (F.mul x1 (F.mul y1 y1))) (F.mul x1 (F.mul y1 y1))) (F.mul x1 (F.mul y1 y1))) (F.mul x1 (F.mul y1 y1))) (F.mul x1 (F.mul y1 y1))) (F.mul x1 (F.mul y1 y1))))) (F.mul b (F.mul (F.mul (F.mul (F.mul (F.mul (F.add y1 y1) (F.add y1 y1)) (F.add y1 y1)) (F.add y1 y1)) (F.add y1 y1)) (F.add y1 y1))))=F.zero:=by rw[<- eS];exact hY
 rw[eS];refine⟨hX',hZ',fun e=>?_⟩;have h3:=F.eq_of_sub hY';rw[e,F.zero_mul]at h3;have hu:=F.div_mul (F.sub (F.add (F.add (F.add (F.add (F.add (F.add (F.add (F.add (F.mul (F.mul (F.mul x1 x1) x1) x1) (F.mul (F.mul (F.mul x1 x1) x1) x1)) (F.mul (F.mul (F.mul x1 x1) x1) x1)) (F.mul (F.mul (F.mul x1 x1) x1) x1)) (F.mul (F.mul (F.mul x1 x1) x1) x1)) (F.mul (F.mul (F.mul x1 x1) x1) x1)) (F.mul (F.mul (F.mul x1 x1) x1) x1)) (F.mul (F.mul (F.mul x1 x1) x1) x1)) (F.mul (F.mul (F.mul x1 x1) x1) x1)) (F.add (F.add (F.add (F.add (F.add (F.add (F.add (F.mul x1 (F.mul y1 y1)) (F.mul x1 (F.mul y1 y1))) (F.mul x1 (F.mul y1 y1))) (F.mul x1 (F.mul y1 y1))) (F.mul x1 (F.mul y1 y1))) (F.mul x1 (F.mul y1 y1))) (F.mul x1 (F.mul y1 y1))) (F.mul x1 (F.mul y1 y1)))) (F.mul_ne hd hd);obtain⟨u,eu⟩:∃ u,F.mul (F.sub (F.add (F.add (F.add (F.add (F.add (F.add (F.add (F.add (F.mul (F.mul (F.mul x1 x1) x1) x1) (F.mul (F.mul (F.mul x1 x1) x1) x1)) (F.mul (F.mul (F.mul x1 x1) x1) x1)) (F.mul (F.mul (F.mul x1 x1) x1) x1)) (F.mul (F.mul (F.mul x1 x1) x1) x1)) (F.mul (F.mul (F.mul x1 x1) x1) x1)) (F.mul (F.mul (F.mul x1 x1) x1) x1)) (F.mul (F.mul (F.mul x1 x1) x1) x1)) (F.mul (F.mul (F.mul x1 x1) x1) x1)) (F.add (F.add (F.add (F.add (F.add (F.add (F.add (F.mul x1 (F.mul y1 y1)) (F.mul x1 (F.mul y1 y1))) (F.mul x1 (F.mul y1 y1))) (F.mul x1 (F.mul y1 y1))) (F.mul x1 (F.mul y1 y1))) (F.mul x1 (F.mul y1 y1))) (F.mul x1 (F.mul y1 y1))) (F.mul x1 (F.mul y1 y1)))) (F.inv (F.mul (F.add y1 y1) (F.add y1 y1)))=u:=⟨_,rfl⟩
 rw[eu]at hu;rw[<- hu,r6]at h3;exact hb u (F.left_zero (F.mul_ne (F.mul_ne (F.mul_ne (F.mul_ne (F.mul_ne hd hd) hd) hd) hd) hd) h3.symm)
theorem WO{x y:K}(hb:∀ x,cub F.ops x b≠F.zero)(h:OnC F.toCRing b x y):y≠F.zero:=fun e=>by
 unfold OnC at h;rw[e,F.zero_mul]at h;exact hb x h.symm
theorem A2k{x y1 y2:K}(h1:OnC F.toCRing b x y1)(h2:OnC F.toCRing b x y2)(hne:y1≠y2):y2=F.sub (F.sub y1 y1) y1:=by
 have h:F.mul (F.sub y1 y2) (F.add y1 y2)=F.zero:=by
  rw[r10,show F.mul y1 y1=F.mul y2 y2 from h1.trans h2.symm,F.sub_self]
 have h0:F.add y1 y2=F.zero:=F.left_zero (fun e=>hne (F.eq_of_sub e)) (by rw[F.mul_comm];exact h);rw[F.sub_self];have e:F.sub F.zero y1=F.neg y1:=by unfold CRing.sub;rw[F.zero_add]
 rw[e];apply F.add_cancel (c:=y1);rw[F.add_comm y2,h0,F.add_comm,F.add_neg]
theorem Lb(x y:K):DI F b (F.zero,F.one,F.zero) (x,y,F.one)=(F.mul x y,F.mul y y,y)/\DI F b (x,y,F.one) (F.zero,F.one,F.zero)=(F.mul x y,F.mul y y,y):=by
 unfold DI Cm CRing.ops;simp only[F.zero_mul,F.mul_zero,F.one_mul,F.mul_one,F.zero_add,F.add_zero,F.sub_zero,and_self]
theorem Q7:DI F b (F.zero,F.one,F.zero) (F.zero,F.one,F.zero)=(F.zero,F.one,F.zero):=by
 unfold DI Cm CRing.ops;simp only[F.zero_mul,F.mul_zero,F.mul_one,F.add_zero,F.sub_zero]
theorem DW[DecidableEq K](hb:∀ x,cub F.ops x b≠F.zero)(h2:∀ a:K,a≠F.zero->F.add a a≠F.zero){p q:Pt K}(hp:p.On F b)(hq:q.On F b):Rep F (DI F b (p.emb F) (q.emb F)) (Ba F p q)/\(Ba F p q).On F b:=by
 cases p with
 | none =>
  cases q with
  | none=>exact⟨by show Rep F (DI F b (F.zero,F.one,F.zero) (F.zero,F.one,F.zero)) .none;rw[Q7];exact⟨rfl,rfl,F.one_ne⟩,trivial⟩
  | some x y =>
   refine⟨?_,hq⟩;show Rep F (DI F b (F.zero,F.one,F.zero) (x,y,F.one)) (.some x y);rw[(Lb x y).1];exact⟨WO hb hq,rfl,rfl⟩
 | some x1 y1 =>
  cases q with
  | none =>
   refine⟨?_,hp⟩;show Rep F (DI F b (x1,y1,F.one) (F.zero,F.one,F.zero)) (.some x1 y1);rw[(Lb x1 y1).2];exact⟨WO hb hp,rfl,rfl⟩
  | some x2 y2 =>
   have hy:=WO hb hp;show Rep F (DI F b (x1,y1,F.one) (x2,y2,F.one)) (if x1=x2 then _ else _)/\(if x1=x2 then _ else _:Pt K).On F b;by_cases ex:x1=x2
   ·subst ex
    rw[if_pos rfl];by_cases ey:y1=y2
    ·subst ey
     rw[if_neg (fun h=>h.elim (fun h=>h rfl) hy)];exact A45 h2 hp hy
    ·rw[if_pos (.inl ey)]
     refine⟨?_,trivial⟩;rw[A2k hp hq ey];exact A46 hb h2 hp hy
   ·rw[if_neg ex]
    exact A3E hb hp hq ex
def sc(F:CField K)(s:K)(T:K × K × K):K × K × K:=(F.mul s T.1,F.mul s T.2.1,F.mul s T.2.2)
theorem A05(s u:K)(T U:K × K × K):DI F b (sc F s T) (sc F u U)=sc F (F.mul (F.mul s u) (F.mul s u)) (DI F b T U):=by
 have m4:∀ x y,F.mul (F.mul s x) (F.mul u y)=F.mul (F.mul s u) (F.mul x y):=fun x y=>F.mul4 s x u y;have m4':∀ x y,F.mul (F.mul u x) (F.mul s y)=F.mul (F.mul s u) (F.mul x y):=fun x y=>by rw[F.mul4,F.mul_comm u s]
 have ml:∀ t v x,F.mul t (F.mul v x)=F.mul v (F.mul t x):=fun t v x=>by rw[<- F.mul_assoc,F.mul_comm t v,F.mul_assoc]
 unfold DI Cm sc CRing.ops;simp only[m4,m4'];generalize F.mul s u=v;simp only[<- F.mul_add,ml _ v,<- F.mul_sub];simp only[F.mul_assoc];simp only[<- F.mul_sub,<- F.mul_add]
theorem A2l{s:K}(hs:s≠F.zero){T:K × K × K}{p:Pt K}(h:Rep F T p):Rep F (sc F s T) p:=by
 cases p with
 | none=>exact⟨by show F.mul s T.1=_;rw[h.1,F.mul_zero],by show F.mul s T.2.2=_;rw[h.2.1,F.mul_zero],F.mul_ne hs h.2.2⟩
 | some x y =>
  have ml:∀ t v x,F.mul t (F.mul v x)=F.mul v (F.mul t x):=fun t v x=>by rw[<- F.mul_assoc,F.mul_comm t v,F.mul_assoc]
  exact⟨F.mul_ne hs h.1,by show F.mul s T.1=F.mul x (F.mul s T.2.2);rw[h.2.1,ml],by show F.mul s T.2.1=F.mul y (F.mul s T.2.2);rw[h.2.2,ml]⟩
theorem WP{T:K × K × K}{p:Pt K}(h:Rep F T p):∃ s,s≠F.zero/\T=sc F s (p.emb F):=by
 cases p with
 | none =>
  refine⟨T.2.1,h.2.2,?_⟩;show T=(F.mul T.2.1 F.zero,F.mul T.2.1 F.one,F.mul T.2.1 F.zero);rw[F.mul_zero,F.mul_one];exact Prod.ext h.1 (Prod.ext rfl h.2.1)
 | some x y =>
  refine⟨T.2.2,h.1,?_⟩;show T=(F.mul T.2.2 x,F.mul T.2.2 y,F.mul T.2.2 F.one);rw[F.mul_one,F.mul_comm _ x,F.mul_comm _ y];exact Prod.ext h.2.1 (Prod.ext h.2.2 rfl)
theorem Rk[DecidableEq K](hb:∀ x,cub F.ops x b≠F.zero)(h2:∀ a:K,a≠F.zero->F.add a a≠F.zero){T U:K × K × K}{p q:Pt K}(hp:p.On F b)(hq:q.On F b)(hT:Rep F T p)(hU:Rep F U q):Rep F (DI F b T U) (Ba F p q):=by
 obtain⟨s,hs,rfl⟩:=WP hT;obtain⟨u,hu,rfl⟩:=WP hU;rw[A05];exact A2l (F.mul_ne (F.mul_ne hs hu) (F.mul_ne hs hu)) (DW hb h2 hp hq).1
theorem Rl(p:Pt K):Rep F (p.emb F) p:=by
 cases p with
 | none=>exact⟨rfl,rfl,F.one_ne⟩
 | some x y=>exact⟨F.one_ne,(F.mul_one _).symm,(F.mul_one _).symm⟩
theorem Rm{T U:K × K × K}{p q:Pt K}(hT:Rep F T p)(hU:Rep F U q)(h1:F.mul T.1 U.2.2=F.mul U.1 T.2.2)(h2:F.mul T.2.1 U.2.2=F.mul U.2.1 T.2.2):p=q:=by
 cases p with
 | none =>
  cases q with
  | none=>rfl
  | some x y =>
   rw[hT.2.1,F.mul_zero]at h2;exact absurd h2 (F.mul_ne hT.2.2 hU.1)
 | some x y =>
  cases q with
  | none =>
   rw[hU.2.1,F.mul_zero]at h2;exact absurd h2.symm (F.mul_ne hU.2.2 hT.1)
  | some x' y' =>
   have sw:∀ a c d:K,F.mul (F.mul a c) d=F.mul a (F.mul c d):=F.mul_assoc;rw[hT.2.1,hU.2.1,sw,sw,F.mul_comm U.2.2]at h1;rw[hT.2.2,hU.2.2,sw,sw,F.mul_comm U.2.2]at h2;rw[F.cancel (F.mul_ne hT.1 hU.1) h1,F.cancel (F.mul_ne hT.1 hU.1) h2]
theorem TG(T U:K × K × K):DI F b T U=DI F b U T:=by
 unfold DI Cm CRing.ops;simp only[F.mul_comm U.1 T.1,F.mul_comm U.2.1 T.2.1,F.mul_comm U.2.2 T.2.2,F.add_comm (F.mul U.1 T.2.1),F.add_comm (F.mul U.2.1 T.2.2),F.add_comm (F.mul U.1 T.2.2)]
theorem TI[DecidableEq K](hb:∀ x,cub F.ops x b≠F.zero)(h2:∀ a:K,a≠F.zero->F.add a a≠F.zero){p q:Pt K}(hp:p.On F b)(hq:q.On F b):Ba F p q=Ba F q p:=by
 have h1:=(DW hb h2 hp hq).1;have h3:=(DW hb h2 hq hp).1;rw[TG]at h3;exact Rm h1 h3 rfl rfl
theorem Cq[DecidableEq K](hb:∀ x,cub F.ops x b≠F.zero)(h2:∀ a:K,a≠F.zero->F.add a a≠F.zero){p q r:Pt K}(hp:p.On F b)(hq:q.On F b)(hr:r.On F b):Ba F (Ba F p q) r=Ba F p (Ba F q r):=by
 have none_r:∀ u:Pt K,Ba F u .none=u:=fun u=>by cases u <;> rfl
 cases p with
 | none=>rfl
 | some x1 y1 =>
  cases q with
  | none=>rw[none_r];rfl
  | some x2 y2 =>
   cases r with
   | none=>rw[none_r,none_r]
   | some x3 y3 =>
    have hL:=Rk hb h2 (DW hb h2 hp hq).2 hr (DW hb h2 hp hq).1 (Rl (.some x3 y3));have hR:=Rk hb h2 hp (DW hb h2 hq hr).2 (Rl (.some x1 y1)) (DW hb h2 hq hr).1;have k:=ZH F.toCRing (b:=b) hp hq hr;rw[<- F.add_assoc]at k;exact Rm hL hR (F.eq_of_sub (congrArg Prod.fst k)) (F.eq_of_sub (congrArg Prod.snd k))
end
structure Curve {K:Type} (F:CField K) (b:K):Prop where
 root:∀ x,cub F.ops x b≠F.zero
 two:∀ a:K,a≠F.zero->F.add a a≠F.zero
def DJ{K:Type}(F:CField K)[DecidableEq K]:Nat->Pt K->Pt K
 | 0,_=>.none
 | n+1,p=>Ba F (DJ F n p) p
def ME{K:Type}(F:CField K):Pt K->Pt K
 | .none=>.none
 | .some x y=>.some x (F.neg y)
theorem Og{K:Type}(C:CRing K)(y:K):C.mul (C.neg y) (C.neg y)=C.mul y y:=by
 rw[C.mul_neg,C.mul_comm,C.mul_neg];apply C.add_cancel (c:=C.neg (C.mul y y));rw[C.add_neg,C.add_comm,C.add_neg]
section
variable {K:Type} {F:CField K} {b:K}
theorem Cw[DecidableEq K](p:Pt K):Ba F p .none=p:=by cases p <;> rfl
theorem CJ[DecidableEq K](h:Curve F b){p q:Pt K}(hp:p.On F b)(hq:q.On F b):(Ba F p q).On F b:=(DW h.root h.two hp hq).2
theorem FE[DecidableEq K](h:Curve F b){p:Pt K}(hp:p.On F b):∀ n,(DJ F n p).On F b
 | 0=>trivial
 | n+1=>CJ h (FE h hp n) hp
theorem Oh[DecidableEq K](h:Curve F b){p:Pt K}(hp:p.On F b)(m:Nat):∀ n,DJ F (m+n) p=Ba F (DJ F m p) (DJ F n p)
 | 0=>(Cw _).symm
 | n+1=>by rw[<- Nat.add_assoc,DJ,Oh h hp m n,DJ,Cq h.root h.two (FE h hp m) (FE h hp n) hp]
theorem Lc[DecidableEq K](h:Curve F b){p q r s:Pt K}(hp:p.On F b)(hq:q.On F b)(hr:r.On F b)(hs:s.On F b):Ba F (Ba F p q) (Ba F r s)=Ba F (Ba F p r) (Ba F q s):=by
 rw[Cq h.root h.two hp hq (CJ h hr hs),<- Cq h.root h.two hq hr hs,TI h.root h.two hq hr,Cq h.root h.two hr hq hs,<- Cq h.root h.two hp hr (CJ h hq hs)]
theorem WQ{p:Pt K}(hp:p.On F b):(ME F p).On F b:=by
 cases p with
 | none=>trivial
 | some x y=>exact(Og F.toCRing y).trans hp
theorem WR[DecidableEq K](h:Curve F b){p:Pt K}(hp:p.On F b):Ba F p (ME F p)=.none:=by
 cases p with
 | none=>rfl
 | some x y =>
  have hy:=WO h.root hp;show(if x=x then _ else _)=_;rw[if_pos rfl,if_pos];refine .inl fun e=>?_;have e2:F.add y y=F.zero:=by
   have:=F.add_neg y;rwa [<- e]at this
  exact h.two y hy e2
theorem TJ[DecidableEq K](h:Curve F b){p q:Pt K}(hp:p.On F b)(hq:q.On F b):Ba F (Ba F p q) (ME F q)=p:=by
 rw[Cq h.root h.two hp hq (WQ hq),WR h hq,Cw]
end
end Go.Proofs.YtphafjbajlcbnaaGreat
