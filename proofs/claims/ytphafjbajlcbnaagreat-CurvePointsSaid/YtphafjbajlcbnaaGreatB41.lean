/- The numbers of the curve's walks: what the program's and the reference's places tell, as points of the group. (Cut to what is reached, written closely: SyD · EcOrd · FInvN · EcFp · EcJac · EcVal · RTi · RSu · Cn.) -/
import Derived.Test.YtphafjbajlcbnaaGreatB35
import Derived.Test.YtphafjbajlcbnaaGreatB40
import Derived.Test.YtphafjbajlcbnaaGreatB37
import Derived.Test.YtphafjbajlcbnaaGreatB27
import Derived.Test.YtphafjbajlcbnaaGreatB38
import Derived.Test.YtphafjbajlcbnaaGreatB39
set_option linter.all false
set_option maxRecDepth 100000
set_option maxHeartbeats 8000000
namespace Go.Proofs.YtphafjbajlcbnaaGreat
open Go.RowKit
namespace Sy
def A08:SV->Option (List (Nat × Nat × Nat × Bool))
 | .e=>some []
 | .ap (.ap (.w k) (.ap x .e)) t=>match ptS x,A08 t with
  | some p,some l=>some ((k,p)::l)
  | _,_=>none
 | _=>none
theorem Xa{γ:Pl}{x:SV}{p:Nat × Nat × Bool}(hx:ptS x=some p):x.cells γ=(pc p.1 p.2.1 p.2.2).toList:=by
 have k:=(Bz (γ:=γ) hx).1;unfold ptS at hx
 split at hx
 ·have h3:Value.agg (SV.cells γ (SV.ap (.w _) (.ap (.w _) (.ap _ .e)))).toArray=.agg _:=k
  injection h3 with h3
  rw[<- h3]
 ·cases hx
theorem MI{γ:Pl}:∀ {c:SV} {l:List (Nat × Nat × Nat × Bool)},A08 c=some l->(c.cells γ).toArray=tls l/\(c.ok->∀ t∈l,t.1<2^256/\t.2.1<2^256/\t.2.2.1<2^256)
 | .e,l,h=>by cases h;exact⟨rfl,fun _ p hp=>by cases hp⟩
 | .ap (.ap (.w k) (.ap x .e)) t,l,h=>by
  unfold A08 at h
  split at h
  ·rename_i p r hx hr
   cases h;have ih:=MI (γ:=γ) hr;have q:=(Bz (γ:=γ) hx).2;refine⟨?_,fun ho t ht=>?_⟩
   ·show((pw k).toList++(x.cells γ++[])++t.cells γ).toArray=tc k p.1 p.2.1 p.2.2++tls r
    rw[<- ih.1,Xa hx];simp[tc]
   ·rcases List.mem_cons.1 ht with rfl | ht
    ·exact⟨ho.1.1,q ho.1.2.1⟩
    ·exact ih.2 ho.2 t ht
  ·cases h
def tm3(m:Nat)(l:List (Nat × Nat × Nat × Bool)):Nat × Nat × Bool:=if l.all (fun t=>onB m t.2)=true then gpT m (gwk m l 257)else (0,0,true)
theorem Rq(m:Nat)(l:List (Nat × Nat × Nat × Bool)):pc (tm3 m l).1 (tm3 m l).2.1 (tm3 m l).2.2=if l.all (fun t=>onB m t.2)=true then gpo m (gwk m l 257)else pc 0 0 true:=by
 unfold tm3
 split
 ·rw[<- Jc]
 ·rfl
theorem A2t{m:Nat}(h0:0<m)(hm:m<2^256)(l:List (Nat × Nat × Nat × Bool)):(tm3 m l).1<2^256/\(tm3 m l).2.1<2^256:=by
 unfold tm3
 split
 ·exact PO h0 hm _
 ·exact⟨AV,AV⟩
def Qa(ext:Bool)(m:Nat):Con:=⟨41,fun _ M us=>match us with
 | [.ap x .e,.s b 0 k _]=>match isF ext m M x,F4 b M with
  | some p,some (c,T)=>match A08 c with
   | some l=>if T=68/\l.length=k/\0<k/\k<4294967296 then some (.tu (sP3 (tm3 m l)) (sIf (l.all fun t=>onB m t.2)),p,[])else none
   | none=>none
  | _,_=>none
 | _=>none⟩
theorem TN{ext:Bool}{m:Nat}{γ0:Pl}{w0:World}(hf:FOk ext m γ0 w0):ConOk Tryz.prog 1 γ0 w0 (Qa ext m) :=
 ⟨fun _ _=>by kernel_rfl,fun n M us r p R hr hp hn hok hM=>by
  unfold Qa at hr;dsimp only at hr
  split at hr
  ·rename_i x b k c
   split at hr
   ·rename_i p' c' T hx hrow
    split at hr
    ·rename_i l hl
     split at hr
     ·rename_i hk
      cases hr;obtain⟨rfl,rfl,hk0,hk⟩:=hk;have hlt:=(MI (γ:=fun _=>0) hl).2 (hM _ (Bu hrow)).1;have q:=Fa (A2t (by have:=hf.big;omega) hf.lt l);have q2:SV.lt 0 (.tu (sP3 (tm3 m l)) (sIf (l.all fun t=>onB m t.2)))=true:=rfl;refine⟨⟨q.1,trivial⟩,SV.lt_mono (Nat.zero_le _) q2,fun q hq=>(by cases hq),fun γ hγ wx hw hL=>?_⟩;obtain⟨F,h1,h2⟩:=Im hx hp hf hγ hw hL;have hrw:=(hL _ (Bu hrow)).1;rw[(MI (γ:=γ) hl).1]at hrw;have g4:=Q9 F m (γ b) c l hlt hk0 hk wx h2 hrw;rw[<- Jb hx h1,<- Rq,<- Dc _ γ]at g4;exact g4.mono fun e w' hh=>⟨⟨γ,fun _ _=>rfl,hh.1,fun q hq=>(by cases hq),.nil⟩,hh.2⟩
     ·cases hr
    ·cases hr
   ·cases hr
  ·cases hr⟩
def zT:SV:=.ap (.w 0) (.ap (.ap (.w 0) (.ap (.w 0) (.ap (.v (.bool false)) .e))) .e)
theorem A3F:zT.ok:=⟨AV,⟨AV,AV,trivial,trivial⟩,trivial⟩
def bsT(n:Nat)(zs:SV):Bs:=⟨93,n,68,13,zs⟩
theorem A09:(bsT 1 (.ap zT .e)).Good Tryz.prog:=⟨Tryz.underlying93,ω,ω,rfl,⟨A3F,trivial⟩,by decide,by decide⟩
end Sy
open Sy
theorem Xb(k x y:Nat)(n:Bool)(hk:k<2^256)(hx:x<2^256)(hy:y<2^256)(w:World):Calls Tryz.prog 21 #[.agg (pw k),.agg (pc x y n)] w fun r w'=>r=.returned (.tuple #[.agg (if [(k,x,y,n)].all (fun t=>onB mK t.2)=true then gpo mK (gwk mK [(k,x,y,n)] 257)else pc 0 0 true),.int .i64 (if [(k,x,y,n)].all (fun t=>onB mK t.2)=true then 0 else 81)])/\Below w.heap.size w w':=by
 refine AJ (Mm (more:=Je::Qa false mK::[]) ⟨K9,TN (fK w),trivial⟩ (EF A09)) ω (fun _=>0) Tryz.func21 ω [.w k,sP x y n] ⟨⟨hk,rfl⟩,⟨⟨hx,hy,trivial,trivial⟩,rfl⟩,trivial⟩ ω ω
  (.leaf (.tu (sP3 (tm3 mK [(k,x,y,n)])) (sIf ([(k,x,y,n)].all fun t=>onB mK t.2)))) ω ?_
 rw[<- Rq,<- Dc _ fun _=>0];rfl
def IW(p n:Nat):Nat:=n^(p - 2)%p
theorem Rt{p:Nat}(hp:Pr p)(n:Nat):IW p n<p:=Nat.mod_lt _ (by have:=hp.1;omega)
theorem MJ{p n:Nat}(hp:Pr p)(h:¬p∣n):n*IW p n%p=1:=by
 unfold IW;have h2:=hp.1;rw[Nat.mul_mod,Nat.mod_mod,<- Nat.mul_mod,<- Nat.pow_succ',show(p - 2).succ=p - 1 by omega];exact Mr hp n h
theorem Xc{p n:Nat}(hp:Pr p)(h:p∣n):n*IW p n%p≠1:=by
 have h2:=hp.1;rw[Nat.mul_mod,Nat.mod_eq_zero_of_dvd h,Nat.zero_mul,Nat.zero_mod];omega
theorem Xd{p n:Nat}(hp:Pr p):n*IW p n%p=1↔¬p∣n:=⟨fun h hd=>Xc hp hd h,MJ hp⟩
theorem TP{p n x:Nat}(hp:Pr p)(h:n*x%p=1)(hx:x<p):IW p n=x:=by
 have hn:¬p∣n:=fun hd=>by
  rw[Nat.mul_mod,Nat.mod_eq_zero_of_dvd hd,Nat.zero_mul,Nat.zero_mod]at h;omega
 have h1:=MJ hp hn;have e1:IW p n*(n*x)%p=IW p n:=by rw[Nat.mul_mod,h,Nat.mul_one,Nat.mod_mod,Nat.mod_eq_of_lt (Rt hp n)]
 have e2:IW p n*(n*x)%p=x:=by rw[<- Nat.mul_assoc,Nat.mul_comm (IW p n),Nat.mul_mod,h1,Nat.one_mul,Nat.mod_mod,Nat.mod_eq_of_lt hx]
 exact e1.symm.trans e2
abbrev Zp(p:Nat):={ a:Nat // a<p }
theorem Bi{p:Nat}{a b:Zp p}(h:a.1=b.1):a=b:=Subtype.ext h
section
variable {p:Nat} (hp:Pr p)
theorem Pr.pos{p:Nat}(hp:Pr p):0<p:=by have:=hp.1;omega
def Bv:CField (Zp p) where
 add a b:=⟨(a.1+b.1)%p,Nat.mod_lt _ hp.pos⟩
 mul a b:=⟨a.1*b.1%p,Nat.mod_lt _ hp.pos⟩
 neg a:=⟨(p - a.1)%p,Nat.mod_lt _ hp.pos⟩
 zero:=⟨0,hp.pos⟩
 one:=⟨1,hp.1⟩
 inv a:=⟨IW p a.1,Rt hp a.1⟩
 add_assoc a b c:=Bi (by show((a.1+b.1)%p+c.1)%p=(a.1+(b.1+c.1)%p)%p;rw[Nat.mod_add_mod,Nat.add_mod_mod,Nat.add_assoc])
 add_comm a b:=Bi (by show(a.1+b.1)%p=(b.1+a.1)%p;rw[Nat.add_comm])
 add_zero a:=Bi (by show(a.1+0)%p=a.1;rw[Nat.add_zero,Nat.mod_eq_of_lt a.2])
 add_neg a:=Bi (by show(a.1+(p - a.1)%p)%p=0;have:=a.2;rw[Nat.add_mod_mod,show a.1+(p - a.1)=p by omega,Nat.mod_self])
 mul_assoc a b c:=Bi (by show(a.1*b.1%p)*c.1%p=a.1*(b.1*c.1%p)%p;rw[Nat.mod_mul_mod,Nat.mul_mod_mod,Nat.mul_assoc])
 mul_comm a b:=Bi (by show a.1*b.1%p=b.1*a.1%p;rw[Nat.mul_comm])
 mul_one a:=Bi (by show a.1*1%p=a.1;rw[Nat.mul_one,Nat.mod_eq_of_lt a.2])
 mul_add a b c:=Bi (by show a.1*((b.1+c.1)%p)%p=(a.1*b.1%p+a.1*c.1%p)%p;rw[Nat.mul_mod_mod,Nat.mul_add,Nat.mod_add_mod,Nat.add_mod_mod])
 mul_inv a ha:=Bi (by
  show a.1*IW p a.1%p=1;refine MJ hp fun hd=>ha (Bi ?_);show a.1=0;exact Nat.eq_zero_of_dvd_of_lt hd a.2)
 one_ne h:=by
  have:=congrArg Subtype.val h;exact absurd this (by show ¬(1=0);omega)
theorem A2u(h2:p%2=1)(a:Zp p)(ha:a≠(Bv hp).zero):(Bv hp).add a a≠(Bv hp).zero:=fun h=>by
 have h1:(a.1+a.1)%p=0:=congrArg Subtype.val h;have hd:p∣2*a.1:=by rw[show 2*a.1=a.1+a.1 by omega];exact Nat.dvd_of_mod_eq_zero h1
 rcases hp.dvd_mul hd with h3 | h3
 ·have:=Nat.le_of_dvd (by decide) h3
  have:=hp.1;omega
 ·exact ha (Bi (Nat.eq_zero_of_dvd_of_lt h3 a.2))
theorem A0a{b:Zp p}(h3:(p - 1)%3=0)(hb:b.1≠0)(he:(p - 1) / 3<2^260)(hn:pwr p (p - b.1) ((p - 1) / 3)≠1)(x:Zp p):cub (Bv hp).ops x b≠(Bv hp).zero:=fun h=>by
 have h1:(x.1*x.1%p*x.1%p+b.1)%p=0:=congrArg Subtype.val h;rw[Nat.mod_mul_mod,Nat.mod_add_mod]at h1;have hbl:=b.2;have hx:¬p∣x.1:=fun hd=>by
  rw[Nat.eq_zero_of_dvd_of_lt hd x.2,Nat.mul_zero,Nat.zero_add,Nat.mod_eq_of_lt hbl]at h1;exact hb h1
 have h2:(x.1*x.1*x.1)%p=(p - b.1)%p:=by
  have e:(x.1*x.1*x.1+b.1+(p - b.1))%p=(0+(p - b.1))%p:=by rw[Nat.add_mod,h1,Nat.zero_add,Nat.zero_add,Nat.mod_mod]
  rw[show x.1*x.1*x.1+b.1+(p - b.1)=x.1*x.1*x.1+p by omega,Nat.add_mod_right,Nat.zero_add]at e;exact e
 apply hn;rw[Ms p _ _ he,Nat.pow_mod,<- h2,<- Nat.pow_mod,show x.1*x.1*x.1=x.1^3 by rw[Nat.pow_succ,Nat.pow_two],<- Nat.pow_mul,Nat.mul_div_cancel' (Nat.dvd_of_mod_eq_zero h3)];exact Mr hp x.1 hx
end
def pK:Nat:=115792089237316195423570985008687907853269984665640564039457584007908834671663
def gxK:Nat:=0x79be667ef9dcbbac55a06295ce870b07029bfcdb2dce28d959f2815b16f81798
def gyK:Nat:=0x483ada7726a3c4655da4fbfc0e1108a8fd17b448a68554199c47d08ffb10d4b8
theorem prK:Pr pK:=Au
abbrev KK:=Zp pK
def FK:CField KK:=Bv prK
def E5:KK:=⟨7,by decide⟩
def GK:Pt KK:=.some ⟨gxK,by decide⟩ ⟨gyK,by decide⟩
theorem Fe:Curve FK E5:=⟨A0a prK (by decide +kernel) (by decide +kernel) (by decide +kernel) (by decide +kernel),A2u prK (by decide +kernel)⟩
section
variable {K:Type} {F:CField K} {b:K}
def Jac(F:CField K)(T:K × K × K):Pt K->Prop
 | .none=>T.2.2=F.zero
 | .some x y=>T.2.2≠F.zero/\T.1=F.mul x (F.mul T.2.2 T.2.2)/\T.2.1=F.mul y (F.mul (F.mul T.2.2 T.2.2) T.2.2)
def A3G(C:CRing K)(T:K × K × K):K × K × K :=
 let rise:=C.add T.2.1 T.2.1
 let half:=C.mul T.2.1 rise
 let square:=C.add half half
 let middle:=C.mul T.1 square
 let xx:=C.mul T.1 T.1
 let slope:=C.add (C.add xx xx) xx
 let x:=C.sub (C.mul slope slope) (C.add middle middle)
 (x,C.sub (C.mul slope (C.sub middle x)) (C.mul half square),C.mul rise T.2.2)
def Kl[DecidableEq K](F:CField K)(T:K × K × K):K × K × K:=if T.2.2=F.zero then T else A3G F.toCRing T
def Af(C:CRing K)(T:K × K × K)(x2:K):K:=C.sub (C.mul x2 (C.mul T.2.2 T.2.2)) T.1
def jup(C:CRing K)(T:K × K × K)(y2:K):K:=C.sub (C.mul y2 (C.mul (C.mul T.2.2 T.2.2) T.2.2)) T.2.1
def A3H(C:CRing K)(T:K × K × K)(x2 y2:K):K × K × K :=
 let across:=Af C T x2
 let up:=jup C T y2
 let square:=C.mul across across
 let cube:=C.mul square across
 let middle:=C.mul T.1 square
 let x:=C.sub (C.sub (C.mul up up) cube) (C.add middle middle)
 (x,C.sub (C.mul up (C.sub middle x)) (C.mul T.2.1 cube),C.mul T.2.2 across)
def A0M[DecidableEq K](F:CField K)(T:K × K × K):Pt K->K × K × K
 | .none=>T
 | .some x2 y2 =>
  if T.2.2=F.zero then (x2,y2,F.one)
  else if Af F.toCRing T x2=F.zero/\jup F.toCRing T y2=F.zero then Kl F T
  else A3H F.toCRing T x2 y2
theorem jd1(C:CRing K)(x z:K):(C.add (C.add (C.mul (C.mul x (C.mul z z)) (C.mul x (C.mul z z))) (C.mul (C.mul x (C.mul z z)) (C.mul x (C.mul z z)))) (C.mul (C.mul x (C.mul z z)) (C.mul x (C.mul z z))))=(C.mul (C.add (C.mul x x) (C.add (C.mul x x) (C.mul x x))) (C.mul (C.mul z z) (C.mul z z))):=BP C (lets x z C.zero C.zero) (.add (.add (.mul (.mul (.v 0) (.mul (.v 1) (.v 1))) (.mul (.v 0) (.mul (.v 1) (.v 1)))) (.mul (.mul (.v 0) (.mul (.v 1) (.v 1))) (.mul (.v 0) (.mul (.v 1) (.v 1))))) (.mul (.mul (.v 0) (.mul (.v 1) (.v 1))) (.mul (.v 0) (.mul (.v 1) (.v 1))))) (.mul (.add (.mul (.v 0) (.v 0)) (.add (.mul (.v 0) (.v 0)) (.mul (.v 0) (.v 0)))) (.mul (.mul (.v 1) (.v 1)) (.mul (.v 1) (.v 1)))) (by decide +kernel)
theorem jd2(C:CRing K)(s y z:K):(C.mul (C.mul s (C.add y y)) (C.mul (C.mul z z) (C.mul z z)))=(C.mul s (C.mul (C.add (C.mul y (C.mul (C.mul z z) z)) (C.mul y (C.mul (C.mul z z) z))) z)):=BP C (lets s y z C.zero) (.mul (.mul (.v 0) (.add (.v 1) (.v 1))) (.mul (.mul (.v 2) (.v 2)) (.mul (.v 2) (.v 2)))) (.mul (.v 0) (.mul (.add (.mul (.v 1) (.mul (.mul (.v 2) (.v 2)) (.v 2))) (.mul (.v 1) (.mul (.mul (.v 2) (.v 2)) (.v 2)))) (.v 2))) (by decide +kernel)
theorem jd3(C:CRing K)(x y z:K):(C.mul (C.mul x (C.mul z z)) (C.add (C.mul (C.mul y (C.mul (C.mul z z) z)) (C.add (C.mul y (C.mul (C.mul z z) z)) (C.mul y (C.mul (C.mul z z) z)))) (C.mul (C.mul y (C.mul (C.mul z z) z)) (C.add (C.mul y (C.mul (C.mul z z) z)) (C.mul y (C.mul (C.mul z z) z))))))=(C.mul x (C.mul (C.mul (C.add (C.mul y (C.mul (C.mul z z) z)) (C.mul y (C.mul (C.mul z z) z))) z) (C.mul (C.add (C.mul y (C.mul (C.mul z z) z)) (C.mul y (C.mul (C.mul z z) z))) z))):=BP C (lets x y z C.zero) (.mul (.mul (.v 0) (.mul (.v 2) (.v 2))) (.add (.mul (.mul (.v 1) (.mul (.mul (.v 2) (.v 2)) (.v 2))) (.add (.mul (.v 1) (.mul (.mul (.v 2) (.v 2)) (.v 2))) (.mul (.v 1) (.mul (.mul (.v 2) (.v 2)) (.v 2))))) (.mul (.mul (.v 1) (.mul (.mul (.v 2) (.v 2)) (.v 2))) (.add (.mul (.v 1) (.mul (.mul (.v 2) (.v 2)) (.v 2))) (.mul (.v 1) (.mul (.mul (.v 2) (.v 2)) (.v 2))))))) (.mul (.v 0) (.mul (.mul (.add (.mul (.v 1) (.mul (.mul (.v 2) (.v 2)) (.v 2))) (.mul (.v 1) (.mul (.mul (.v 2) (.v 2)) (.v 2)))) (.v 2)) (.mul (.add (.mul (.v 1) (.mul (.mul (.v 2) (.v 2)) (.v 2))) (.mul (.v 1) (.mul (.mul (.v 2) (.v 2)) (.v 2)))) (.v 2)))) (by decide +kernel)
theorem A48(C:CRing K)(v:K):(C.mul (C.mul v (C.add v v)) (C.add (C.mul v (C.add v v)) (C.mul v (C.add v v))))=(C.mul v (C.mul (C.mul (C.add v v) (C.add v v)) (C.add v v))):=BP C (lets v C.zero C.zero C.zero) (.mul (.mul (.v 0) (.add (.v 0) (.v 0))) (.add (.mul (.v 0) (.add (.v 0) (.v 0))) (.mul (.v 0) (.add (.v 0) (.v 0))))) (.mul (.v 0) (.mul (.mul (.add (.v 0) (.v 0)) (.add (.v 0) (.v 0))) (.add (.v 0) (.v 0)))) (by decide +kernel)
theorem A49(C:CRing K)(y z r:K):(C.mul (C.mul y (C.mul (C.mul z z) z)) (C.mul (C.mul r r) r))=(C.mul y (C.mul (C.mul (C.mul r z) (C.mul r z)) (C.mul r z))):=BP C (lets y z r C.zero) (.mul (.mul (.v 0) (.mul (.mul (.v 1) (.v 1)) (.v 1))) (.mul (.mul (.v 2) (.v 2)) (.v 2))) (.mul (.v 0) (.mul (.mul (.mul (.v 2) (.v 1)) (.mul (.v 2) (.v 1))) (.mul (.v 2) (.v 1)))) (by decide +kernel)
theorem j2x(C:CRing K)(x D S:K):(C.sub (C.mul S D) (C.add (C.mul x D) (C.mul x D)))=(C.mul (C.sub (C.sub S x) x) D):=BP C (lets x D S C.zero) (.sub (.mul (.v 2) (.v 1)) (.add (.mul (.v 0) (.v 1)) (.mul (.v 0) (.v 1)))) (.mul (.sub (.sub (.v 2) (.v 0)) (.v 0)) (.v 1)) (by decide +kernel)
theorem ja1(C:CRing K)(x1 x2 z:K):(C.sub (C.mul x2 (C.mul z z)) (C.mul x1 (C.mul z z)))=(C.mul (C.sub x2 x1) (C.mul z z)):=BP C (lets x1 x2 z C.zero) (.sub (.mul (.v 1) (.mul (.v 2) (.v 2))) (.mul (.v 0) (.mul (.v 2) (.v 2)))) (.mul (.sub (.v 1) (.v 0)) (.mul (.v 2) (.v 2))) (by decide +kernel)
theorem ja2(C:CRing K)(x1 x2 z:K):(C.sub (C.mul x2 (C.mul (C.mul z z) z)) (C.mul x1 (C.mul (C.mul z z) z)))=(C.mul (C.sub x2 x1) (C.mul (C.mul z z) z)):=BP C (lets x1 x2 z C.zero) (.sub (.mul (.v 1) (.mul (.mul (.v 2) (.v 2)) (.v 2))) (.mul (.v 0) (.mul (.mul (.v 2) (.v 2)) (.v 2)))) (.mul (.sub (.v 1) (.v 0)) (.mul (.mul (.v 2) (.v 2)) (.v 2))) (by decide +kernel)
theorem ja3(C:CRing K)(s d z:K):(C.mul (C.mul s d) (C.mul (C.mul z z) z))=(C.mul s (C.mul z (C.mul d (C.mul z z)))):=BP C (lets s d z C.zero) (.mul (.mul (.v 0) (.v 1)) (.mul (.mul (.v 2) (.v 2)) (.v 2))) (.mul (.v 0) (.mul (.v 2) (.mul (.v 1) (.mul (.v 2) (.v 2))))) (by decide +kernel)
theorem ja4(C:CRing K)(x a z:K):(C.mul (C.mul x (C.mul z z)) (C.mul a a))=(C.mul x (C.mul (C.mul z a) (C.mul z a))):=BP C (lets x a z C.zero) (.mul (.mul (.v 0) (.mul (.v 2) (.v 2))) (.mul (.v 1) (.v 1))) (.mul (.v 0) (.mul (.mul (.v 2) (.v 1)) (.mul (.v 2) (.v 1)))) (by decide +kernel)
theorem ja5(C:CRing K)(x a z:K):(C.mul (C.mul x (C.mul (C.mul z z) z)) (C.mul (C.mul a a) a))=(C.mul x (C.mul (C.mul (C.mul z a) (C.mul z a)) (C.mul z a))):=BP C (lets x a z C.zero) (.mul (.mul (.v 0) (.mul (.mul (.v 2) (.v 2)) (.v 2))) (.mul (.mul (.v 1) (.v 1)) (.v 1))) (.mul (.v 0) (.mul (.mul (.mul (.v 2) (.v 1)) (.mul (.v 2) (.v 1))) (.mul (.v 2) (.v 1)))) (by decide +kernel)
theorem ja6(C:CRing K)(d z:K):(C.mul (C.mul (C.mul d (C.mul z z)) (C.mul d (C.mul z z))) (C.mul d (C.mul z z)))=(C.mul d (C.mul (C.mul z (C.mul d (C.mul z z))) (C.mul z (C.mul d (C.mul z z))))):=BP C (lets d z C.zero C.zero) (.mul (.mul (.mul (.v 0) (.mul (.v 1) (.v 1))) (.mul (.v 0) (.mul (.v 1) (.v 1)))) (.mul (.v 0) (.mul (.v 1) (.v 1)))) (.mul (.v 0) (.mul (.mul (.v 1) (.mul (.v 0) (.mul (.v 1) (.v 1)))) (.mul (.v 1) (.mul (.v 0) (.mul (.v 1) (.v 1)))))) (by decide +kernel)
theorem ja7(C:CRing K)(S x1 x2 D:K):(C.sub (C.sub (C.mul S D) (C.mul (C.sub x2 x1) D)) (C.add (C.mul x1 D) (C.mul x1 D)))=(C.mul (C.sub (C.sub S x1) x2) D):=BP C (lets S x1 x2 D) (.sub (.sub (.mul (.v 0) (.v 3)) (.mul (.sub (.v 2) (.v 1)) (.v 3))) (.add (.mul (.v 1) (.v 3)) (.mul (.v 1) (.v 3)))) (.mul (.sub (.sub (.v 0) (.v 1)) (.v 2)) (.v 3)) (by decide +kernel)
theorem jsq(C:CRing K)(s D:K):(C.mul (C.mul s D) (C.mul s D))=(C.mul (C.mul s s) (C.mul D D)):=BP C (lets s D C.zero C.zero) (.mul (.mul (.v 0) (.v 1)) (.mul (.v 0) (.v 1))) (.mul (.mul (.v 0) (.v 0)) (.mul (.v 1) (.v 1))) (by decide +kernel)
theorem jp1(C:CRing K)(x z i:K):(C.mul (C.mul x (C.mul z z)) (C.mul i i))=(C.mul x (C.mul (C.mul z i) (C.mul z i))):=BP C (lets x z i C.zero) (.mul (.mul (.v 0) (.mul (.v 1) (.v 1))) (.mul (.v 2) (.v 2))) (.mul (.v 0) (.mul (.mul (.v 1) (.v 2)) (.mul (.v 1) (.v 2)))) (by decide +kernel)
theorem jp2(C:CRing K)(x z i:K):(C.mul (C.mul x (C.mul (C.mul z z) z)) (C.mul (C.mul i i) i))=(C.mul x (C.mul (C.mul (C.mul z i) (C.mul z i)) (C.mul z i))):=BP C (lets x z i C.zero) (.mul (.mul (.v 0) (.mul (.mul (.v 1) (.v 1)) (.v 1))) (.mul (.mul (.v 2) (.v 2)) (.v 2))) (.mul (.v 0) (.mul (.mul (.mul (.v 1) (.v 2)) (.mul (.v 1) (.v 2))) (.mul (.v 1) (.v 2)))) (by decide +kernel)
theorem A0b[DecidableEq K](h:Curve F b){T:K × K × K}{x y:K}(hp:(Pt.some x y).On F b)(hT:Jac F T (.some x y)):Jac F (A3G F.toCRing T) (Ba F (.some x y) (.some x y)):=by
 have hy:=WO h.root hp;obtain⟨X,Y,z⟩:=T;obtain⟨hz,hX,hY⟩:=hT;dsimp only at hz hX hY;have hy2:=h.two y hy;have hs:=F.div_mul (F.add (F.mul x x) (F.add (F.mul x x) (F.mul x x))) hy2;have ep:Ba F (.some x y) (.some x y)=EI F x y x (F.mul (F.add (F.mul x x) (F.add (F.mul x x) (F.mul x x))) (F.inv (F.add y y))):=by
  show(if x=x then (if y≠y\/y=F.zero then _ else _)else _)=_;rw[if_pos rfl,if_neg (by rintro(e | e);exact e rfl;exact hy e)]
 rw[ep];generalize F.mul (F.add (F.mul x x) (F.add (F.mul x x) (F.mul x x))) (F.inv (F.add y y))=s at hs |-
 have hzz:=F.mul_ne hz hz;have hY0:Y≠F.zero:=by rw[hY];exact F.mul_ne hy (F.mul_ne hzz hz)
 -- the parts
 have e1:F.add (F.add (F.mul X X) (F.mul X X)) (F.mul X X)=F.mul s (F.mul (F.add Y Y) z):=by
  rw[hX,hY,jd1,<- hs,jd2]
 have e2:F.mul X (F.add (F.mul Y (F.add Y Y)) (F.mul Y (F.add Y Y)))=F.mul x (F.mul (F.mul (F.add Y Y) z) (F.mul (F.add Y Y) z)):=by
  rw[hX,hY,jd3]
 have e3:F.mul (F.mul Y (F.add Y Y)) (F.add (F.mul Y (F.add Y Y)) (F.mul Y (F.add Y Y)))=F.mul y (F.mul (F.mul (F.mul (F.add Y Y) z) (F.mul (F.add Y Y) z)) (F.mul (F.add Y Y) z)):=by
  rw[A48];generalize F.add Y Y=r;rw[hY,A49]
 have hZ:F.mul (F.add Y Y) z≠F.zero:=F.mul_ne (h.two Y hY0) hz;refine⟨hZ,?_,?_⟩
 ·show F.sub (F.mul (F.add (F.add (F.mul X X) (F.mul X X)) (F.mul X X)) (F.add (F.add (F.mul X X) (F.mul X X)) (F.mul X X))) (F.add (F.mul X (F.add (F.mul Y (F.add Y Y)) (F.mul Y (F.add Y Y)))) (F.mul X (F.add (F.mul Y (F.add Y Y)) (F.mul Y (F.add Y Y)))))=F.mul _ (F.mul (F.mul (F.add Y Y) z) (F.mul (F.add Y Y) z))
  rw[e1,e2,jsq F.toCRing s,j2x]
 ·show F.sub (F.mul (F.add (F.add (F.mul X X) (F.mul X X)) (F.mul X X)) (F.sub (F.mul X (F.add (F.mul Y (F.add Y Y)) (F.mul Y (F.add Y Y)))) (F.sub (F.mul (F.add (F.add (F.mul X X) (F.mul X X)) (F.mul X X)) (F.add (F.add (F.mul X X) (F.mul X X)) (F.mul X X))) (F.add (F.mul X (F.add (F.mul Y (F.add Y Y)) (F.mul Y (F.add Y Y)))) (F.mul X (F.add (F.mul Y (F.add Y Y)) (F.mul Y (F.add Y Y)))))))) (F.mul (F.mul Y (F.add Y Y)) (F.add (F.mul Y (F.add Y Y)) (F.mul Y (F.add Y Y))))=F.mul _ (F.mul (F.mul (F.mul (F.add Y Y) z) (F.mul (F.add Y Y) z)) (F.mul (F.add Y Y) z))
  rw[e1,e2,e3,jsq F.toCRing s,j2x,r5,r4]
theorem Le[DecidableEq K](h:Curve F b){T:K × K × K}{p:Pt K}(hp:p.On F b)(hT:Jac F T p):Jac F (Kl F T) (Ba F p p):=by
 cases p with
 | none =>
  have e:T.2.2=F.zero:=hT;show Jac F (if T.2.2=F.zero then T else _) .none;rw[if_pos e];exact e
 | some x y =>
  have e:T.2.2≠F.zero:=hT.1;have g:=A0b h hp hT;show Jac F (if T.2.2=F.zero then T else _) _;rw[if_neg e];exact g
theorem Km[DecidableEq K](h:Curve F b){T:K × K × K}{p q:Pt K}(hp:p.On F b)(hT:Jac F T p):Jac F (A0M F T q) (Ba F p q):=by
 cases q with
 | none=>rw[Cw];exact hT
 | some x2 y2 =>
  cases p with
  | none =>
   have e:T.2.2=F.zero:=hT;show Jac F (if T.2.2=F.zero then _ else _) (.some x2 y2);rw[if_pos e];refine⟨F.one_ne,?_,?_⟩
   ·show x2=F.mul x2 (F.mul F.one F.one)
    rw[F.mul_one,F.mul_one]
   ·show y2=F.mul y2 (F.mul (F.mul F.one F.one) F.one)
    rw[F.mul_one,F.mul_one,F.mul_one]
  | some x y =>
   have hT':=hT;obtain⟨X,Y,z⟩:=T;obtain⟨hz,hX,hY⟩:=hT;dsimp only at hz hX hY;have hzz:=F.mul_ne hz hz;have ha:Af F.toCRing (X,Y,z) x2=F.mul (F.sub x2 x) (F.mul z z):=by
    show F.sub (F.mul x2 (F.mul z z)) X=_;rw[hX,ja1]
   have hu:jup F.toCRing (X,Y,z) y2=F.mul (F.sub y2 y) (F.mul (F.mul z z) z):=by
    show F.sub (F.mul y2 (F.mul (F.mul z z) z)) Y=_;rw[hY,ja2]
   have sub_self:∀ a:K,F.sub a a=F.zero:=fun a=>F.add_neg a;show Jac F (if z=F.zero then _ else if Af F.toCRing (X,Y,z) x2=F.zero/\jup F.toCRing (X,Y,z) y2=F.zero then _ else _) (if x=x2 then _ else _);rw[if_neg hz];by_cases ex:x=x2
   ·subst ex
    by_cases ey:y=y2
    ·subst ey
     rw[if_pos ⟨by rw[ha,sub_self,F.zero_mul],by rw[hu,sub_self,F.zero_mul]⟩];exact Le h hp hT'
    ·rw[if_neg (show ¬(Af F.toCRing (X,Y,z) x=F.zero/\jup F.toCRing (X,Y,z) y2=F.zero) from fun e=>ey (F.eq_of_sub (F.left_zero (F.mul_ne hzz hz) (hu.symm.trans e.2))).symm),if_pos rfl,if_pos (show y≠y2\/y=F.zero from .inl ey)]
     show F.mul z (Af F.toCRing (X,Y,z) x)=F.zero;rw[ha,sub_self,F.zero_mul,F.mul_comm,F.zero_mul]
   ·have hd:=WN F.toCRing ex
    rw[if_neg ex,if_neg fun e=>ex (F.eq_of_sub (F.left_zero hzz (ha.symm.trans e.1))).symm];have hs:=F.div_mul (F.sub y2 y) hd;generalize F.mul (F.sub y2 y) (F.inv (F.sub x2 x))=s at hs |-
    have hA:Af F.toCRing (X,Y,z) x2≠F.zero:=by rw[ha];exact F.mul_ne hd hzz
    have e1:jup F.toCRing (X,Y,z) y2=F.mul s (F.mul z (Af F.toCRing (X,Y,z) x2)):=by
     rw[hu,ha,<- hs,ja3]
    have e4:F.mul (F.mul (Af F.toCRing (X,Y,z) x2) (Af F.toCRing (X,Y,z) x2)) (Af F.toCRing (X,Y,z) x2)=F.mul (F.sub x2 x) (F.mul (F.mul z (Af F.toCRing (X,Y,z) x2)) (F.mul z (Af F.toCRing (X,Y,z) x2))):=by
     rw[ha,ja6]
    have e2:F.mul X (F.mul (Af F.toCRing (X,Y,z) x2) (Af F.toCRing (X,Y,z) x2))=F.mul x (F.mul (F.mul z (Af F.toCRing (X,Y,z) x2)) (F.mul z (Af F.toCRing (X,Y,z) x2))):=by
     generalize Af F.toCRing (X,Y,z) x2=a;rw[hX,ja4]
    have e3:F.mul Y (F.mul (F.mul (Af F.toCRing (X,Y,z) x2) (Af F.toCRing (X,Y,z) x2)) (Af F.toCRing (X,Y,z) x2))=F.mul y (F.mul (F.mul (F.mul z (Af F.toCRing (X,Y,z) x2)) (F.mul z (Af F.toCRing (X,Y,z) x2))) (F.mul z (Af F.toCRing (X,Y,z) x2))):=by
     generalize Af F.toCRing (X,Y,z) x2=a;rw[hY,ja5]
    have hx:F.sub (F.sub (F.mul (jup F.toCRing (X,Y,z) y2) (jup F.toCRing (X,Y,z) y2)) (F.mul (F.mul (Af F.toCRing (X,Y,z) x2) (Af F.toCRing (X,Y,z) x2)) (Af F.toCRing (X,Y,z) x2))) (F.add (F.mul X (F.mul (Af F.toCRing (X,Y,z) x2) (Af F.toCRing (X,Y,z) x2))) (F.mul X (F.mul (Af F.toCRing (X,Y,z) x2) (Af F.toCRing (X,Y,z) x2))))=F.mul (F.sub (F.sub (F.mul s s) x) x2) (F.mul (F.mul z (Af F.toCRing (X,Y,z) x2)) (F.mul z (Af F.toCRing (X,Y,z) x2))):=by
     rw[e1,e2,e4,jsq F.toCRing s,ja7]
    refine⟨F.mul_ne hz hA,hx,?_⟩;show F.sub (F.mul (jup F.toCRing (X,Y,z) y2) (F.sub (F.mul X (F.mul (Af F.toCRing (X,Y,z) x2) (Af F.toCRing (X,Y,z) x2))) (F.sub (F.sub (F.mul (jup F.toCRing (X,Y,z) y2) (jup F.toCRing (X,Y,z) y2)) (F.mul (F.mul (Af F.toCRing (X,Y,z) x2) (Af F.toCRing (X,Y,z) x2)) (Af F.toCRing (X,Y,z) x2))) (F.add (F.mul X (F.mul (Af F.toCRing (X,Y,z) x2) (Af F.toCRing (X,Y,z) x2))) (F.mul X (F.mul (Af F.toCRing (X,Y,z) x2) (Af F.toCRing (X,Y,z) x2))))))) (F.mul Y (F.mul (F.mul (Af F.toCRing (X,Y,z) x2) (Af F.toCRing (X,Y,z) x2)) (Af F.toCRing (X,Y,z) x2)))=F.mul _ (F.mul (F.mul (F.mul z (Af F.toCRing (X,Y,z) x2)) (F.mul z (Af F.toCRing (X,Y,z) x2))) (F.mul z (Af F.toCRing (X,Y,z) x2)));rw[hx,e1,e2,e3,r5,r4]
theorem TQ{T:K × K × K}{p:Pt K}{i:K}(hT:Jac F T p)(hi:F.mul T.2.2 i=F.one):p=.some (F.mul T.1 (F.mul i i)) (F.mul T.2.1 (F.mul (F.mul i i) i)):=by
 obtain⟨X,Y,z⟩:=T;dsimp only at hi |-
 cases p with
 | none =>
  have e:z=F.zero:=hT;rw[e,F.zero_mul]at hi;exact absurd hi.symm F.one_ne
 | some x y =>
  obtain⟨hz,hX,hY⟩:=hT;dsimp only at hz hX hY;rw[hX,hY,jp1,jp2,hi,F.mul_one,F.mul_one,F.mul_one,F.mul_one]
end
section
variable {p:Nat} (hp:Pr p)
theorem A2v(a b:Zp p):(a.1+(p - b.1))%p=((Bv hp).sub a b).1:=by
 show _=(a.1+(p - b.1)%p)%p;rw[Nat.add_mod_mod]
theorem A3I(a b:Zp p):(a.1%p+(p - b.1%p))%p=((Bv hp).sub a b).1:=by
 rw[Nat.mod_eq_of_lt a.2,Nat.mod_eq_of_lt b.2,A2v]
theorem A3J(a:Zp p):(0%p+(p - a.1%p))%p=((Bv hp).neg a).1:=by
 show _=(p - a.1)%p;rw[Nat.mod_eq_of_lt a.2,Nat.zero_mod,Nat.zero_add]
theorem A2w(a:Zp p):(0+(p - a.1))%p=((Bv hp).neg a).1:=by
 show _=(p - a.1)%p;rw[Nat.zero_add]
theorem Xe(a:Zp p):a.1^(p - 2)%p=((Bv hp).inv a).1:=rfl
theorem Lf(a:Zp p):a.1*(a.1^(p - 2)%p)%p=1↔a≠(Bv hp).zero:=by
 refine(Xd (n:=a.1) hp).trans ⟨fun h e=>h ?_,fun h hd=>h (Bi (Nat.eq_zero_of_dvd_of_lt hd a.2))⟩;rw[e];exact Nat.dvd_zero p
theorem Qb{a i:Zp p}(h:(Bv hp).mul a i=(Bv hp).one):(Bv hp).inv a=i:=Bi (TP hp (congrArg Subtype.val h) i.2)
end
theorem A4a(x y:KK):y.1*y.1%pK=(x.1*x.1%pK*x.1%pK+7)%pK↔(Pt.some x y).On FK E5:=⟨fun h=>Bi h,fun h=>congrArg Subtype.val h⟩
def A2x:Nat:=(gxK*gxK%pK*gxK%pK+7)%pK
theorem A2y:A2x^(pK / 2^2+1)%pK=gyK:=by
 rw[<- Ms pK A2x (pK / 2^2+1) (by decide +kernel)];decide +kernel
open Go.RowKit
def MK(m:Nat):Ops Nat:=⟨fun a b=>(a+b)%m,fun a b=>a*b%m,fun a b=>(a%m+(m - b%m))%m⟩
theorem A0N:pK<2^256:=by decide
theorem Ru:Hom FK.ops (MK pK) Subtype.val:=⟨fun _ _=>rfl,fun _ _=>rfl,fun a b=>(A3I prK a b).symm⟩
section
variable {R S:Type}
def tw3(O:Ops R)(T:R × R × R):R × R × R :=
 let rise:=O.add T.2.1 T.2.1
 let half:=O.mul T.2.1 rise
 let square:=O.add half half
 let middle:=O.mul T.1 square
 let xx:=O.mul T.1 T.1
 let slope:=O.add (O.add xx xx) xx
 let x:=O.sub (O.mul slope slope) (O.add middle middle)
 (x,O.sub (O.mul slope (O.sub middle x)) (O.mul half square),O.mul rise T.2.2)
def ac3(O:Ops R)(T:R × R × R)(x:R):R:=O.sub (O.mul x (O.mul T.2.2 T.2.2)) T.1
def up3(O:Ops R)(T:R × R × R)(y:R):R:=O.sub (O.mul y (O.mul (O.mul T.2.2 T.2.2) T.2.2)) T.2.1
def ad3(O:Ops R)(T:R × R × R)(across up:R):R × R × R :=
 let square:=O.mul across across
 let cube:=O.mul square across
 let middle:=O.mul T.1 square
 let x:=O.sub (O.sub (O.mul up up) cube) (O.add middle middle)
 (x,O.sub (O.mul up (O.sub middle x)) (O.mul T.2.1 cube),O.mul T.2.2 across)
variable {O:Ops R} {P:Ops S} {f:R->S}
theorem A0c(h:Hom O P f)(T:R × R × R):DC f (tw3 O T)=tw3 P (DC f T):=by simp only[tw3,DC,h.add,h.mul,h.sub]
theorem A0d(h:Hom O P f)(T:R × R × R)(x:R):f (ac3 O T x)=ac3 P (DC f T) (f x):=by simp only[ac3,DC,h.mul,h.sub]
theorem A0e(h:Hom O P f)(T:R × R × R)(y:R):f (up3 O T y)=up3 P (DC f T) (f y):=by simp only[up3,DC,h.mul,h.sub]
theorem A0f(h:Hom O P f)(T:R × R × R)(a u:R):DC f (ad3 O T a u)=ad3 P (DC f T) (f a) (f u):=by simp only[ad3,DC,h.add,h.mul,h.sub]
end
theorem A0g(m:Nat)(T:Nat × Nat × Nat):gtw m T=if T.2.2=0 then T else tw3 (MK m) T:=rfl
theorem Rv(m:Nat)(T:Nat × Nat × Nat)(x y:Nat)(n:Bool):gpl m T x y n=if n=true then T else if T.2.2=0 then (x,y,1)else if ac3 (MK m) T x=0/\up3 (MK m) T y=0 then gtw m T else ad3 (MK m) T (ac3 (MK m) T x) (up3 (MK m) T y):=rfl
abbrev nv(S:KK × KK × KK):Nat × Nat × Nat:=DC Subtype.val S
def rel(p:Nat × Nat × Bool):Pt KK->Prop
 | .none=>p.2.2=true
 | .some a b=>p=(a.1,b.1,false)
def canon:Pt KK->Nat × Nat × Bool
 | .none=>(0,0,true)
 | .some a b=>(a.1,b.1,false)
def Hy(P:Pt KK):Array Value:=pc (canon P).1 (canon P).2.1 (canon P).2.2
theorem Xf(P:Pt KK):(canon P).1<2^256/\(canon P).2.1<2^256:=by
 cases P with
 | none=>exact⟨by show(0:Nat)<_;omega,by show(0:Nat)<_;omega⟩
 | some a b=>exact⟨Nat.lt_trans a.2 A0N,Nat.lt_trans b.2 A0N⟩
theorem Rw(S:KK × KK × KK):gtw pK (nv S)=nv (Kl FK S):=by
 rw[A0g];unfold Kl;by_cases h:S.2.2=FK.zero
 ·rw[if_pos (show(nv S).2.2=0 from congrArg Subtype.val h),if_pos h]
 ·rw[if_neg (show ¬(nv S).2.2=0 from fun e=>h (Bi e)),if_neg h]
  exact(A0c Ru S).symm
theorem ML(S:KK × KK × KK){p:Nat × Nat × Bool}{Q:Pt KK}(h:rel p Q):gpl pK (nv S) p.1 p.2.1 p.2.2=nv (A0M FK S Q):=by
 cases Q with
 | none =>
  rw[Rv,if_pos (show p.2.2=true from h)];rfl
 | some a b =>
  obtain rfl:p=(a.1,b.1,false):=h;rw[Rv,if_neg (show ¬((a.1,b.1,false):Nat × Nat × Bool).2.2=true from Bool.false_ne_true)];show _=nv (if S.2.2=FK.zero then (a,b,FK.one)else if Af FK.toCRing S a=FK.zero/\jup FK.toCRing S b=FK.zero then Kl FK S else A3H FK.toCRing S a b);by_cases hz:S.2.2=FK.zero
  ·rw[if_pos (show(nv S).2.2=0 from congrArg Subtype.val hz),if_pos hz]
   rfl
  ·rw[if_neg (show ¬(nv S).2.2=0 from fun e=>hz (Bi e)),if_neg hz]
   have ea:ac3 (MK pK) (nv S) a.1=(Af FK.toCRing S a).1:=(A0d Ru S a).symm;have eu:up3 (MK pK) (nv S) b.1=(jup FK.toCRing S b).1:=(A0e Ru S b).symm;dsimp only;rw[ea,eu];by_cases hc:Af FK.toCRing S a=FK.zero/\jup FK.toCRing S b=FK.zero
   ·rw[if_pos hc,if_pos ⟨congrArg Subtype.val hc.1,congrArg Subtype.val hc.2⟩]
    exact Rw S
   ·rw[if_neg hc,if_neg (fun e=>hc ⟨Bi e.1,Bi e.2⟩)]
    exact(A0f Ru S _ _).symm
theorem A2z(m a b c i:Nat)(hi:c^(m - 2)%m=i):gpo m (a,b,c)=if c*i%m=1 then pc (a*(i*i%m)%m) (b*(i*i%m*i%m)%m) false else pc 0 0 true:=by
 subst hi;rfl
theorem Rx{S:KK × KK × KK}{P:Pt KK}(hT:Jac FK S P):gpo pK (nv S)=Hy P:=by
 obtain⟨X,Y,Z⟩:=S;refine(A2z pK X.1 Y.1 Z.1 _ (Xe prK Z)).trans ?_;by_cases h:Z=FK.zero
 ·have hn:¬Z.1*((Bv prK).inv Z).1%pK=1:=fun e=>(Lf prK Z).1 (by rw[Xe prK Z];exact e) h
  rw[if_neg hn];cases P with
  | none=>rfl
  | some x y=>exact absurd h hT.1
 ·have hp:Z.1*((Bv prK).inv Z).1%pK=1:=by
   have:=(Lf prK Z).2 h;rwa [Xe prK Z]at this
  rw[if_pos hp];have hi:FK.mul Z (FK.inv Z)=FK.one:=FK.mul_inv _ h;rw[TQ (T:=(X,Y,Z)) hT hi];show pc (X.1*((FK.inv Z).1*(FK.inv Z).1%pK)%pK) (Y.1*((FK.inv Z).1*(FK.inv Z).1%pK*(FK.inv Z).1%pK)%pK) false=_;generalize FK.inv Z=i;rfl
abbrev Xg:KK × KK × KK:=(FK.zero,FK.zero,FK.zero)
theorem Ot:Jac FK Xg .none:=rfl
theorem A0h{p q:Nat × Nat × Bool}{P Q:Pt KK}(hp:rel p P)(hq:rel q Q)(oP:P.On FK E5):gpo pK (gsm pK [p,q])=Hy (Ba FK P Q):=by
 show gpo pK (gpl pK (gpl pK (nv Xg) p.1 p.2.1 p.2.2) q.1 q.2.1 q.2.2)=_;rw[ML _ hp,ML _ hq];exact Rx (Km Fe (p:=P) oP (Km (q:=P) Fe (p:=.none) trivial Ot))
def A0i:List (Nat × Nat × Nat × Bool)->List (Nat × Pt KK)->Prop
 | [],[]=>True
 | t::l,u::L=>t.1=u.1/\rel t.2 u.2/\A0i l L
 | _,_=>False
theorem Ry{p:Nat × Nat × Bool}{P:Pt KK}(h:rel p P)(d:Nat):rel (spt pK p d) (dpt FK P d):=by
 unfold spt dpt;by_cases h1:d=1
 ·rw[if_pos h1,if_pos h1];exact h
 ·rw[if_neg h1,if_neg h1]
  by_cases h2:d=2
  ·rw[if_pos h2,if_pos h2]
   cases P with
   | none =>
    unfold gtv;rw[if_pos (show p.2.2=true from h)];rfl
   | some a b =>
    obtain rfl:p=(a.1,b.1,false):=h;unfold gtv;rw[if_neg (show ¬((a.1,b.1,false):Nat × Nat × Bool).2.2=true from Bool.false_ne_true)];show(a.1,(0%pK+(pK - b.1%pK))%pK,false)=_;rw[A3J prK b];rfl
  ·rw[if_neg h2,if_neg h2];rfl
theorem Rz(i:Nat):∀(l:List (Nat × Nat × Nat × Bool)) (L:List (Nat × Pt KK)),A0i l L->OnL FK E5 L->∀(S:KK × KK × KK) (a:Pt KK),a.On FK E5->Jac FK S a->∃ S',gin pK i l (nv S)=nv S'/\Jac FK S' ((ths L i).foldl (fun a t=>Ba FK a (dpt FK t.2 (sdg t.1))) a)
 | [],[],_,_,S,a,_,hJ=>⟨S,rfl,hJ⟩
 | t::l,u::L,h,hO,S,a,oa,hJ=>by
  have hs:=Ry h.2.1 (sdg (sth t.1 i));have hJ2:=Km (q:=dpt FK u.2 (sdg (sth t.1 i))) Fe oa hJ;have oq:=Kj (F:=FK) (b:=E5) hO.head (sdg (sth t.1 i));obtain⟨S',e,hJ'⟩:=Rz i l L h.2.2 hO.tail _ _ (CJ Fe oa oq) hJ2;refine⟨S',?_,?_⟩
  ·show gin pK i l (gpl pK (nv S) (spt pK t.2 (sdg (sth t.1 i))).1 (spt pK t.2 (sdg (sth t.1 i))).2.1 (spt pK t.2 (sdg (sth t.1 i))).2.2)=_
   rw[ML S hs];exact e
  ·rw[h.1]at hJ'
   exact hJ'
 | [],_::_,h,_,_,_,_,_=>h.elim
 | _::_,[],h,_,_,_,_,_=>h.elim
theorem RA{l:List (Nat × Nat × Nat × Bool)}{L:List (Nat × Pt KK)}(h:A0i l L)(hO:OnL FK E5 L)(hk:∀ t,t∈L->t.1<2^256):∀ s,s<=257->∃ S,gwk pK l s=nv S/\Jac FK S (tot FK (ths L (257 - s)))
 | 0,_=>⟨Xg,rfl,by rw[Nat.sub_zero,A07 hk];exact Ot⟩
 | s+1,hs=>by
  obtain⟨S,e,hJ⟩:=RA h hO hk s τ;have oT:=MF Fe (MH hO (257 - s));obtain⟨S',e',hJ'⟩:=Rz (256 - s) l L h hO _ _ (CJ Fe oT oT) (Le Fe oT hJ);refine⟨S',?_,?_⟩
  ·show gin pK (256 - s) l (gtw pK (gwk pK l s))=_
   rw[e,Rw];exact e'
  ·rw[show 257 - s=256 - s+1 by omega,TL Fe hO (256 - s)]at hJ'
   rw[show 257 - (s+1)=256 - s by omega];exact hJ'
theorem TR{l:List (Nat × Nat × Nat × Bool)}{L:List (Nat × Pt KK)}(h:A0i l L)(hO:OnL FK E5 L)(hk:∀ t,t∈L->t.1<2^256):gpo pK (gwk pK l 257)=Hy (tot FK L):=by
 obtain⟨S,e,hJ⟩:=RA h hO hk 257 (Nat.le_refl _);rw[e];rw[Nat.sub_self,WV]at hJ;exact Rx hJ
/-! The reference's. -/
/-! Which points are on the curve. -/
theorem A2A{x y:Nat}{n:Bool}(h:onB pK (x,y,n)=true):∃ P,rel (x,y,n) P/\P.On FK E5:=by
 cases n with
 | true=>exact⟨.none,rfl,trivial⟩
 | false =>
  have h2:x<pK/\y<pK/\y*y%pK=(x*x%pK*x%pK+7)%pK:=by
   unfold onB at h;exact of_decide_eq_true h
  exact⟨.some ⟨x,h2.1⟩ ⟨y,h2.2.1⟩,rfl,(A4a ⟨x,h2.1⟩ ⟨y,h2.2.1⟩).1 h2.2.2⟩
theorem MM{p:Nat × Nat × Bool}{P:Pt KK}(h:rel p P):(p.2.2=true/\P=.none)\/(p.2.2=false/\p=canon P):=by
 cases P with
 | none=>exact .inl ⟨h,rfl⟩
 | some a b=>exact .inr ⟨by rw[show p=(a.1,b.1,false) from h],h⟩
theorem TT{P Q:Pt KK}(h:canon P=canon Q):P=Q:=by
 cases P with
 | none =>
  cases Q with
  | none=>rfl
  | some a b=>exact absurd (congrArg (fun t=>t.2.2) h) (by show ¬true=false;decide)
 | some a b =>
  cases Q with
  | none=>exact absurd (congrArg (fun t=>t.2.2) h) (by show ¬false=true;decide)
  | some c d =>
   have h1:a.1=c.1:=congrArg (fun t=>t.1) h;have h2:b.1=d.1:=congrArg (fun t=>t.2.1) h;rw[Bi h1,Bi h2]
end Go.Proofs.YtphafjbajlcbnaaGreat
