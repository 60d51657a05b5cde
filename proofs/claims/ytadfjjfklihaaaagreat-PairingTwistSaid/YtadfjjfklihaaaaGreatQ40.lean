/- bailiwicklaw11.PairingTwist: the statement about it: whatever the input: true; the input reads as it did. CONDITIONS: none. (Cut to what is reached, written closely: PrNR · PrP · EcVal · TwNt · PrNI · PrNJ · PrO · PrFd · PrO2 · PrLv · PrLf · PrFi · PrTi · PairingTwist.) -/
import Derived.Test.YtadfjjfklihaaaaGreatQ38
import Derived.Test.YtadfjjfklihaaaaGreatQ39
import Derived.Test.YtadfjjfklihaaaaGreatQ28
import Derived.Test.YtadfjjfklihaaaaGreatQ36
import Derived.Test.YtadfjjfklihaaaaGreatQ20
set_option linter.all false
set_option maxRecDepth 100000
set_option maxHeartbeats 8000000
namespace Go.Proofs.YtadfjjfklihaaaaGreat
open Go.RowKit
namespace Sy
structure Sml {K:Type} (F:CField K) (v:K->N2):Prop where
 two:v (F.add F.one F.one)=(2,0)
 three:v (c3 F.toCRing)=(3,0)
 four:v (c4 F.toCRing)=(4,0)
 eight:v (c8 F.toCRing)=(8,0)
theorem twD_rl{K:Type}{v:K->N2}{q:N2 × N2 × Bool}{Q:Pt K}(hq:rl2 v q Q):twD q=cn2 v Q:=by
 unfold twD;cases Q with
 | none=>rw[show q.2.2=true from hq];rfl
 | some x y=>rw[show q=(v x,v y,false) from hq];rfl
section
variable {K:Type} [DecidableEq K] {F:CField K} {b:K} {v:K->N2} {A S M:N2->N2->N2} {I:N2->N2 × Bool}
section
variable (h:Nm2 F v A S M I)
include h
theorem inv_v{a:K}(ha:a≠F.zero):I (v a)=(v (F.inv a),true):=by
 obtain⟨i,h1,h2⟩:=h.inv a ha;have e:i=F.inv a:=F.cancel (d:=a) ha (by rw[F.mul_comm,h2,F.mul_comm,F.mul_inv a ha]);rw[h1,e]
theorem e2_v(a c:K):e2 (v a) (v c)=decide (a=c):=h.eq a c
theorem e2z_v(a:K):e2 (v a) z2=decide (a=F.zero):=eqz2_v h a
theorem rtw_v(hs:Sml F v)(T:K × K × K):rtw A S M (vJ2 v T)=vJ2 v (rdbl F.toCRing T):=by
 unfold rtw rdbl vJ2;rw[<- hs.two,<- hs.three,<- hs.four,<- hs.eight];simp only[h.add,h.sub,h.mul];rw[show F.mul (F.mul T.2.1 T.2.2) (F.add F.one F.one)=F.mul (F.add T.2.1 T.2.1) T.2.2 by rw[F.mul_add,F.mul_one,F.add_mul]]
theorem rpad_v(T:K × K × K)(x y:K):rpad A S M (vJ2 v T) (v x,v y,false)=vJ2 v (jadd F.toCRing T x y):=by
 unfold rpad jadd;rw[show(v x,v y,false).1=v x from rfl,pac2_v h];unfold vJ2 jup;simp only[h.add,h.sub,h.mul]
theorem rpl_v(hs:Sml F v)(T:K × K × K)(x y:K):rpl A S M (rtw A S M) (vJ2 v T) (v x,v y,false)=vJ2 v (rplus F T x y):=by
 unfold rpl rplus;show(bif zr2 (vJ2 v T)then _ else bif e2 (pac2 S M (vJ2 v T) (v x)) z2 then (bif e2 (pup2 S M (vJ2 v T) (v y)) z2 then rtw A S M (vJ2 v T)else zJ2)else rpad A S M (vJ2 v T) (v x,v y,false))=_;rw[zr2_v h,pac2_v h,pup2_v h,e2z_v h,e2z_v h];by_cases hz:T.2.2=F.zero
 ·rw[if_pos hz,decide_eq_true hz]
  unfold vJ2;rw[h.one];rfl
 ·rw[if_neg hz,decide_eq_false hz]
  by_cases ha:jacross F.toCRing T x=F.zero
  ·rw[if_pos ha,decide_eq_true ha]
   by_cases hu:jup F.toCRing T y=F.zero
   ·rw[if_pos hu,decide_eq_true hu]
    exact rtw_v h hs T
   ·rw[if_neg hu,decide_eq_false hu]
    exact zJ2_v h
  ·rw[if_neg ha,decide_eq_false ha]
   exact rpad_v h T x y
theorem rtm_v(hs:Sml F v)(hc:Curve F b){x y:K}(hP:(Pt.some x y).On F b)(kk:Nat):∀ s T,Jac F T (nmul F (kk / 2^s) (.some x y))->∃ T',rtm (rtw A S M) (rpl A S M (rtw A S M)) kk (v x,v y,false) s (vJ2 v T)=vJ2 v T'/\Jac F T' (nmul F kk (.some x y))
 | 0,T,hT=>by
  rw[Nat.pow_zero,Nat.div_one]at hT;exact⟨T,rfl,hT⟩
 | s+1,T,hT=>by
  have o:=on_nmul hc hP (kk / 2^(s+1));have g:=jac_rdbl hc o hT;have hb:=nmul_bit hc hP kk s;show ∃ T',rtm (rtw A S M) (rpl A S M (rtw A S M)) kk (v x,v y,false) s (rtd (rtw A S M) (rpl A S M (rtw A S M)) kk (v x,v y,false) s (vJ2 v T))=_/\_;unfold rtd;rw[rtw_v h hs];by_cases h1:kk / 2^s%2=1
  ·have e:eqI ((kk / 2^s%2:Nat):Int) 1=true:=decide_eq_true (by omega)
   rw[if_pos h1]at hb;rw[e];show ∃ T',rtm _ _ kk _ s (rpl A S M (rtw A S M) (vJ2 v (rdbl F.toCRing T)) (v x,v y,false))=_/\_;rw[rpl_v h hs];refine rtm_v hs hc hP kk s _ ?_;rw[hb];exact jac_rplus hc (on_psum hc o o) g
  ·have e:eqI ((kk / 2^s%2:Nat):Int) 1=false:=decide_eq_false (by omega)
   rw[if_neg h1]at hb;rw[e];show ∃ T',rtm _ _ kk _ s (vJ2 v (rdbl F.toCRing T))=_/\_;refine rtm_v hs hc hP kk s _ ?_;rw[hb];exact g
theorem pnR_v{T:K × K × K}{P:Pt K}(hT:Jac F T P):pnR M I (vJ2 v T)=cn2 v P:=pnt2_v h hT
theorem rtP_v(hs:Sml F v)(hc:Curve F b){P:Pt K}(hP:P.On F b){p:N2 × N2 × Bool}(hr:rl2 v p P){kk:Nat}(hk:kk<2^256):rtP (rtw A S M) (rpl A S M (rtw A S M)) (fun k=>bl k 256) M I kk p=cn2 v (nmul F kk P):=by
 unfold rtP;cases P with
 | none =>
  rw[show p.2.2=true from hr,nmul_none,zJ2_v h];exact pnR_v h (P:=.none) rfl
 | some x y =>
  rw[show p=(v x,v y,false) from hr,zJ2_v h];have hb:=(bl_spec kk 256).1;have hm:kk%115792089237316195423570985008687907853269984665640564039457584007913129639936=kk:=Nat.mod_eq_of_lt hk;rw[hm,Nat.mod_eq_of_lt hk]at hb;obtain⟨T,e,hT⟩:=rtm_v h hs hc hP kk (bl kk 256) (F.zero,F.zero,F.zero) (by rw[Nat.div_eq_of_lt hb];rfl);show pnR M I (rtm _ _ kk _ (bl kk 256) _)=_;rw[e];exact pnR_v h hT
theorem smD_v(s x1 y1 x2 y2:K):smD S M (v s) (v x1,v y1,false) (v x2,v y2,false)=cn2 v (lineTo F x1 y1 x2 s):=by
 unfold smD lineTo cn2;simp only[h.sub,h.mul]
theorem smR_v(hc:Curve F b){P Q:Pt K}{p q:N2 × N2 × Bool}(hp:rl2 v p P)(hq:rl2 v q Q):twD (smR S M (slp A S M I) p q)=cn2 v (psum F P Q):=by
 unfold smR;cases P with
 | none =>
  rw[show p.2.2=true from hp];exact twD_rl hq
 | some x1 y1 =>
  cases Q with
  | none =>
   rw[show q.2.2=true from hq,show p=(v x1,v y1,false) from hp];rfl
  | some x2 y2 =>
   rw[show p=(v x1,v y1,false) from hp,show q=(v x2,v y2,false) from hq];show twD (bif (slp A S M I (v x1,v y1,false) (v x2,v y2,false)).2 then smD S M (slp A S M I (v x1,v y1,false) (v x2,v y2,false)).1 (v x1,v y1,false) (v x2,v y2,false)else (z2,z2,true))=cn2 v (if x1=x2 then (if y1≠y2\/y1=F.zero then .none else lineTo F x1 y1 x2 (F.mul (F.add (F.mul x1 x1) (F.add (F.mul x1 x1) (F.mul x1 x1))) (F.inv (F.add y1 y1))))else lineTo F x1 y1 x2 (F.mul (F.sub y2 y1) (F.inv (F.sub x2 x1))));have hl:∀ s,twD (smD S M (v s) (v x1,v y1,false) (v x2,v y2,false))=cn2 v (lineTo F x1 y1 x2 s):=fun s=>by
    rw[smD_v h];rfl
   by_cases hx:x1=x2
   ·rw[if_pos hx]
    by_cases hy:y1≠y2\/y1=F.zero
    ·have e:slp A S M I (v x1,v y1,false) (v x2,v y2,false)=(z2,false):=by
      show(bif e2 (v x1) (v x2)then (bif (bif !e2 (v y1) (v y2)then true else e2 (v y1) z2)then (z2,false)else _)else _)=_;rw[e2_v h,e2_v h,e2z_v h,decide_eq_true hx];by_cases h1:y1=y2
      ·rcases hy with hy | hy
       ·exact absurd h1 hy
       ·rw[decide_eq_true h1,decide_eq_true hy]
        rfl
      ·rw[decide_eq_false h1]
       rfl
     rw[if_pos hy,e];rfl
    ·have h1:y1=y2:=Decidable.not_not.1 fun hn=>hy (.inl hn)
     have h2:y1≠F.zero:=fun hn=>hy (.inr hn);have e:slp A S M I (v x1,v y1,false) (v x2,v y2,false)=(v (F.mul (F.add (F.mul x1 x1) (F.add (F.mul x1 x1) (F.mul x1 x1))) (F.inv (F.add y1 y1))),true):=by
      show(bif e2 (v x1) (v x2)then (bif (bif !e2 (v y1) (v y2)then true else e2 (v y1) z2)then (z2,false)else (M (A (M (v x1) (v x1)) (A (M (v x1) (v x1)) (M (v x1) (v x1)))) (I (A (v y1) (v y1))).1,true))else _)=_;rw[e2_v h,e2_v h,e2z_v h,decide_eq_true hx,decide_eq_true h1,decide_eq_false h2,h.mul,h.add,h.add,h.add,inv_v h (hc.two _ h2)];show(M (v _) (v _),true)=_;rw[h.mul]
     rw[if_neg hy,e];exact hl _
   ·have hd:F.sub x2 x1≠F.zero:=fun hn=>hx (F.eq_of_sub hn).symm
    have e:slp A S M I (v x1,v y1,false) (v x2,v y2,false)=(v (F.mul (F.sub y2 y1) (F.inv (F.sub x2 x1))),true):=by
     show(bif e2 (v x1) (v x2)then _ else (M (S (v y2) (v y1)) (I (S (v x2) (v x1))).1,true))=_;rw[e2_v h,decide_eq_false hx,h.sub,h.sub,inv_v h hd];show(M (v _) (v _),true)=_;rw[h.mul]
    rw[if_neg hx,e];exact hl _
theorem sqD_v(x y:K)(n:Bool):sqD A M (v x,v y,n) (v b)=true↔OnC F.toCRing b x y:=by
 show e2 (M (v y) (v y)) (A (M (M (v x) (v x)) (v x)) (v b))=true↔_;rw[h.mul,h.mul,h.mul,h.add,e2_v h,decide_eq_true_eq];exact Iff.rfl
end
end
end Sy
section
variable {p:Nat} (hp:Pr p)
theorem v_add(a b:Zp p):(a.1+b.1)%p=((zpField hp).add a b).1:=rfl
theorem v_mul(a b:Zp p):a.1*b.1%p=((zpField hp).mul a b).1:=rfl
theorem v_subr(a b:Zp p):(a.1+(p - b.1))%p=((zpField hp).sub a b).1:=by
 show _=(a.1+(p - b.1)%p)%p;rw[Nat.add_mod_mod]
theorem v_sub(a b:Zp p):(a.1%p+(p - b.1%p))%p=((zpField hp).sub a b).1:=by
 rw[Nat.mod_eq_of_lt a.2,Nat.mod_eq_of_lt b.2,v_subr]
theorem v_negr(a:Zp p):(0+(p - a.1))%p=((zpField hp).neg a).1:=by
 show _=(p - a.1)%p;rw[Nat.zero_add]
theorem v_inv_iff(a:Zp p):a.1*(a.1^(p - 2)%p)%p=1↔a≠(zpField hp).zero:=by
 refine(invN_iff (n:=a.1) hp).trans ⟨fun h e=>h ?_,fun h hd=>h (zp_ext (Nat.eq_zero_of_dvd_of_lt hd a.2))⟩;rw[e];exact Nat.dvd_zero p
end
open Sy
section
variable {m:Nat} (hp:Pr m) (hm:m<2^256)
include hm
theorem ra2_v(z y:Zp m × Zp m):ra2 m (v2 z) (v2 y)=v2 ((K2 hp).add z y):=Prod.ext (rA_eq z.1.2 y.1.2 hm) (rA_eq z.2.2 y.2.2 hm)
theorem rs2_v(z y:Zp m × Zp m):rs2 m (v2 z) (v2 y)=v2 ((K2 hp).sub z y):=Prod.ext ((rS_eq z.1.2 y.1.2 hm).trans (v_subr hp z.1 y.1)) ((rS_eq z.2.2 y.2.2 hm).trans (v_subr hp z.2 y.2))
theorem rm2_eq(a b:N2):rm2 m a b=m2 hp a b:=by
 have hlt:∀ n,n%m<m:=fun n=>Nat.mod_lt _ hp.pos;rw[<- m2_eq hp a b];refine Prod.ext ?_ ?_
 ·show rS m _ _=_
  rw[rS_eq (hlt _) (hlt _) hm,Nat.mod_mod,Nat.mod_mod]
 ·exact rA_eq (hlt _) (hlt _) hm
theorem rc2_v(z:Zp m × Zp m):rc2 m (v2 z)=v2 (z.1,(K1 hp).neg z.2):=Prod.ext rfl ((rS_eq hp.pos z.2.2 hm).trans (v_negr hp z.2))
omit hm
theorem ro2_eq(a:N2):ro2 m a=v2 (ph2 hp a):=rfl
def nm(z:Zp m × Zp m):Zp m:=(K1 hp).add ((K1 hp).mul z.1 z.1) ((K1 hp).mul z.2 z.2)
theorem nw_eq(a:N2):nw m a=(nm hp (ph2 hp a)).1:=by
 unfold nw;rw[ph_mul hp,ph_mul hp,ph_add hp,ph_v,ph_v];rfl
theorem mul_conj(z:Zp m × Zp m):(K2 hp).mul z (z.1,(K1 hp).neg z.2)=(nm hp z,(K1 hp).zero):=by
 refine Prod.ext ?_ ?_
 ·show(K1 hp).add ((K1 hp).mul z.1 z.1) ((K1 hp).mul ((K1 hp).neg (K1 hp).one) ((K1 hp).mul z.2 ((K1 hp).neg z.2)))=_
  rw[CRing.mul_m1,CRing.mul_neg,CRing.neg_neg];rfl
 ·show(K1 hp).add ((K1 hp).mul z.1 ((K1 hp).neg z.2)) ((K1 hp).mul z.2 z.1)=_
  rw[CRing.mul_neg,(K1 hp).mul_comm z.2 z.1,(K1 hp).add_comm,(K1 hp).add_neg]
theorem even_pow{a:Nat}(h:a*a%m=1%m):∀ k,a^(2*k)%m=1%m
 | 0=>by simp
 | k+1=>by
  rw[show 2*(k+1)=2*k+2 by omega,Nat.pow_add,Nat.mul_mod,even_pow h k,Nat.pow_two,h,<- Nat.mul_mod]
theorem no_i(h4:m%4=3)(z:Zp m):(K1 hp).add ((K1 hp).mul z z) (K1 hp).one≠(K1 hp).zero:=fun h=>by
 have h1:(z.1*z.1%m+1)%m=0:=congrArg Subtype.val h;have h2:=hp.1;have hz:z.1*z.1%m=m - 1:=by
  have hl:z.1*z.1%m<m:=Nat.mod_lt _ hp.pos;by_cases he:z.1*z.1%m+1<m
  ·rw[Nat.mod_eq_of_lt he]at h1
   omega
  ·omega
 have hd:¬m∣z.1:=fun hd=>by
  rw[Nat.eq_zero_of_dvd_of_lt hd z.2,Nat.mul_zero,Nat.zero_mod]at hz;omega
 have hf:=fermat1 hp z.1 hd;have hs:(m - 1)*(m - 1)%m=1%m:=by
  have e:(m - 1)*(m - 1)=m*(m - 2)+1:=by
   obtain⟨k,hk⟩:∃ k,m=k+2:=⟨m - 2,by omega⟩
   subst hk;simp only[Nat.add_sub_cancel,show k+2 - 1=k+1 by omega,Nat.add_mul,Nat.mul_add];omega
  rw[e,Nat.mul_add_mod]
 have e:m - 1=2*(2*(m / 4)+1):=by omega
 rw[e,Nat.pow_mul,Nat.pow_two,Nat.pow_mod,hz,Nat.pow_succ,Nat.mul_mod,even_pow hs (m / 4),<- Nat.mul_mod,Nat.one_mul,Nat.mod_eq_of_lt (show m - 1<m by omega)]at hf;omega
theorem nm_zero(h4:m%4=3){z:Zp m × Zp m}(h:nm hp z=(K1 hp).zero):z=(K2 hp).zero:=by
 have key:∀ x y:Zp m,(K1 hp).add ((K1 hp).mul x x) ((K1 hp).mul y y)=(K1 hp).zero->y=(K1 hp).zero:=fun x y h=>by
  by_cases hy:y=(K1 hp).zero
  ·exact hy
  ·exfalso
   have hi:=(zpField hp).mul_inv y hy;refine no_i hp h4 ((K1 hp).mul x ((zpField hp).inv y)) ?_;have h2:=congrArg (fun t=>(K1 hp).mul t ((K1 hp).mul ((zpField hp).inv y) ((zpField hp).inv y))) h;rw[CRing.add_mul,CRing.zero_mul,CRing.mul4,CRing.mul4 (K1 hp) y y,show(K1 hp).mul y ((zpField hp).inv y)=(K1 hp).one from hi,(K1 hp).mul_one]at h2;exact h2
 have h2:z.2=(K1 hp).zero:=key z.1 z.2 h;have h1:z.1=(K1 hp).zero:=key z.2 z.1 (by rw[(K1 hp).add_comm];exact h);exact Prod.ext h1 h2
theorem nm_of_zero:nm hp (K2 hp).zero=(K1 hp).zero:=by
 show(K1 hp).add ((K1 hp).mul (K1 hp).zero (K1 hp).zero) ((K1 hp).mul (K1 hp).zero (K1 hp).zero)=_;rw[CRing.mul_zero,(K1 hp).add_zero]
noncomputable def ji (z:Zp m):Zp m:=if (eqN (z.1*iv m z.1%m) 1)=true then (zpField hp).inv z else (K1 hp).zero
theorem rIv_v(z:Zp m):rIv m z.1=(ji hp z).1:=by
 unfold rIv ji eqN;by_cases h:z.1*iv m z.1%m=1
 ·rw[if_pos h,if_pos (decide_eq_true h)]
  rfl
 ·rw[if_neg h,if_neg (by simpa using h)]
  rfl
theorem found_iff(z:Zp m):eqN (z.1*iv m z.1%m) 1=true↔z≠(K1 hp).zero:=by
 unfold eqN;rw[decide_eq_true_iff];exact v_inv_iff hp z
theorem pi2_1(a:N2):(pi2 m a).1=v2 ((K1 hp).mul (ph hp a.1) (ji hp (nm hp (ph2 hp a))),(K1 hp).neg ((K1 hp).mul (ph hp a.2) (ji hp (nm hp (ph2 hp a))))):=by
 unfold pi2;rw[nw_eq hp,rIv_v hp];refine Prod.ext ?_ ?_
 ·show a.1*_%m=_
  rw[ph_mul hp,ph_v];rfl
 ·show(0%m+(m - a.2*_%m%m))%m=_
  rw[ph_neg hp,ph_mul hp,ph_v,ph_v];rfl
theorem pi2_2(a:N2):(pi2 m a).2=eqN ((nm hp (ph2 hp a)).1*iv m (nm hp (ph2 hp a)).1%m) 1:=by
 unfold pi2;rw[nw_eq hp]
theorem ji_zero{z:Zp m}(h:eqN (z.1*iv m z.1%m) 1=false):ji hp z=(K1 hp).zero:=by
 unfold ji;rw[if_neg (by rw[h];simp)]
theorem ji_inv{z:Zp m}(h:eqN (z.1*iv m z.1%m) 1=true):(K1 hp).mul z (ji hp z)=(K1 hp).one:=by
 unfold ji;rw[if_pos h];exact(zpField hp).mul_inv z ((found_iff hp z).1 h)
include hp hm
theorem ri2_eq(a:N2):ri2 m (rc2 m) (rm2 m) (ro2 m a)=pi2 m a:=by
 have hn:(rm2 m (ro2 m a) (rc2 m (ro2 m a))).1=(nm hp (ph2 hp a)).1:=by
  rw[rm2_eq hp hm,ro2_eq hp,rc2_v hp hm];unfold m2;rw[ph2_v,ph2_v,mul_conj];rfl
 unfold ri2;rw[hn];refine Prod.ext ?_ ?_
 ·cases h:eqN ((nm hp (ph2 hp a)).1*iv m (nm hp (ph2 hp a)).1%m) 1 with
  | false =>
   rw[pi2_1 hp,ji_zero hp h];refine Prod.ext ?_ ?_
   ·show 0=((K1 hp).mul (ph hp a.1) (K1 hp).zero).1
    rw[CRing.mul_zero];rfl
   ·show 0=((K1 hp).neg ((K1 hp).mul (ph hp a.2) (K1 hp).zero)).1
    rw[CRing.mul_zero,CRing.neg_zero];rfl
  | true =>
   rw[pi2_1 hp];show((rc2 m (ro2 m a)).1*rIv m _%m,(rc2 m (ro2 m a)).2*rIv m _%m)=_;rw[rIv_v hp,ro2_eq hp,rc2_v hp hm];refine Prod.ext ?_ ?_
   ·exact v_mul hp _ _
   ·refine(v_mul hp _ _).trans (congrArg Subtype.val ?_)
    exact CRing.neg_mul _ _ _
 ·rw[pi2_2 hp]
  cases h:eqN ((nm hp (ph2 hp a)).1*iv m (nm hp (ph2 hp a)).1%m) 1 <;> rfl
omit hm in
theorem found2(h4:m%4=3)(a:N2):(pi2 m a).2=true↔ph2 hp a≠(K2 hp).zero:=by
 rw[pi2_2 hp,found_iff hp];exact⟨fun h e=>h (by rw[e];exact nm_of_zero hp),fun h e=>h (nm_zero hp h4 e)⟩
omit hm in
theorem inv2_mul{a:N2}(h:(pi2 m a).2=true):m2 hp (pi2 m a).1 a=v2 (K2 hp).one:=by
 rw[pi2_2 hp]at h;have hj:=ji_inv hp h;unfold m2;rw[pi2_1 hp,ph2_v];generalize ji hp (nm hp (ph2 hp a))=j at hj;refine congrArg v2 (Prod.ext ?_ ?_)
 ·show(K1 hp).add ((K1 hp).mul ((K1 hp).mul (ph hp a.1) j) (ph hp a.1)) ((K1 hp).mul ((K1 hp).neg (K1 hp).one) ((K1 hp).mul ((K1 hp).neg ((K1 hp).mul (ph hp a.2) j)) (ph hp a.2)))=(K1 hp).one
  rw[CRing.mul_m1,CRing.neg_mul,CRing.neg_neg,<- hj];unfold nm ph2;rw[CRing.add_mul];congr 1 <;> ac_rfl
 ·show(K1 hp).add ((K1 hp).mul ((K1 hp).mul (ph hp a.1) j) (ph hp a.2)) ((K1 hp).mul ((K1 hp).neg ((K1 hp).mul (ph hp a.2) j)) (ph hp a.1))=(K1 hp).zero
  rw[CRing.neg_mul,show(K1 hp).mul ((K1 hp).mul (ph hp a.2) j) (ph hp a.1)=(K1 hp).mul ((K1 hp).mul (ph hp a.1) j) (ph hp a.2) by ac_rfl,(K1 hp).add_neg]
end
open Go.RowKit Sy
def b3:Zp pB:=⟨3,by decide⟩
theorem curveB:Curve (zpField prB) b3:=⟨no_root prB (by decide +kernel) (by decide +kernel) (by decide +kernel) (by decide +kernel),zp_two prB (by decide +kernel)⟩
def GB:Pt (Zp pB):=.some ⟨1,by decide⟩ ⟨2,by decide⟩
theorem onGB:GB.On (zpField prB) b3:=on_zp prB b3 ⟨1,by decide⟩ ⟨2,by decide⟩ (by decide +kernel)
namespace Sy
section
variable {p:Nat} (hp:Pr p)
def AW(p a b:Nat):Nat:=(a+b)%p
def SW(p a b:Nat):Nat:=(a%p+(p - b%p))%p
def MW(p a b:Nat):Nat:=a*b%p
def IW(p a:Nat):Nat × Bool:=(if a*iv p a%p=1 then iv p a else 0,eqN (a*iv p a%p) 1)
include hp
theorem iW_v{a:Zp p}(ha:a≠(zpField hp).zero):IW p a.1=(((zpField hp).inv a).1,true):=by
 have h:a.1*iv p a.1%p=1:=(v_inv_iff hp a).2 ha;unfold IW;rw[if_pos h,h];rfl
theorem zp_one_val(_:1<p):((zpField hp).one).1=1:=rfl
theorem nmW(h1:1<p):NmW (zpField hp) Subtype.val (AW p) (SW p) (MW p) (IW p) where
 zero:=rfl
 one:=zp_one_val hp h1
 add:=fun a c=>v_add hp a c
 sub:=fun a c=>v_sub hp a c
 mul:=fun a c=>v_mul hp a c
 inv:=fun a ha=>⟨_,iW_v hp ha,(zpField hp).mul_inv a ha⟩
 no:=by
  show eqN (0*iv p 0%p) 1=false;rw[Nat.zero_mul,Nat.zero_mod];rfl
 eq:=fun a c=>decide_eq_decide.2 ⟨fun h=>zp_ext h,fun h=>congrArg Subtype.val h⟩
omit hp in
theorem belW(n:Nat)(h0:0<p):blwW (AW p) n=true↔∃ a:Zp p,a.1=n:=by
 unfold blwW AW eqN;rw[decide_eq_true_eq,Nat.add_zero];exact⟨fun h=>⟨⟨n,by rw[<- h];exact Nat.mod_lt _ h0⟩,rfl⟩,fun⟨a,h⟩=>by rw[<- h];exact Nat.mod_eq_of_lt a.2⟩
variable (hm:p<2^256)
include hm
end
end Sy
open Go.RowKit Sy
section
variable {p:Nat} (hp:Pr p)
include hp in
theorem v2_inj{z y:Zp p × Zp p}(h:v2 z=v2 y):z=y:=by
 have e:=congrArg (ph2 hp) h;rw[ph2_v,ph2_v]at e;exact e
theorem nm_mul(z y:Zp p × Zp p):nm hp ((K2 hp).mul z y)=(K1 hp).mul (nm hp z) (nm hp y):=by
 have e:=ring4 (K1 hp) (lets z.1 z.2 y.1 y.2)
  (.add (.mul (.sub (.mul (.v 0) (.v 2)) (.mul (.v 1) (.v 3))) (.sub (.mul (.v 0) (.v 2)) (.mul (.v 1) (.v 3)))) (.mul (.add (.mul (.v 0) (.v 3)) (.mul (.v 1) (.v 2))) (.add (.mul (.v 0) (.v 3)) (.mul (.v 1) (.v 2)))))
  (.mul (.add (.mul (.v 0) (.v 0)) (.mul (.v 1) (.v 1))) (.add (.mul (.v 2) (.v 2)) (.mul (.v 3) (.v 3)))) (by decide +kernel)
 have e2:(K2 hp).mul z y=((K1 hp).sub ((K1 hp).mul z.1 y.1) ((K1 hp).mul z.2 y.2),(K1 hp).add ((K1 hp).mul z.1 y.2) ((K1 hp).mul z.2 y.1)):=by
  refine Prod.ext ?_ rfl;show(K1 hp).add ((K1 hp).mul z.1 y.1) ((K1 hp).mul ((K1 hp).neg (K1 hp).one) ((K1 hp).mul z.2 y.2))=_;rw[CRing.mul_m1];rfl
 rw[e2];exact e
theorem found_v(h4:p%4=3){a:Zp p × Zp p}(ha:a≠(K2 hp).zero):(pi2 p (v2 a)).2=true:=(found2 hp h4 _).2 fun e=>ha (by rw[ph2_v]at e;exact e)
theorem pi2_back(a:N2):v2 (ph2 hp (pi2 p a).1)=(pi2 p a).1:=by rw[pi2_1 hp,ph2_v]
theorem inv_mul2(h4:p%4=3){a:Zp p × Zp p}(ha:a≠(K2 hp).zero):(K2 hp).mul a (ph2 hp (pi2 p (v2 a)).1)=(K2 hp).one:=by
 have h:=inv2_mul hp (found_v hp h4 ha);unfold m2 at h;rw[ph2_v]at h;rw[CRing.mul_comm];exact v2_inj hp h
def F2f(h4:p%4=3):CField (Zp p × Zp p) where
 toCRing:=K2 hp
 inv:=fun z=>ph2 hp (pi2 p (v2 z)).1
 mul_inv:=fun _ ha=>inv_mul2 hp h4 ha
 one_ne:=fun h=>(zpField hp).one_ne (congrArg Prod.fst h)
theorem nm2P(h4:p%4=3):Nm2 (F2f hp h4) (v2 (m:=p)) (a2 hp) (s2 hp) (m2 hp) (pi2 p) where
 zero:=rfl
 one:=rfl
 add:=fun a c=>by unfold a2;rw[ph2_v,ph2_v];rfl
 sub:=fun a c=>by unfold s2;rw[ph2_v,ph2_v];rfl
 mul:=fun a c=>by unfold m2;rw[ph2_v,ph2_v];rfl
 inv:=fun a ha=>⟨_,Prod.ext (pi2_back hp _).symm (found_v hp h4 ha),inv_mul2 hp h4 ha⟩
 no:=by
  cases hf:(pi2 p (v2 (F2f hp h4).zero)).2 with
  | false=>rfl
  | true=>exact absurd (ph2_v hp _) ((found2 hp h4 _).1 hf)
 eq:=fun a c=>by
  show decide ([a.1.1,a.2.1]=[c.1.1,c.2.1])=_;refine decide_eq_decide.2 ⟨fun h=>?_,fun h=>by rw[h]⟩;injection h with h h'
  injection h' with h' _
  exact Prod.ext (zp_ext h) (zp_ext h')
theorem nm2R(hm:p<2^256)(h4:p%4=3):Nm2 (F2f hp h4) (v2 (m:=p)) (ra2 p) (rs2 p) (rm2 p) (ri2 p (rc2 p) (rm2 p)):=by
 have P:=nm2P hp h4;have hri:∀ a:Zp p × Zp p,ri2 p (rc2 p) (rm2 p) (v2 a)=pi2 p (v2 a):=fun a=>by
  have e:=ri2_eq hp hm (v2 a);rw[show ro2 p (v2 a)=v2 a by rw[ro2_eq hp,ph2_v]]at e;exact e
 refine⟨P.zero,P.one,fun a c=>ra2_v hp hm a c,fun a c=>rs2_v hp hm a c,fun a c=>?_,fun a ha=>?_,?_,P.eq⟩
 ·rw[rm2_eq hp hm]
  exact P.mul a c
 ·rw[hri]
  exact P.inv a ha
 ·rw[hri]
  exact P.no
theorem bel2(n:N2):blw2 (a2 hp) n=true↔∃ a:Zp p × Zp p,v2 a=n:=by
 have e:a2 hp n z2=v2 (ph2 hp n):=by
  unfold a2;rw[show ph2 hp z2=(K2 hp).zero from ph2_v hp (K2 hp).zero];congr 1;exact CRing.add_zero _ _
 unfold blw2;rw[e];show decide ([(v2 (ph2 hp n)).1,(v2 (ph2 hp n)).2]=[n.1,n.2])=true↔_;rw[decide_eq_true_eq];constructor
 ·intro h
  injection h with h h'
  injection h' with h' _
  exact⟨ph2 hp n,Prod.ext h h'⟩
 ·rintro⟨a,rfl⟩
  rw[ph2_v]
end
/-! The twist. -/
def FT2:CField (Zp pB × Zp pB):=F2f prB (by decide)
def bT:Zp pB × Zp pB:=(⟨b2v.1,by decide +kernel⟩,⟨b2v.2,by decide +kernel⟩)
theorem bT_v:v2 bT=b2v:=rfl
theorem bT_mul:(K2 prB).mul (⟨9,by decide⟩,⟨1,by decide⟩) bT=((⟨3,by decide⟩,⟨0,by decide⟩):Zp pB × Zp pB):=by decide +kernel
theorem nbT(n:Zp pB):cub (zpField prB).ops n ((zpField prB).neg (nm prB bT))≠(zpField prB).zero:=no_root prB (by decide +kernel) (by decide +kernel) (by decide +kernel) (by decide +kernel) n
theorem curveT:Curve FT2 bT:=by
 refine⟨fun x h=>?_,fun a ha h=>?_⟩
 ·have h:(K2 prB).add ((K2 prB).mul ((K2 prB).mul x x) x) bT=(K2 prB).zero:=h
  have h2:(K2 prB).mul ((K2 prB).mul x x) x=(K2 prB).neg bT:=by
   have e:=congrArg (fun t=>(K2 prB).add t ((K2 prB).neg bT)) h;rw[(K2 prB).add_assoc,(K2 prB).add_neg,(K2 prB).add_zero,CRing.zero_add]at e;exact e
  have h3:=congrArg (nm prB) h2;rw[nm_mul,nm_mul]at h3;have h4:nm prB ((K2 prB).neg bT)=nm prB bT:=by decide +kernel
  rw[h4]at h3;refine nbT (nm prB x) ?_;show(K1 prB).add ((K1 prB).mul ((K1 prB).mul (nm prB x) (nm prB x)) (nm prB x)) ((K1 prB).neg (nm prB bT))=(K1 prB).zero;rw[h3,(K1 prB).add_neg]
 ·have h1:(zpField prB).add a.1 a.1=(zpField prB).zero:=congrArg Prod.fst h
  have h2:(zpField prB).add a.2 a.2=(zpField prB).zero:=congrArg Prod.snd h;refine ha (Prod.ext ?_ ?_)
  ·exact Classical.byContradiction fun hn=>zp_two prB (by decide +kernel) a.1 hn h1
  ·exact Classical.byContradiction fun hn=>zp_two prB (by decide +kernel) a.2 hn h2
open Go.RowKit Sy
def ordS:ByteArray:=⟨#[50,49,56,56,56,50,52,50,56,55,49,56,51,57,50,55,53,50,50,50,50,52,54,52,48,53,55,52,53,50,53,55,50,55,53,48,56,56,53,52,56,51,54,52,52,48,48,52,49,54,48,51,52,51,52,51,54,57,56,50,48,52,49,56,54,53,55,53,56,48,56,52,57,53,54,49,55]⟩
def ordD(j:Nat):Nat:=[2,1,8,8,8,2,4,2,8,7,1,8,3,9,2,7,5,2,2,2,2,4,6,4,0,5,7,4,5,2,5,7,2,7,5,0,8,8,5,4,8,3,6,4,4,0,0,4,1,6,0,3,4,3,4,3,6,9,8,2,0,4,1,8,6,5,7,5,8,0,8,4,9,5,6,1,7].getD j 0
theorem ord_len:ordS.size=77:=by kernel_rfl
theorem ord_dig:∀ j (hj:j<ordS.size),ordS[j].toNat=ordD j+48/\ordD j<=9:=by
 have h:∀ j:Fin 77,(#[50,49,56,56,56,50,52,50,56,55,49,56,51,57,50,55,53,50,50,50,50,52,54,52,48,53,55,52,53,50,53,55,50,55,53,48,56,56,53,52,56,51,54,52,52,48,48,52,49,54,48,51,52,51,52,51,54,57,56,50,48,52,49,56,54,53,55,53,56,48,56,52,57,53,54,49,55]:Array UInt8)[j].toNat=ordD j+48/\ordD j<=9:=by decide +kernel
 intro j hj;exact h ⟨j,by rw[ord_len]at hj;exact hj⟩
theorem ord_num:dnum ordD 77=21888242871839275222246405745257275088548364400416034343698204186575808495617:=by decide +kernel
theorem rord_parse(w:World):Calls Tryz.prog 46 #[.string ordS] w fun e w'=>e=.returned (.tuple #[.agg (pw 21888242871839275222246405745257275088548364400416034343698204186575808495617),.int .i64 0])/\Below w.heap.size w w':=by
 have h:=rparse_walk ordS ordD w (by rw[ord_len];omega) (by rw[ord_len];omega) (fun _=>by decide +kernel) ord_dig;unfold ParsePost at h;rw[ord_len,ord_num,if_pos (by omega)]at h;exact h
namespace Sy
def cParse:Con:=conV 46 fun l=>match l with
 | [.v (.string s)]=>some (.tu (.w nB) (.v (.int .i64 0)),[.ask (s=ordS)])
 | _=>none
theorem cParse_ok{base:Nat}{γ0:Pl}{w0:World}:ConOk Tryz.prog base γ0 w0 cParse:=conV_ok (fun _ _=>by kernel_rfl) fun us r q hr hq hok=>by
 split at hr
 ·rename_i s
  cases hr;refine⟨⟨(by decide +kernel:nB<2^256),trivial⟩,rfl,fun γ w=>?_⟩;obtain rfl:s=ordS:=hq _ (.head _);exact rord_parse w
 ·cases hr
theorem rorder_is(w:World):Calls Tryz.prog 15 #[] w fun e w'=>e=.returned ((SV.w nB).val o0)/\Below w.heap.size w w' :=
 calls_at (w0:=w) (γ0:=o0) (E1_ok (more:=[cParse]) ⟨cParse_ok,trivial⟩) (by kernel_rfl) (fun _=>0) Tryz.func15 (by kernel_rfl) [] trivial (by kernel_rfl) (by kernel_rfl) (.need (ordS=ordS) (.leaf (.w nB))) (by kernel_rfl) ⟨rfl,rfl⟩
def cROrd:Con:=conV 15 fun l=>match l with
 | []=>some (.w nB,[])
 | _=>none
theorem cROrd_ok{base:Nat}{γ0:Pl}{w0:World}:ConOk Tryz.prog base γ0 w0 cROrd:=conV_ok (fun _ _=>by kernel_rfl) fun us r q hr hq hok=>by
 split at hr
 ·cases hr
  exact⟨(by decide +kernel:nB<2^256),rfl,fun γ w=>rorder_is w⟩
 ·cases hr
/-! Points that are on the curve: the calls' answers known ahead,a case each. -/
section
variable {A M:N2->N2->N2} {SQ:N2 × N2 × Bool->N2->Bool}
def cSq(SQ:N2 × N2 × Bool->N2->Bool):Con:=cH2 false pB loB 32 shP2 sh2 fun D b=>.b (SQ D b)
end
end Sy
open Go.RowKit
namespace Sy
theorem gr_fd{P:Program}{w:World}{a:Act}{o:Oper}{T:TypeId}{x:Operand}{i:Nat}{p v:Value}(ho:o.op=.field T x i)(hx:a.eval x=p)(hr:(Instr.field T p i).run P w=.ok v w):(execOp a.eval o).run P w=.ok (.value v) w:=by
 unfold execOp;rw[ho];simp only[hx,Sem.run_bind,hr,Result.andThen_ok];rfl
theorem dot_none(P:N2 × N2 × Bool)(γ:Pl)(w:World):(Instr.field 40 ((pS2 P).val γ) 2).run Tryz.prog w=.ok (.bool P.2.2) w:=by
 obtain⟨⟨x0,x1⟩,⟨y0,y1⟩,n⟩:=P;kernel_rfl
def mkFd(_:Nat)(_:Rows)(lk:Nat->Option SV):Op->Option (SV × List Ob × Rows)
 | .field T x i=>if T=40/\i=2 then ((opnd lk x).bind dP2).map fun P=>(.b P.2.2,[],[])else none
 | _=>none
noncomputable def EF (more:List Con):Env:={ E1 more with mkr:=mkFd }
theorem EF_ok{w0:World}{more:List Con}{γ0:Pl}(hm:conAll Tryz.prog 1 γ0 w0 more):(EF more).Good γ0 w0:=by
 have h:=E1_ok hm;refine⟨h.tys,h.ctr,h.bop,h.bld,h.xld,h.ixa,h.sls,h.bss,h.slc,h.idx,h.cnv,h.rld,h.slk,?_⟩;intro n M lk op r p R hr hp hb hk hM;replace hr:mkFd n M lk op=some (r,p,R):=hr;unfold mkFd at hr
 split at hr
 ·rename_i T x i
  split at hr
  ·rename_i hc
   obtain⟨rfl,rfl⟩:=hc;obtain⟨P,hP,e⟩:=Option.map_eq_some_iff.1 hr;obtain⟨y,hy,hd⟩:=Option.bind_eq_some_iff.1 hP;cases e;refine⟨trivial,rfl,fun q hq=>(by cases hq),fun γ a o wx ho hH hL=>?_⟩;obtain rfl:=dP2_ok _ _ hd;have q:=opnd_ok (γ:=γ) (n:=n) (lk:=lk) (a:=a) (fun t x ht=>hH t x ht) hy;exact⟨.bool P.2.2,wx,gr_fd ho q.1 (dot_none P γ wx),⟨γ,fun _ _=>rfl,rfl,fun q hq=>(by cases hq),.nil⟩,Below.refl _ _⟩
  ·cases hr
 ·cases hr
end Sy
open Go.RowKit
namespace Sy
section
variable {I:N2->N2 × Bool} {M:N2->N2->N2} {SQ:N2 × N2 × Bool->N2->Bool} {TM:Nat->N2 × N2 × Bool->N2 × N2 × Bool} {SU:N2 × N2 × Bool->N2 × N2 × Bool->N2 × N2 × Bool} {IS:Nat->Bool}
def lowT(IS:Nat->Bool)(P:N2 × N2 × Bool):Bool:=bif (bif (bif !IS P.1.1 then true else !IS P.1.2)then true else !IS P.2.1.1)then true else !IS P.2.1.2
def onT(IS:Nat->Bool)(SQ:N2 × N2 × Bool->N2->Bool)(TM:Nat->N2 × N2 × Bool->N2 × N2 × Bool)(b:N2)(P:N2 × N2 × Bool):Bool:=bif P.2.2 then true else bif lowT IS P then false else bif SQ P b then (TM nB P).2.2 else false
abbrev iM(M:N2->N2->N2):Con:=cH2 false pB loB 40 sh2 sh2 fun a b=>F2s (M a b)
abbrev iI(I:N2->N2 × Bool):Con:=cH1 false pB loB 45 sh2 fun a=>.tu (F2s (I a).1) (.b (I a).2)
abbrev iT(TM:Nat->N2 × N2 × Bool->N2 × N2 × Bool):Con:=cH2 false pB loB 14 shW shP2 fun k P=>pS2 (TM k P)
abbrev iU(SU:N2 × N2 × Bool->N2 × N2 × Bool->N2 × N2 × Bool):Con:=cH2 false pB loB 12 shP2 shP2 fun p q=>pS2 (SU p q)
abbrev cIs(IS:Nat->Bool):Con:=cV1 31 shW fun a=>.b (IS a)
abbrev cOfTw:Con:=cV1 22 shP2 fun P=>pS2 P
theorem ronT_is(hIs:Is0 31 shW fun a=>.b (IS a))(hM:IhM pB M)(hI:IhI pB I)(hQ:Ih2 pB 32 shP2 sh2 fun D b=>.b (SQ D b))(hT:Ih2 pB 14 shW shP2 fun k P=>pS2 (TM k P)):Is0 17 shP2 fun P=>.b (onT IS SQ TM (M (I (9,1)).1 (3,0)) P):=fun _ _ _=>cV1_ok (fun _ _=>by kernel_rfl) (fun _ _=>⟨trivial,rfl⟩) fun P oP w=>by
 have h:=calls_at (w0:=w) (γ0:=o0) (V:=(SV.b (onT IS SQ TM (M (I (9,1)).1 (3,0)) P)).val o0) (EF_ok (more:=[cIs IS,cTNew,iI I,iM M,cF2,cOfTw,cSq SQ,cROrd,iT TM]) ⟨hIs _ _ _,cTNew_ok,hI _ _ _ _ (rB w),hM _ _ _ _ (rB w),F2_is _ _ _,OfTw_is _ _ _,hQ _ _ _ _ (rB w),cROrd_ok,hT _ _ _ _ (rB w),trivial⟩) (by kernel_rfl) (fun _=>0) Tryz.func17 (by kernel_rfl) [pS2 P] ⟨⟨oP,rfl⟩,trivial⟩ (by kernel_rfl) (by kernel_rfl)
  (.br P.2.2 (.leaf (.v (.bool true))) (.br (lowT IS P) (.leaf (.v (.bool false))) (.leaf (.b (bif SQ P (M (I (9,1)).1 (3,0))then (TM nB P).2.2 else false))))) (by kernel_rfl)
  (br_sh (fun h=>leaf_sh (by unfold onT;rw[h];rfl)) fun h=>br_sh (fun h2=>leaf_sh (by unfold onT;rw[h,h2];rfl)) fun h2=>leaf_sh (by unfold onT;rw[h,h2];rfl))
 exact h
/-! The bases;lives. -/
def gXx:N2:=(10857046999023057135944570762232829481370756359578518086990519993285655852781,11559732032986387107991004021392285783925812861821192530917403151452391805634)
def gYy:N2:=(8495653923123431417604973247489272438418190587263600148770280649306958101930,4082367875863433681332203403145435568316851327593401208105741076214120093531)
def g2:N2 × N2 × Bool:=(gXx,gYy,false)
def cBaseP:Con:=conV 47 fun l=>match l with
 | []=>some (.tu (pSW g1) (pS2 g2),[])
 | _=>none
theorem g2_ok:(pS2 g2).ok:=⟨⟨(by decide +kernel:gXx.1<2^256),(by decide +kernel:gXx.2<2^256),trivial⟩,⟨(by decide +kernel:gYy.1<2^256),(by decide +kernel:gYy.2<2^256),trivial⟩,trivial,trivial⟩
theorem g1_ok:(pSW g1).ok:=⟨(by decide:(1:Nat)<2^256),(by decide:(2:Nat)<2^256),trivial,trivial⟩
theorem base_is(w:World):Calls Tryz.prog 47 #[] w fun e w'=>e=.returned ((SV.tu (pSW g1) (pS2 g2)).val o0)/\Below w.heap.size w w' :=
 calls_at (w0:=w) (γ0:=o0) (E1_ok (more:=[cOfN]) ⟨cOfN_ok,trivial⟩) (by kernel_rfl) (fun _=>0) Tryz.func47 (by kernel_rfl) [] trivial (by kernel_rfl) (by kernel_rfl)
  (.leaf (.tu (.ap (.w 1) (.ap (.w 2) (.ap (.v (.bool false)) .e))) (.ap (F2s gXx) (.ap (F2s gYy) (.ap (.v (.bool false)) .e))))) (by kernel_rfl) rfl
theorem cBaseP_ok{base:Nat}{γ0:Pl}{w0:World}:ConOk Tryz.prog base γ0 w0 cBaseP:=conV_ok (fun _ _=>by kernel_rfl) fun us r q hr hq hok=>by
 split at hr
 ·cases hr
  exact⟨⟨g1_ok,g2_ok⟩,rfl,fun γ w=>base_is w⟩
 ·cases hr
end
end Sy
open Go.RowKit
namespace Sy
def ixL(T:TypeId)(x y:SV):Option (SV × List Ob):=match x,y with
 | .p g o j 0,.v (.int .i64 3)=>if T=24 then some (.p g (o+3) j 0,[])else none
 | _,_=>none
theorem ixL_ok{T:TypeId}{x y r:SV}{p:List Ob}{n:Nat}(h:ixL T x y=some (r,p))(hx:x.lt n=true):r.ok/\r.lt n=true/\∀ γ wx,(Instr.indexAt T (x.val γ) (y.val γ)).run Tryz.prog wx=.ok (r.val γ) wx:=by
 unfold ixL at h
 split at h
 ·rename_i g o j
  split at h
  ·rename_i hT
   subst hT;cases h;refine⟨trivial,hx,fun γ wx=>?_⟩;show(Instr.indexAt 24 (.pointer (some ⟨γ g,o+j*0,none⟩)) (.int .i64 (3:Nat))).run Tryz.prog wx=.ok (.pointer (some ⟨γ g,o+3+j*0,none⟩)) wx;rw[Nat.mul_zero,Nat.add_zero,Nat.add_zero];exact at_arrN Tryz.underlying24 (by kernel_rfl) (by decide) wx
  ·cases h
 ·cases h
def ixLT(T:TypeId)(x y:SV):Option (SV × List Ob):=match ixL T x y with
 | some r=>some r
 | none=>ixaT T x y
noncomputable def EL (more:List Con):Env:={ E1 more with ixa:=ixLT }
theorem EL_ok{w0:World}{more:List Con}{γ0:Pl}(hm:conAll Tryz.prog 1 γ0 w0 more):(EL more).Good γ0 w0:=by
 have h:=E1_ok hm;refine⟨h.tys,h.ctr,h.bop,h.bld,h.xld,fun T x y r p n hi hp hx ho hy=>?_,h.sls,h.bss,h.slc,h.idx,h.cnv,h.rld,h.slk,h.mkr⟩;replace hi:ixLT T x y=some (r,p):=hi;unfold ixLT at hi
 split at hi
 ·rename_i hb
  cases hi;exact ixL_ok hb hx
 ·exact h.ixa T x y r p n hi hp hx ho hy
section
variable {SM:Nat × Nat × Bool->Nat × Nat × Bool->(Nat × Nat × Bool) × Int}
def lvB(SM:Nat × Nat × Bool->Nat × Nat × Bool->(Nat × Nat × Bool) × Int):Bool:=bif (bif (bif (bif eqN nB nB then eqN g1.1 1 else false)then !g2.2.2 else false)then eqI (SM g1 g1).2 0 else false)then eqI (limb 3 (SM g1 g1).1.1) 217937391675185666 else false
theorem lives_is(hS:Is00 8 shPW shPW fun a b=>tpSW (SM a b))(w:World):Calls Tryz.prog 16 #[] w fun e w'=>e=.returned ((SV.b (lvB SM)).val o0)/\Below w.heap.size w w' :=
 calls_at (w0:=w) (γ0:=o0) (EL_ok (more:=[cBaseP,cOrd,cROrd,cV2 8 shPW shPW fun a b=>tpSW (SM a b)]) ⟨cBaseP_ok,cOrd_ok,cROrd_ok,hS _ _ _,trivial⟩) (by kernel_rfl) (fun _=>0) Tryz.func16 (by kernel_rfl) [] trivial (by kernel_rfl) (by kernel_rfl) (.leaf (.b (lvB SM))) (by kernel_rfl) rfl
end
end Sy
open Go.RowKit
namespace Sy
abbrev cLv(LV:Bool):Con:=conV 16 fun l=>match l with
 | []=>some (.b LV,[])
 | _=>none
theorem cLv_ok{LV:Bool}(h:∀ w,Calls Tryz.prog 16 #[] w fun e w'=>e=.returned ((SV.b LV).val o0)/\Below w.heap.size w w'){base:Nat}{γ0:Pl}{w0:World}:ConOk Tryz.prog base γ0 w0 (cLv LV):=conV_ok (fun _ _=>by kernel_rfl) fun us r q hr hq hok=>by
 split at hr
 ·cases hr
  exact⟨trivial,rfl,fun γ w=>h w⟩
 ·cases hr
section
variable {OR H:N2 × N2 × Bool->Bool} {SM:N2 × N2 × Bool->N2 × N2 × Bool->(N2 × N2 × Bool) × Int} {PD:Nat->N2 × N2 × Bool->(N2 × N2 × Bool) × Int} {TM:Nat->N2 × N2 × Bool->N2 × N2 × Bool} {SU:N2 × N2 × Bool->N2 × N2 × Bool->N2 × N2 × Bool} {LV:Bool}
theorem twist_law(hR:Is0 17 shP2 fun P=>.b (OR P))(hA:Is00 19 shP2 shP2 fun a b=>tpS2 (SM a b))(hM:Is00 20 shW shP2 fun n a=>tpS2 (PD n a))(hO:Is0 18 shP2 fun a=>.b (H a))(hU:Ih2 pB 12 shP2 shP2 fun p q=>pS2 (SU p q))(hT:Ih2 pB 14 shW shP2 fun k P=>pS2 (TM k P))
  (hL:∀ w,Calls Tryz.prog 16 #[] w fun e w'=>e=.returned ((SV.b LV).val o0)/\Below w.heap.size w w') (p q:N2 × N2 × Bool) (k:Nat) (op:(pS2 p).ok) (oq:(pS2 q).ok) (ok:k<2^256)
  (h0:eqB (H p) (OR p)=true) (h1:OR p=false->(SM p q).1.2.2=true/\(SM p q).2=81/\(PD k p).1.2.2=true/\(PD k p).2=81) (h2:OR p=true->eqTw (PD k p).1 (twD (TM k p))=true/\(PD k p).2=0) (h3:OR p=true->OR q=false->(SM p q).1.2.2=true/\(SM p q).2=81) (h4:OR p=true->OR q=true->eqTw (SM p q).1 (twD (SU p q))=true/\(SM p q).2=0) (h5:LV=true) (w:World) :
  Calls Tryz.prog 4 #[(pS2 p).val o0,(pS2 q).val o0,(SV.w k).val o0] w fun e w'=>e=.returned (.bool true)/\Below w.heap.size w w':=by
 have h:=calls_at (w0:=w) (γ0:=o0) (V:=.bool true) (E1_ok (more:=[cTNew,cV1 17 shP2 fun P=>.b (OR P),cV2 19 shP2 shP2 fun a b=>tpS2 (SM a b),cV2 20 shW shP2 fun n a=>tpS2 (PD n a),cV1 18 shP2 fun a=>.b (H a),cOfTw,cV1 21 shP2 fun D=>pS2 (twD D),iU SU,iT TM,cLv LV]) ⟨cTNew_ok,hR _ _ _,hA _ _ _,hM _ _ _,hO _ _ _,OfTw_is _ _ _,Twist_is _ _ _,hU _ _ _ _ (rB w),hT _ _ _ _ (rB w),cLv_ok hL,trivial⟩) (by kernel_rfl) (fun _=>0) Tryz.func4 (by kernel_rfl) [pS2 p,pS2 q,.w k] ⟨⟨op,rfl⟩,⟨oq,rfl⟩,⟨ok,rfl⟩,trivial⟩ (by kernel_rfl) (by kernel_rfl)
  (.br (!eqB (H p) (OR p)) (.leaf (.v (.bool false))) (.br (!OR p) (.leaf (.b (bif (bif (bif (bif (SM p q).1.2.2 then eqI (SM p q).2 81 else false)then (PD k p).1.2.2 else false)then eqI (PD k p).2 81 else false)then LV else false)))
   (.br (bif !eqTw (PD k p).1 (twD (TM k p))then true else !eqI (PD k p).2 0) (.leaf (.v (.bool false))) (.br (!OR q) (.leaf (.b (bif (bif (SM p q).1.2.2 then eqI (SM p q).2 81 else false)then LV else false))) (.leaf (.b (bif (bif eqTw (SM p q).1 (twD (SU p q))then eqI (SM p q).2 0 else false)then LV else false))))))) (by kernel_rfl)
  (br_sh (fun h=>absurd h (by rw[h0];decide)) fun _=>br_sh (fun h=>by
   obtain⟨g1,g2,g3,g4⟩:=h1 (by simpa using h);exact leaf_sh (by rw[g1,g2,g3,g4,h5];rfl)) fun h=>by
   have ho:OR p=true:=by simpa using h
   obtain⟨g1,g2⟩:=h2 ho;exact br_sh (fun h=>absurd h (by rw[g1,g2];decide)) fun _=>br_sh (fun h=>by
    obtain⟨g3,g4⟩:=h3 ho (by simpa using h);exact leaf_sh (by rw[g3,g4,h5];rfl)) fun h=>by
    obtain⟨g3,g4⟩:=h4 ho (by simpa using h);exact leaf_sh (by rw[g3,g4,h5];rfl))
 exact h
end
end Sy
open Go.RowKit
namespace Sy
section
variable {A S M:Nat->Nat->Nat} {I:Nat->Nat × Bool}
theorem tmsW_ok{TW:(Nat × Nat × Nat)->(Nat × Nat × Nat) × Nat}{PL:(Nat × Nat × Nat)->(Nat × Nat × Bool)->(Nat × Nat × Nat) × Nat}(oT:∀ a,(jSW (TW a).1).ok)(oP:∀ a b,(jSW a).ok->(pSW b).ok->(jSW (PL a b).1).ok)(kk:Nat){P:Nat × Nat × Bool}(op:(pSW P).ok):∀ s x,(jSW x).ok->(jSW (tmsW TW PL kk P s x)).ok
 | 0,_,h=>h
 | s+1,x,_=>tmsW_ok oT oP kk op s _ (by
   unfold trdW;cases eqI (bkI kk s) 1
   ·exact oT _
   ·exact oP _ _ (oT _) op)
end
/-! The program's first group. -/
theorem hAW:IsOW pB 65 (AW pB):=fun _ _ _ hf=>(flds_ok hf).2.1
theorem hSW:IsOW pB 66 (SW pB):=fun _ _ _ hf=>(flds_ok hf).2.2.1
theorem hMW:IsOW pB 67 (MW pB):=fun _ _ _ hf=>(flds_ok hf).1
theorem hIW:IsJW pB 68 (IW pB):=fun _ _ _ hf=>(flds_ok hf).2.2.2.2.1
theorem modB(n:Nat):n%pB<2^256:=Nat.lt_trans (Nat.mod_lt n (by decide)) ltB
theorem oAW(a b:Nat):AW pB a b<2^256:=modB _
theorem oSW(a b:Nat):SW pB a b<2^256:=modB _
theorem oMW(a b:Nat):MW pB a b<2^256:=modB _
def FTW:Nat->Nat->Bool:=fitW (AW pB) (MW pB)
def TWW:(Nat × Nat × Nat)->(Nat × Nat × Nat) × Nat:=ptwW (AW pB) (SW pB) (MW pB)
def PLW:(Nat × Nat × Nat)->(Nat × Nat × Bool)->(Nat × Nat × Nat) × Nat:=pplW (AW pB) (SW pB) (MW pB)
def PTW:(Nat × Nat × Nat)->(Nat × Nat × Bool):=pntW (MW pB) (IW pB)
def TMW(n:Nat)(P:Nat × Nat × Bool):Nat × Nat × Nat:=tmsW TWW PLW n P (bl n 256) zJW
def HW:(Nat × Nat × Bool)->Bool:=hldW FTW
def SMW:(Nat × Nat × Bool)->(Nat × Nat × Bool)->(Nat × Nat × Bool) × Int:=smPW HW PLW PTW
theorem hFW:IsW pB 74 (gNNW fun a b=>SV.b (FTW a b)):=fitW_is hAW hMW (belowW_is hAW)
theorem hTW:IsW pB 111 (gJW fun a=>SV.tu (jSW (TWW a).1) (SV.w (TWW a).2)):=twiceW_is oAW oSW oMW hAW hSW hMW
theorem hPW:IsW pB 70 (gJPW fun a b=>SV.tu (jSW (PLW a b).1) (SV.w (PLW a b).2)):=plusW_is oAW oSW oMW hAW hSW hMW hTW
theorem hQW:IsW pB 72 (gJW fun a=>pSW (PTW a)):=pointW_is oMW hMW hIW
theorem oTW(a:Nat × Nat × Nat):(jSW (TWW a).1).ok:=⟨oSW _ _,oSW _ _,oMW _ _,trivial⟩
theorem oPW(a:Nat × Nat × Nat)(b:Nat × Nat × Bool)(ha:(jSW a).ok)(hb:(pSW b).ok):(jSW (PLW a b).1).ok:=(pplW_ok oAW oSW oMW ha hb).1
theorem hXW:IsW pB 73 (gKPW fun n P=>jSW (TMW n P)):=timesW_is (B:=fun k=>bl k 256) (fun k=>bl_le k 256) (fun _ _ _=>cLen_ok) oTW oPW (fun n _ _ op=>tmsW_ok oTW oPW n op _ _ ⟨w0_ok,w0_ok,w0_ok,trivial⟩) hTW hPW
theorem hHW:IsW pB 37 (gPW fun a=>SV.b (HW a)):=holdsW_is hFW hXW
theorem oQW(a:Nat × Nat × Nat):(pSW (PTW a)).ok:=pntW_ok oMW a
theorem aAdd:Is00 8 shPW shPW fun a b=>tpSW (SMW a b):=Add_is (fun a b=>smPW_ok oQW a b) (sumW_is oQW hHW hPW hQW)
/-! The document's. -/
def AR:N2->N2->N2:=ra2 pB
def SR:N2->N2->N2:=rs2 pB
def MR:N2->N2->N2:=rm2 pB
def IR:N2->N2 × Bool:=ri2 pB (rc2 pB) (rm2 pB)
theorem oSR(a b:N2):(F2s (SR a b)).ok:=rs2_ok pB a b
theorem oMR(a b:N2):(F2s (MR a b)).ok:=rm2_ok pB a b
def SQR:N2 × N2 × Bool->N2->Bool:=sqD AR MR
def TWR:N2 × N2 × N2->N2 × N2 × N2:=rtw AR SR MR
def PLR:N2 × N2 × N2->N2 × N2 × Bool->N2 × N2 × N2:=rpl AR SR MR TWR
def TMR:Nat->N2 × N2 × Bool->N2 × N2 × Bool:=rtP TWR PLR (fun k=>bl k 256) MR IR
def SLR:N2 × N2 × Bool->N2 × N2 × Bool->N2 × Bool:=slp AR SR MR IR
def SUR:N2 × N2 × Bool->N2 × N2 × Bool->N2 × N2 × Bool:=smR SR MR SLR
theorem rQ:Ih2 pB 32 shP2 sh2 fun D b=>.b (SQR D b):=square_is bB Tadd_at Tmul_at
theorem oTR(a:N2 × N2 × N2):(jS2 (TWR a)).ok:=⟨oSR _ _,oSR _ _,oMR _ _,trivial⟩
theorem rT:Ih1 pB 42 shJ2 fun T=>jS2 (TWR T):=rtwice_is bB oSR oMR Tadd_at Tsub_at Tmul_at
theorem rP:Ih2 pB 44 shJ2 shP2 fun T q=>jS2 (PLR T q):=rplus_is bB oSR oMR oTR Tadd_at Tsub_at Tmul_at rT
theorem rX:Ih2 pB 14 shW shP2 fun k P=>pS2 (TMR k P):=rtimes_is bB (fun k=>bl_le k 256) (fun _ _ _=>cRLen_ok) oTR (fun T _ _ oq=>rpl_ok oSR oMR oTR T oq) oMR Tmul_at Tinv_at rT rP
theorem rL:Ih2 pB 38 shP2 shP2 fun p q=>.tu (F2s (SLR p q).1) (.b (SLR p q).2):=slope_is bB oMR Tadd_at Tsub_at Tmul_at Tinv_at
theorem rU:Ih2 pB 12 shP2 shP2 fun p q=>pS2 (SUR p q):=rsum_is bB oSR Tsub_at Tmul_at rL
theorem live1(w:World):Calls Tryz.prog 16 #[] w fun e w'=>e=.returned ((SV.b (lvB SMW)).val o0)/\Below w.heap.size w w':=lives_is aAdd w
/-! Numbers. -/
theorem nW:NmW (zpField prB) Subtype.val (AW pB) (SW pB) (MW pB) (IW pB):=nmW prB (by decide)
theorem HW_iff(p:Nat × Nat × Bool):HW p=true↔∃ P:Pt (Zp pB),rlW Subtype.val p P/\P.On (zpField prB) b3:=by
 obtain⟨x,y,n⟩:=p;cases n
 ·have hf:=fitW_v nW (b:=b3) rfl (fun n=>belW n prB.pos) x y
  have e:HW (x,y,false)=FTW x y:=by
   show(bif FTW x y then true else false)=_;cases FTW x y <;> rfl
  rw[e];refine hf.trans ⟨fun⟨a,c,h1,h2,h3⟩=>⟨.some a c,by rw[h1,h2];rfl,h3⟩,fun⟨P,h1,h2⟩=>?_⟩;cases P with
  | none=>cases h1
  | some a c =>
   have h1:(x,y,false)=(a.1,c.1,false):=h1;exact⟨a,c,congrArg Prod.fst h1,congrArg (fun t=>t.2.1) h1,h2⟩
 ·exact⟨fun _=>⟨.none,rfl,trivial⟩,fun _=>rfl⟩
theorem sm_good{p q:Nat × Nat × Bool}{P Q:Pt (Zp pB)}(hp:rlW Subtype.val p P)(hq:rlW Subtype.val q Q)(oP:P.On (zpField prB) b3)(h1:HW p=true)(h2:HW q=true):SMW p q=(cnW Subtype.val (psum (zpField prB) P Q),0):=smPW_v nW curveB hp hq oP h1 h2
theorem twice_g:∃ c:Zp pB,psum (zpField prB) GB GB=.some ⟨1368015179489954701390400359078579693043519447331113978918064868415326638035,by decide +kernel⟩ c:=by
 have hJ:Jac (zpField prB) ((⟨1,by decide⟩,⟨2,by decide⟩,(zpField prB).one):Zp pB × Zp pB × Zp pB) GB:=⟨(zpField prB).one_ne,by decide +kernel,by decide +kernel⟩
 have g:=jac_ptw curveB onGB hJ;cases hq:psum (zpField prB) GB GB with
 | none =>
  rw[hq]at g;have g2:(ptw (zpField prB).toCRing ((⟨1,by decide⟩,⟨2,by decide⟩,(zpField prB).one):Zp pB × Zp pB × Zp pB)).2.2=(zpField prB).zero:=g;exact absurd g2 (by decide +kernel)
 | some a c =>
  rw[hq]at g;obtain⟨_,g2,_⟩:=g;refine⟨c,?_⟩;congr 1;refine(zpField prB).cancel (d:=⟨16,by decide⟩) (by decide +kernel) ?_;have e:(zpField prB).mul (ptw (zpField prB).toCRing ((⟨1,by decide⟩,⟨2,by decide⟩,(zpField prB).one):Zp pB × Zp pB × Zp pB)).2.2 (ptw (zpField prB).toCRing ((⟨1,by decide⟩,⟨2,by decide⟩,(zpField prB).one):Zp pB × Zp pB × Zp pB)).2.2=(⟨16,by decide⟩:Zp pB):=by decide +kernel
  rw[e]at g2;rw[<- g2];decide +kernel
theorem lv_is:lvB SMW=true:=by
 obtain⟨c,hc⟩:=twice_g;have h1:HW g1=true:=(HW_iff g1).2 ⟨GB,rfl,onGB⟩;have e:=sm_good (p:=g1) (q:=g1) (P:=GB) (Q:=GB) rfl rfl onGB h1 h1;rw[hc]at e;unfold lvB;rw[e];show(bif (bif (bif (bif eqN nB nB then eqN 1 1 else false)then !false else false)then eqI 0 0 else false)then eqI (limb 3 1368015179489954701390400359078579693043519447331113978918064868415326638035) 217937391675185666 else false)=true;decide +kernel
end Sy
open Go.RowKit
namespace Sy
theorem tms2_ok{TW:(N2 × N2 × N2)->(N2 × N2 × N2) × N2}{PL:(N2 × N2 × N2)->(N2 × N2 × Bool)->(N2 × N2 × N2) × N2}(oT:∀ a,(jS2 (TW a).1).ok)(oP:∀ a b,(jS2 a).ok->(pS2 b).ok->(jS2 (PL a b).1).ok)(kk:Nat){P:N2 × N2 × Bool}(op:(pS2 P).ok):∀ s x,(jS2 x).ok->(jS2 (tms2 TW PL kk P s x)).ok
 | 0,_,h=>h
 | s+1,x,_=>tms2_ok oT oP kk op s _ (by
   unfold trd2;cases eqI (bkI kk s) 1
   ·exact oT _
   ·exact oP _ _ (oT _) op)
theorem oA2(a b:N2):(F2s (A2 a b)).ok:=F2v_ok ltB _
theorem oS2(a b:N2):(F2s (S2 a b)).ok:=F2v_ok ltB _
theorem oM2(a b:N2):(F2s (M2 a b)).ok:=F2v_ok ltB _
def FTT:N2->N2->Bool:=fit2 A2 M2
def TWT:(N2 × N2 × N2)->(N2 × N2 × N2) × N2:=ptw2 A2 S2 M2
def PLT:(N2 × N2 × N2)->(N2 × N2 × Bool)->(N2 × N2 × N2) × N2:=ppl2 A2 S2 M2
def PTT:(N2 × N2 × N2)->(N2 × N2 × Bool):=pnt2 M2 (pi2 pB)
def TMT(n:Nat)(P:N2 × N2 × Bool):N2 × N2 × N2:=tms2 TWT PLT n P (bl n 256) zJ2
def HT:(N2 × N2 × Bool)->Bool:=hld2 FTT TMT
def SMT:(N2 × N2 × Bool)->(N2 × N2 × Bool)->(N2 × N2 × Bool) × Int:=smP2 HT PLT PTT
def PDT:Nat->(N2 × N2 × Bool)->(N2 × N2 × Bool) × Int:=pdP2 HT TMT PTT
theorem hF2:Is2c 88 (gNN2 fun a b=>SV.b (FTT a b)):=fit2_is Add2_at Mul2_at (below2_is Add2_at)
theorem hT2:Is2c 122 (gJ2 fun a=>SV.tu (jS2 (TWT a).1) (F2s (TWT a).2)):=twice2_is oA2 oS2 oM2 Add2_at Sub2_at Mul2_at
theorem hP2:Is2c 91 (gJP2 fun a b=>SV.tu (jS2 (PLT a b).1) (F2s (PLT a b).2)):=plus2_is oA2 oS2 oM2 Add2_at Sub2_at Mul2_at hT2
theorem hQ2:Is2c 93 (gJ2 fun a=>pS2 (PTT a)):=point2_is oM2 Mul2_at Inv2_at
theorem oT2(a:N2 × N2 × N2):(jS2 (TWT a).1).ok:=⟨oS2 _ _,oS2 _ _,oM2 _ _,trivial⟩
theorem oP2(a:N2 × N2 × N2)(b:N2 × N2 × Bool)(ha:(jS2 a).ok)(hb:(pS2 b).ok):(jS2 (PLT a b).1).ok:=(ppl2_ok oA2 oS2 oM2 ha hb).1
theorem hX2:Is2c 89 (gKP2 fun n P=>jS2 (TMT n P)):=times2_is (B:=fun k=>bl k 256) (fun k=>bl_le k 256) (fun _ _ _=>cLen_ok) oT2 oP2 (fun n _ _ op=>tms2_ok oT2 oP2 n op _ _ ⟨F2z_ok,F2z_ok,F2z_ok,trivial⟩) hT2 hP2
theorem hH2:Is2c 50 (gP2 fun a=>SV.b (HT a)):=holds2_is hF2 hX2
theorem oQ2(a:N2 × N2 × N2):(pS2 (PTT a)).ok:=pnt2_ok oM2 a
theorem tOn:Is0 18 shP2 fun a=>.b (HT a):=OnTw_is hH2
theorem tAdd:Is00 19 shP2 shP2 fun a b=>tpS2 (SMT a b):=AddTw_is (fun a b=>smP2_ok oQ2 a b) (sum2_is oQ2 hH2 hP2 hQ2)
theorem tMul:Is00 20 shW shP2 fun n a=>tpS2 (PDT n a):=MulTw_is (fun n a=>pdP2_ok oQ2 n a) (product2_is oQ2 hH2 hX2 hQ2)
def ORT:N2 × N2 × Bool->Bool:=onT isP SQR TMR (MR (IR (9,1)).1 (3,0))
theorem rOnT:Is0 17 shP2 fun P=>.b (ORT P):=ronT_is is_is Tmul_at Tinv_at rQ rX
/-! Numbers. -/
theorem nT:Nm2 FT2 (v2 (m:=pB)) A2 S2 M2 (pi2 pB):=nm2P prB (by decide)
theorem nTR:Nm2 FT2 (v2 (m:=pB)) AR SR MR IR:=nm2R prB ltB (by decide)
theorem sT:Sml FT2 (v2 (m:=pB)):=⟨by decide +kernel,by decide +kernel,by decide +kernel,by decide +kernel⟩
theorem xi_ne:((⟨9,by decide⟩,⟨1,by decide⟩):Zp pB × Zp pB)≠(K2 prB).zero:=by decide +kernel
theorem back_b{K:Type}(F:CField K){x y b:K}(hx:x≠F.zero)(h:F.mul x b=y):F.mul (F.inv x) y=b:=by
 rw[<- h,<- F.mul_assoc,F.mul_comm (F.inv x),F.mul_inv _ hx,F.one_mul]
theorem docB:MR (IR (9,1)).1 (3,0)=v2 bT:=by
 have e0:((9,1):N2)=v2 ((⟨9,by decide⟩,⟨1,by decide⟩):Zp pB × Zp pB):=rfl;rw[e0,inv_v nTR (a:=(⟨9,by decide⟩,⟨1,by decide⟩)) xi_ne];exact(nTR.mul _ (⟨3,by decide⟩,⟨0,by decide⟩)).trans (congrArg v2 (back_b FT2 xi_ne bT_mul))
def Val2(p:N2 × N2 × Bool):Prop:=∃ P:Pt (Zp pB × Zp pB),rl2 v2 p P/\P.On FT2 bT/\nmul FT2 nB P=.none
theorem nB_lt:nB<2^256:=by decide +kernel
theorem rl_some(a c:Zp pB × Zp pB):rl2 v2 (v2 a,v2 c,false) (Pt.some a c):=rfl
theorem zr2_iff{K:Type}[DecidableEq K]{F:CField K}{v:K->N2}{A S M:N2->N2->N2}{I:N2->N2 × Bool}(h:Nm2 F v A S M I)(T:K × K × K):zr2 (vJ2 v T)=true↔T.2.2=F.zero:=by
 rw[zr2_v h];exact decide_eq_true_iff
theorem jac_dec{K:Type}{F:CField K}{T:K × K × K}{P:Pt K}(h:Jac F T P):T.2.2=F.zero↔P=.none:=by
 cases P with
 | none=>exact⟨fun _=>rfl,fun _=>h⟩
 | some x y=>exact⟨fun e=>absurd e h.1,fun e=>by cases e⟩
theorem tm2_none{K:Type}[DecidableEq K]{F:CField K}{b:K}{v:K->N2}{A S M:N2->N2->N2}{I:N2->N2 × Bool}(h:Nm2 F v A S M I)(hc:Curve F b){P:Pt K}(hP:P.On F b){p:N2 × N2 × Bool}(hr:rl2 v p P){kk:Nat}(hk:kk<2^256):zr2 (tms2 (ptw2 A S M) (ppl2 A S M) kk p (bl kk 256) zJ2)=true↔nmul F kk P=.none:=by
 obtain⟨T,e1,e2⟩:=tm2_v h hc hP hr hk;rw[e1,zr2_iff h];exact jac_dec e2
theorem tmT_none{p:N2 × N2 × Bool}{P:Pt (Zp pB × Zp pB)}(hp:rl2 v2 p P)(oP:P.On FT2 bT){k:Nat}(hk:k<2^256):zr2 (TMT k p)=true↔nmul FT2 k P=.none:=tm2_none nT curveT oP hp hk
theorem HT_iff(p:N2 × N2 × Bool):HT p=true↔Val2 p:=by
 obtain⟨x,y,n⟩:=p;cases n
 ·have hf:=fit2_v nT (b:=bT) bT_v (fun n=>bel2 prB n) x y
  have e:HT (x,y,false)=(bif FTT x y then zr2 (TMT nB (x,y,false))else false):=rfl;rw[e];constructor
  ·intro h
   cases h1:FTT x y
   ·rw[h1]at h;cases h
   ·rw[h1,cond_true]at h
    obtain⟨a,c,rfl,rfl,ho⟩:=hf.1 h1;have oP:(Pt.some a c).On FT2 bT:=ho;have g3:=(tmT_none (rl_some a c) oP nB_lt).1 h;exact⟨.some a c,rl_some a c,oP,g3⟩
  ·rintro⟨P,h1,oP,h2⟩
   cases P with
   | none=>cases h1
   | some a c =>
    obtain rfl:x=v2 a:=congrArg Prod.fst h1;obtain rfl:y=v2 c:=congrArg (fun t=>t.2.1) h1;have hF:FTT (v2 a) (v2 c)=true:=hf.2 ⟨a,c,rfl,rfl,oP⟩;rw[hF,cond_true];exact(tmT_none (rl_some a c) oP nB_lt).2 h2
 ·exact⟨fun _=>⟨.none,rfl,trivial,nmul_none _⟩,fun _=>rfl⟩
theorem tmT_good{p:N2 × N2 × Bool}{P:Pt (Zp pB × Zp pB)}(hp:rl2 v2 p P)(oP:P.On FT2 bT){k:Nat}(hk:k<2^256):TMR k p=cn2 v2 (nmul FT2 k P):=rtP_v nTR sT curveT oP hp hk
theorem sqT_iff(a c:Zp pB × Zp pB):SQR (v2 a,v2 c,false) (v2 bT)=true↔OnC FT2.toCRing bT a c:=sqD_v nTR (b:=bT) a c false
theorem ORT_iff(p:N2 × N2 × Bool):ORT p=true↔Val2 p:=by
 obtain⟨x,y,n⟩:=p;unfold ORT;rw[docB];cases n
 ·have e:onT isP SQR TMR (v2 bT) (x,y,false)=(bif lowT isP (x,y,false)then false else bif SQR (x,y,false) (v2 bT)then (TMR nB (x,y,false)).2.2 else false):=rfl
  rw[e];have low:lowT isP (x,y,false)=false↔(x.1<pB/\x.2<pB)/\y.1<pB/\y.2<pB:=by
   unfold lowT;rw[<- isP_iff,<- isP_iff,<- isP_iff,<- isP_iff];show(bif (bif (bif !isP x.1 then true else !isP x.2)then true else !isP y.1)then true else !isP y.2)=false↔_;cases isP x.1 <;> cases isP x.2 <;> cases isP y.1 <;> cases isP y.2 <;> simp
  constructor
  ·intro h
   cases h0:lowT isP (x,y,false)
   ·rw[h0,cond_false]at h
    obtain⟨⟨l1,l2⟩,l3,l4⟩:=low.1 h0;obtain⟨a,rfl⟩:∃ a:Zp pB × Zp pB,x=v2 a:=⟨(⟨x.1,l1⟩,⟨x.2,l2⟩),rfl⟩
    obtain⟨c,rfl⟩:∃ a:Zp pB × Zp pB,y=v2 a:=⟨(⟨y.1,l3⟩,⟨y.2,l4⟩),rfl⟩
    cases h1:SQR (v2 a,v2 c,false) (v2 bT)
    ·rw[h1]at h;cases h
    ·rw[h1,cond_true]at h
     have oP:(Pt.some a c).On FT2 bT:=(sqT_iff a c).1 h1;rw[tmT_good (rl_some a c) oP nB_lt]at h;refine⟨.some a c,rfl,oP,?_⟩;cases hn:nmul FT2 nB (.some a c)with
     | none=>rfl
     | some _ _=>rw[hn]at h;cases h
   ·rw[h0]at h;cases h
  ·rintro⟨P,h1,oP,h2⟩
   cases P with
   | none=>cases h1
   | some a c =>
    obtain rfl:x=v2 a:=congrArg Prod.fst h1;obtain rfl:y=v2 c:=congrArg (fun t=>t.2.1) h1;rw[low.2 ⟨⟨a.1.2,a.2.2⟩,c.1.2,c.2.2⟩,cond_false,(sqT_iff a c).2 oP,cond_true,tmT_good (rl_some a c) oP nB_lt,h2];rfl
 ·exact⟨fun _=>⟨.none,rfl,trivial,nmul_none _⟩,fun _=>rfl⟩
theorem HT_is(p:N2 × N2 × Bool):HT p=ORT p:=by
 have h:=(HT_iff p).trans (ORT_iff p).symm;cases h1:HT p <;> cases h2:ORT p
 ·rfl
 ·rw[h1,h2]at h;exact absurd (h.2 rfl) (by decide)
 ·rw[h1,h2]at h;exact absurd (h.1 rfl) (by decide)
 ·rfl
theorem smT_bad{p q:N2 × N2 × Bool}(h:HT p=false\/HT q=false):SMT p q=((z2,z2,true),81):=by
 unfold SMT smP2;rcases h with h | h
 ·rw[h];rfl
 ·rw[h];cases HT p <;> rfl
theorem pdT_bad{p:N2 × N2 × Bool}(k:Nat)(h:HT p=false):PDT k p=((z2,z2,true),81):=by
 unfold PDT pdP2;rw[h];rfl
theorem twD_cn:∀ P:Pt (Zp pB × Zp pB),twD (cn2 v2 P)=cn2 v2 P
 | .none=>rfl
 | .some _ _=>rfl
theorem eqTw_self(a:N2 × N2 × Bool):eqTw a a=true:=decide_eq_true ⟨⟨rfl,rfl⟩,⟨rfl,rfl⟩,rfl⟩
theorem eqB_self(a:Bool):eqB a a=true:=by cases a <;> rfl
theorem pairing_twist(p q:N2 × N2 × Bool)(k:Nat)(op:(pS2 p).ok)(oq:(pS2 q).ok)(ok:k<2^256)(w:World) :
  Calls Tryz.prog 4 #[(pS2 p).val o0,(pS2 q).val o0,(SV.w k).val o0] w fun e w'=>e=.returned (.bool true)/\Below w.heap.size w w' :=
 twist_law rOnT tAdd tMul tOn rU rX live1 p q k op oq ok (by rw[HT_is];exact eqB_self _)
  (fun h=>by
   have h:=(HT_is p).trans h;rw[smT_bad (.inl h),pdT_bad k h];exact⟨rfl,rfl,rfl,rfl⟩)
  (fun h=>by
   obtain⟨P,hp,oP,_⟩:=(ORT_iff p).1 h;have e:PDT k p=(cn2 v2 (nmul FT2 k P),0):=pdP2_v nT curveT hp oP ((HT_is p).trans h) ok;rw[e,tmT_good hp oP ok,twD_cn];exact⟨eqTw_self _,rfl⟩)
  (fun _ h=>by
   rw[smT_bad (.inr ((HT_is q).trans h))];exact⟨rfl,rfl⟩)
  (fun h h'=>by
   obtain⟨P,hp,oP,_⟩:=(ORT_iff p).1 h;obtain⟨Q,hq,_,_⟩:=(ORT_iff q).1 h';have e:SMT p q=(cn2 v2 (psum FT2 P Q),0):=smP2_v nT curveT hp hq oP ((HT_is p).trans h) ((HT_is q).trans h');have e2:twD (SUR p q)=cn2 v2 (psum FT2 P Q):=smR_v nTR curveT hp hq;rw[e,e2];exact⟨eqTw_self _,rfl⟩) lv_is w
end Sy
open Sy in
theorem ptwist_any(x x1 y y1 u u1 v v1 k:Nat)(n nq:Bool)(hx:x<2^256)(hx1:x1<2^256)(hy:y<2^256)(hy1:y1<2^256)(hu:u<2^256)(hu1:u1<2^256)(hv:v<2^256)(hv1:v1<2^256)(hk:k<2^256)(w:World):Calls Tryz.prog 4 #[.agg (tc x x1 y y1 n),.agg (tc u u1 v v1 nq),.agg (pw k)] w fun r w'=>r=.returned (.bool true)/\Below w.heap.size w w':=by
 have h:=pairing_twist ((x,x1),(y,y1),n) ((u,u1),(v,v1),nq) k ⟨⟨hx,hx1,trivial⟩,⟨hy,hy1,trivial⟩,trivial,trivial⟩ ⟨⟨hu,hu1,trivial⟩,⟨hv,hv1,trivial⟩,trivial,trivial⟩ hk w;rw[show(pS2 ((x,x1),(y,y1),n)).val o0=.agg (tc x x1 y y1 n) by kernel_rfl,show(pS2 ((u,u1),(v,v1),nq)).val o0=.agg (tc u u1 v v1 nq) by kernel_rfl]at h;exact h
end Go.Proofs.YtadfjjfklihaaaaGreat
namespace Go.Proofs.YtadfjjfklihaaaaGreat.pairingTwist
open Go.ChangeShapes Go.WideShapes Go.ChangeAt Go.RowKit
theorem contract(H:Type)(enc:TypeId × Value->H)(W:World)(base:Nat)(args:Array Value)(ds gs:List (DataW H))(before:List MemPlace)
  (hval:∀(j:Nat) t v,Tryz.f4.params[j]?=some t->args[j]?=some v->Value.okWide Tryz.prog W .any base t v)
  (hW:DataW.Whole enc Tryz.prog Tryz.f4.params.toList Rows.pairingTwistSpec.vars false W args.toList ds gs before) :
  Calls Tryz.prog 4 args W fun e W'=>∃ v,e=.returned v/\Rows.pairingTwistSpec.post enc Tryz.prog Tryz.f4 false true false false W args v W':=by
 have hW':=hW;obtain⟨p,q,hA0,hV,rfl,hfz,hnd⟩:=hW;have hA:DataW.TrodAll enc Tryz.prog W 0 (fun _=>true) true Tryz.f4.params.toList args.toList ds p:=hA0;rw[Tryz.params4]at hA hval;obtain⟨v0,vs0,d0,ds0,p0,q0,hargs,rfl,rfl,h0,r0⟩:=trodAll_cons hA;obtain⟨v1,vs1,d1,ds1,p1,q1,rfl,rfl,rfl,h1,r1⟩:=trodAll_cons r0;obtain⟨v2,vs2,d2,ds2,p2,q2,rfl,rfl,rfl,h2,r2⟩:=trodAll_cons r1;obtain⟨rfl,rfl,rfl⟩:=trodAll_nil r2;obtain rfl:args=#[v0,v1,v2]:=by cases args;simp_all
 obtain⟨rfl,rfl⟩:=trodVars_none hV;obtain⟨x0,u0,y0,z0,n0,rfl,X0,U0,Y0,Z0⟩:=open_tw (hval 0 47 v0 rfl rfl) h0;obtain⟨x1,u1,y1,z1,n1,rfl,X1,U1,Y1,Z1⟩:=open_tw (hval 1 47 v1 rfl rfl) h1;obtain⟨x2,rfl,X2⟩:=open_pw (hval 2 24 v2 rfl rfl) h2;clear hA0;refine(ptwist_any x0 u0 y0 z0 x1 u1 y1 z1 x2 n0 n1 X0 U0 Y0 Z0 X1 U1 Y1 Z1 X2 W).mono fun e W' ⟨he,hb⟩=>?_;subst he;refine⟨_,rfl,_,_,_,[],p0++(p1++(p2++[])),[],hW',trodAll_cons_mk (shut_bool Tryz.underlying4 _) trodAll_mk0,trodAll_cons_mk (Below.trod laidOutF (by kernel_rfl) (of_decide_eq_true (by kernel_rfl)) h0 hb (fun x hx=>hW'.lt x (by simp[hx]))) (trodAll_cons_mk (Below.trod laidOutF (by kernel_rfl) (of_decide_eq_true (by kernel_rfl)) h1 hb (fun x hx=>hW'.lt x (by simp[hx]))) (trodAll_cons_mk (Below.trod laidOutF (by kernel_rfl) (of_decide_eq_true (by kernel_rfl)) h2 hb (fun x hx=>hW'.lt x (by simp[hx]))) trodAll_mk0)),rfl,hb.frame _,fun h=>by cases h⟩
theorem laid_met(os:Os):laidMet Tryz.prog Rows.pairingTwistRow.laid ((bareWorld os).forCall (fun _ _=>0) ⟨#[],#[.agg #[.int .u64 0,.int .u64 0,.int .u64 0,.int .u64 0,.int .u64 0,.int .u64 0,.int .u64 0,.int .u64 0,.int .u64 0,.int .u64 0,.int .u64 0,.int .u64 0,.int .u64 0,.int .u64 0,.int .u64 0,.int .u64 0,.bool false],.agg #[.int .u64 0,.int .u64 0,.int .u64 0,.int .u64 0,.int .u64 0,.int .u64 0,.int .u64 0,.int .u64 0,.int .u64 0,.int .u64 0,.int .u64 0,.int .u64 0,.int .u64 0,.int .u64 0,.int .u64 0,.int .u64 0,.bool false],.agg #[.int .u64 0,.int .u64 0,.int .u64 0,.int .u64 0]],[]⟩).memory :=
 laidMet_of_run' 80 (by kernel_rfl) (by kernel_rfl)
theorem reads(os:Os){H:Type}(enc:TypeId × Value->H):∃ places,DataW.whole enc Tryz.prog ((bareWorld os).forCall (fun _ _=>0) ⟨#[],#[.agg #[.int .u64 0,.int .u64 0,.int .u64 0,.int .u64 0,.int .u64 0,.int .u64 0,.int .u64 0,.int .u64 0,.int .u64 0,.int .u64 0,.int .u64 0,.int .u64 0,.int .u64 0,.int .u64 0,.int .u64 0,.int .u64 0,.bool false],.agg #[.int .u64 0,.int .u64 0,.int .u64 0,.int .u64 0,.int .u64 0,.int .u64 0,.int .u64 0,.int .u64 0,.int .u64 0,.int .u64 0,.int .u64 0,.int .u64 0,.int .u64 0,.int .u64 0,.int .u64 0,.int .u64 0,.bool false],.agg #[.int .u64 0,.int .u64 0,.int .u64 0,.int .u64 0]],[]⟩).memory Tryz.f4.params.toList Rows.pairingTwistSpec.vars false (#[.agg #[.int .u64 0,.int .u64 0,.int .u64 0,.int .u64 0,.int .u64 0,.int .u64 0,.int .u64 0,.int .u64 0,.int .u64 0,.int .u64 0,.int .u64 0,.int .u64 0,.int .u64 0,.int .u64 0,.int .u64 0,.int .u64 0,.bool false],.agg #[.int .u64 0,.int .u64 0,.int .u64 0,.int .u64 0,.int .u64 0,.int .u64 0,.int .u64 0,.int .u64 0,.int .u64 0,.int .u64 0,.int .u64 0,.int .u64 0,.int .u64 0,.int .u64 0,.int .u64 0,.int .u64 0,.bool false],.agg #[.int .u64 0,.int .u64 0,.int .u64 0,.int .u64 0]]:Array Value).toList 80=some ([.agg [.agg [.agg [.lit (.int .u64 0),.lit (.int .u64 0),.lit (.int .u64 0),.lit (.int .u64 0)],.agg [.lit (.int .u64 0),.lit (.int .u64 0),.lit (.int .u64 0),.lit (.int .u64 0)]],.agg [.agg [.lit (.int .u64 0),.lit (.int .u64 0),.lit (.int .u64 0),.lit (.int .u64 0)],.agg [.lit (.int .u64 0),.lit (.int .u64 0),.lit (.int .u64 0),.lit (.int .u64 0)]],.lit (.bool false)],.agg [.agg [.agg [.lit (.int .u64 0),.lit (.int .u64 0),.lit (.int .u64 0),.lit (.int .u64 0)],.agg [.lit (.int .u64 0),.lit (.int .u64 0),.lit (.int .u64 0),.lit (.int .u64 0)]],.agg [.agg [.lit (.int .u64 0),.lit (.int .u64 0),.lit (.int .u64 0),.lit (.int .u64 0)],.agg [.lit (.int .u64 0),.lit (.int .u64 0),.lit (.int .u64 0),.lit (.int .u64 0)]],.lit (.bool false)],.agg [.lit (.int .u64 0),.lit (.int .u64 0),.lit (.int .u64 0),.lit (.int .u64 0)]],[],places) :=
 ⟨[],by kernel_rfl⟩
theorem lifted(os:Os)(started:os.Started)(H:Type)(enc:TypeId × Value->H)(F:Stop.Interp) :
  ReturnsInHanded {} Tryz.checked os 4 .any ((OpenSpec.ofChange Rows.pairingTwistSpec).preRow enc Tryz.prog Tryz.f4 Rows.pairingTwistRow.domain false Rows.pairingTwistRow.laid) (((OpenSpec.ofChange Rows.pairingTwistSpec).at F).post enc Tryz.prog Tryz.f4 false true false false):=by
 obtain⟨places,hx⟩:=reads os enc;refine returnsInHanded_of_row (C:=Tryz.checked) (s:=OpenSpec.ofChange Rows.pairingTwistSpec) ownF started (by kernel_rfl) Tryz.func4
  (witness_row_at (enc:=enc) (C:=Tryz.checked) false (bareWorld os) #[.agg #[.int .u64 0,.int .u64 0,.int .u64 0,.int .u64 0,.int .u64 0,.int .u64 0,.int .u64 0,.int .u64 0,.int .u64 0,.int .u64 0,.int .u64 0,.int .u64 0,.int .u64 0,.int .u64 0,.int .u64 0,.int .u64 0,.bool false],.agg #[.int .u64 0,.int .u64 0,.int .u64 0,.int .u64 0,.int .u64 0,.int .u64 0,.int .u64 0,.int .u64 0,.int .u64 0,.int .u64 0,.int .u64 0,.int .u64 0,.int .u64 0,.int .u64 0,.int .u64 0,.int .u64 0,.bool false],.agg #[.int .u64 0,.int .u64 0,.int .u64 0,.int .u64 0]] rfl (by kernel_rfl) (by kernel_rfl) (by kernel_rfl)
   (OpenSpec.preRow_of_cond 80 hx (by kernel_rfl) (fun k hk=>by cases hk) (by kernel_rfl) (laid_met os))) ?_
 intro W base args ds gs before hval hW _ _ _ _ _ _;exact contract H enc W base args ds gs before hval hW
theorem said:Rows.PairingTwistSaid :=
 OpenClaim.holds_of_cond 4 Tryz.f4 rfl rfl rfl rfl rfl rfl rfl ⟨rfl,rfl,rfl,rfl,rfl⟩ rfl rfl rfl rfl rfl (by kernel_rfl) Tryz.func4 (by kernel_rfl)
  (of_decide_eq_true (by kernel_rfl)) (by unfold Func.isWrapper;rw[if_neg (of_decide_eq_false (by kernel_rfl))];exact⟨rfl,rfl⟩)
  (fun os started H enc _ F=>by rw[OpenClaim.pre_eq_preRow];exact lifted os started H enc F)
end Go.Proofs.YtadfjjfklihaaaaGreat.pairingTwist
