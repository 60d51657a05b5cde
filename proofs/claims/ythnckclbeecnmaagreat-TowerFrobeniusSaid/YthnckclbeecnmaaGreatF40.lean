/- bailiwicklaw10.TowerFrobenius: the statement about it: whatever the input: true; the input reads as it did. CONDITIONS: none. (Cut to what is reached, written closely: TwBi · TwFr · TwFx · TwFz · TwLf · TowerFrobenius.) -/
import Derived.Test.YthnckclbeecnmaaGreatF25
import Derived.Test.YthnckclbeecnmaaGreatF38
import Derived.Test.YthnckclbeecnmaaGreatF39
import Derived.Test.YthnckclbeecnmaaGreatF27
set_option linter.all false
set_option maxRecDepth 100000
set_option maxHeartbeats 8000000
namespace Go.Proofs.YthnckclbeecnmaaGreat
def bin:Nat->Nat->Nat
 | _,0=>1
 | 0,_+1=>0
 | n+1,k+1=>bin n k+bin n (k+1)
theorem bin_over:∀ {n k:Nat},n<k->bin n k=0
 | _,0,h=>by omega
 | 0,_+1,_=>rfl
 | n+1,k+1,h=>by
  show bin n k+bin n (k+1)=0;rw[bin_over (by omega),bin_over (by omega)]
theorem bin_self:∀ n,bin n n=1
 | 0=>rfl
 | n+1=>by
  show bin n n+bin n (n+1)=1;rw[bin_self n,bin_over (Nat.lt_succ_self n)]
theorem bin_mul:∀ n k,(k+1)*bin (n+1) (k+1)=(n+1)*bin n k
 | 0,0=>rfl
 | 0,k+1=>by
  show(k+1+1)*(bin 0 (k+1)+bin 0 (k+1+1))=(0+1)*bin 0 (k+1);simp[bin]
 | n+1,0=>by
  have h:=bin_mul n 0;have e:bin (n+1) 0=1:=by cases n <;> rfl
  have e2:bin n 0=1:=by cases n <;> rfl
  show(0+1)*(bin (n+1) 0+bin (n+1) (0+1))=(n+1+1)*bin (n+1) 0;rw[e2]at h;rw[e];omega
 | n+1,k+1=>by
  have h1:=bin_mul n k;have h2:=bin_mul n (k+1);show(k+1+1)*(bin (n+1) (k+1)+bin (n+1) (k+1+1))=(n+1+1)*bin (n+1) (k+1);have e:bin (n+1) (k+1)=bin n k+bin n (k+1):=rfl;rw[Nat.mul_add,h2,Nat.add_mul (k+1) 1,h1,Nat.add_mul (n+1) 1,Nat.one_mul,e,Nat.mul_add];omega
theorem bin_prime{p k:Nat}(hp:Pr p)(h0:k+1<p):p∣bin p (k+1):=by
 obtain⟨q,rfl⟩:∃ q,p=q+1:=⟨p - 1,by omega⟩
 have h:=bin_mul q k;rcases hp.dvd_mul (a:=k+1) (b:=bin (q+1) (k+1)) ⟨bin q k,h⟩with hd | hd
 ·exact absurd (Nat.le_of_dvd (by omega) hd) (by omega)
 ·exact hd
namespace CRing
variable {K:Type} (C:CRing K)
def sm:Nat->K->K
 | 0,_=>C.zero
 | n+1,x=>C.add (sm n x) x
theorem sm_add(m:Nat)(x:K):∀ n,C.sm (m+n) x=C.add (C.sm m x) (C.sm n x)
 | 0=>(C.add_zero _).symm
 | n+1=>by
  show C.add (C.sm (m+n) x) x=C.add (C.sm m x) (C.add (C.sm n x) x);rw[sm_add m x n,C.add_assoc]
theorem sm_zero:∀ n,C.sm n C.zero=C.zero
 | 0=>rfl
 | n+1=>by
  show C.add (C.sm n C.zero) C.zero=_;rw[sm_zero n,C.add_zero]
theorem sm_mul(m:Nat)(x:K):∀ n,C.sm (m*n) x=C.sm n (C.sm m x)
 | 0=>rfl
 | n+1=>by
  show C.sm (m*n+m) x=C.add (C.sm n (C.sm m x)) (C.sm m x);rw[sm_add,sm_mul m x n]
theorem mul_sm(a x:K):∀ n,C.mul (C.sm n x) a=C.sm n (C.mul x a)
 | 0=>C.zero_mul _
 | n+1=>by
  show C.mul (C.add (C.sm n x) x) a=C.add (C.sm n (C.mul x a)) (C.mul x a);rw[C.add_mul,mul_sm a x n]
def sumR(f:Nat->K):Nat->K
 | 0=>C.zero
 | m+1=>C.add (sumR f m) (f m)
theorem sumR_congr{f g:Nat->K}:∀ {m:Nat},(∀ k,k<m->f k=g k)->C.sumR f m=C.sumR g m
 | 0,_=>rfl
 | m+1,h=>by
  show C.add (C.sumR f m) (f m)=C.add (C.sumR g m) (g m);rw[sumR_congr fun k hk=>h k (by omega),h m (Nat.lt_succ_self m)]
theorem sumR_nought{f:Nat->K}:∀ {m:Nat},(∀ k,k<m->f k=C.zero)->C.sumR f m=C.zero
 | 0,_=>rfl
 | m+1,h=>by
  show C.add (C.sumR f m) (f m)=_;rw[sumR_nought fun k hk=>h k (by omega),h m (Nat.lt_succ_self m),C.add_zero]
theorem sumR_add(f g:Nat->K):∀ m,C.sumR (fun k=>C.add (f k) (g k)) m=C.add (C.sumR f m) (C.sumR g m)
 | 0=>(C.add_zero _).symm
 | m+1=>by
  show C.add (C.sumR (fun k=>C.add (f k) (g k)) m) (C.add (f m) (g m))=C.add (C.add (C.sumR f m) (f m)) (C.add (C.sumR g m) (g m));rw[sumR_add f g m,C.swap4]
theorem sumR_mul(f:Nat->K)(a:K):∀ m,C.mul (C.sumR f m) a=C.sumR (fun k=>C.mul (f k) a) m
 | 0=>C.zero_mul _
 | m+1=>by
  show C.mul (C.add (C.sumR f m) (f m)) a=C.add (C.sumR (fun k=>C.mul (f k) a) m) (C.mul (f m) a);rw[C.add_mul,sumR_mul f a m]
theorem sumR_head(f:Nat->K):∀ m,C.sumR f (m+1)=C.add (f 0) (C.sumR (fun k=>f (k+1)) m)
 | 0=>by
  show C.add C.zero (f 0)=C.add (f 0) C.zero;rw[C.add_comm]
 | m+1=>by
  show C.add (C.sumR f (m+1)) (f (m+1))=C.add (f 0) (C.add (C.sumR (fun k=>f (k+1)) m) (f (m+1)));rw[sumR_head f m,C.add_assoc]
def term(a b:K)(n k:Nat):K:=C.sm (bin n k) (C.mul (C.pow a (n - k)) (C.pow b k))
theorem binom(a b:K):∀ n,C.pow (C.add a b) n=C.sumR (C.term a b n) (n+1)
 | 0=>by
  show C.one=C.add C.zero (C.add C.zero (C.mul C.one C.one));rw[C.mul_one,C.zero_add,C.zero_add]
 | n+1=>by
  show C.mul (C.pow (C.add a b) n) (C.add a b)=_;rw[binom a b n,C.mul_add,sumR_mul,sumR_mul,sumR_head C (C.term a b (n+1)) (n+1)];have h1:C.sumR (fun k=>C.mul (C.term a b n k) a) (n+1)=C.sumR (fun k=>C.sm (bin n k) (C.mul (C.pow a (n+1 - k)) (C.pow b k))) (n+2):=by
   show _=C.add (C.sumR _ (n+1)) (C.sm (bin n (n+1)) _);rw[bin_over (Nat.lt_succ_self n)];show _=C.add (C.sumR _ (n+1)) C.zero;rw[C.add_zero];refine sumR_congr C fun k hk=>?_;unfold term;rw[mul_sm,show n+1 - k=n - k+1 by omega];show C.sm _ (C.mul (C.mul _ _) a)=C.sm _ (C.mul (C.mul (C.pow a (n - k)) a) _);rw[C.mul_assoc,C.mul_comm (C.pow b k) a,<- C.mul_assoc]
  have h2:C.sumR (fun k=>C.mul (C.term a b n k) b) (n+1)=C.sumR (fun k=>C.sm (bin n k) (C.mul (C.pow a (n - k)) (C.pow b (k+1)))) (n+1):=by
   refine sumR_congr C fun k hk=>?_;unfold term;rw[mul_sm,C.mul_assoc];rfl
  rw[h1,h2,sumR_head,C.add_assoc,<- sumR_add];have h3:C.sumR (fun k=>C.add (C.sm (bin n (k+1)) (C.mul (C.pow a (n+1 - (k+1))) (C.pow b (k+1)))) (C.sm (bin n k) (C.mul (C.pow a (n - k)) (C.pow b (k+1))))) (n+1)=C.sumR (fun k=>C.term a b (n+1) (k+1)) (n+1):=by
   refine sumR_congr C fun k hk=>?_;unfold term;rw[Nat.add_sub_add_right,<- sm_add,Nat.add_comm];rfl
  rw[h3];congr 1;unfold term;have e1:bin n 0=1:=by cases n <;> rfl
  have e2:bin (n+1) 0=1:=rfl;rw[e1,e2]
theorem dream{p:Nat}(hp:Pr p)(h0:∀ x,C.sm p x=C.zero)(a b:K):C.pow (C.add a b) p=C.add (C.pow a p) (C.pow b p):=by
 rw[binom];obtain⟨q,rfl⟩:∃ q,p=q+1:=⟨p - 1,by have:=hp.1;omega⟩
 show C.add (C.sumR (C.term a b (q+1)) (q+1)) (C.term a b (q+1) (q+1))=_;rw[sumR_head,sumR_nought C (f:=fun k=>C.term a b (q+1) (k+1)) (m:=q) fun k hk=>by
  obtain⟨d,hd⟩:=bin_prime hp (k:=k) (by omega);show C.sm (bin (q+1) (k+1)) _=_;rw[hd,sm_mul,h0,sm_zero],C.add_zero]
 unfold term;rw[bin_self,Nat.sub_self,show bin (q+1) 0=1 from rfl,Nat.sub_zero];show C.add (C.add C.zero (C.mul _ C.one)) (C.add C.zero (C.mul C.one _))=_;rw[C.mul_one,C.one_mul,C.zero_add,C.zero_add]
end CRing
open Sy
namespace CRing
variable {K:Type} (C:CRing K)
theorem mul_powC(a b:K):∀ n,C.pow (C.mul a b) n=C.mul (C.pow a n) (C.pow b n)
 | 0=>(C.mul_one _).symm
 | n+1=>by
  show C.mul (C.pow (C.mul a b) n) (C.mul a b)=C.mul (C.mul (C.pow a n) a) (C.mul (C.pow b n) b);rw[mul_powC a b n,C.mul4]
theorem one_pow:∀ n,C.pow C.one n=C.one
 | 0=>rfl
 | n+1=>by
  show C.mul (C.pow C.one n) C.one=_;rw[one_pow n,C.mul_one]
theorem pow_mulC(a:K)(m:Nat):∀ n,C.pow a (m*n)=C.pow (C.pow a m) n
 | 0=>rfl
 | n+1=>by
  show C.pow a (m*n+m)=C.mul (C.pow (C.pow a m) n) (C.pow a m);rw[C.pow_add,pow_mulC a m n]
theorem pow_hom{L:Type}(D:CRing L)(f:K->L)(h1:f C.one=D.one)(hm:∀ x y,f (C.mul x y)=D.mul (f x) (f y))(x:K):∀ n,f (C.pow x n)=D.pow (f x) n
 | 0=>h1
 | n+1=>by
  show f (C.mul (C.pow x n) x)=D.mul (D.pow (f x) n) (f x);rw[hm,pow_hom D f h1 hm x n]
theorem sm_ext2(d:K)(z:K × K):∀ n,(C.ext2 d).sm n z=(C.sm n z.1,C.sm n z.2)
 | 0=>rfl
 | n+1=>by
  show(C.ext2 d).add ((C.ext2 d).sm n z) z=_;rw[sm_ext2 d z n];rfl
theorem sm_ext3(d:K)(z:K × K × K):∀ n,(C.ext3 d).sm n z=(C.sm n z.1,C.sm n z.2.1,C.sm n z.2.2)
 | 0=>rfl
 | n+1=>by
  show(C.ext3 d).add ((C.ext3 d).sm n z) z=_;rw[sm_ext3 d z n];rfl
end CRing
section
variable {m:Nat} (hp:Pr m)
theorem sm1(x:Zp m):∀ n,((K1 hp).sm n x).1=n*x.1%m
 | 0=>by
  show 0=_;rw[Nat.zero_mul,Nat.zero_mod]
 | n+1=>by
  show(((K1 hp).sm n x).1+x.1)%m=_;rw[sm1 x n,Nat.mod_add_mod,Nat.add_mul,Nat.one_mul]
theorem ch1(x:Zp m):(K1 hp).sm m x=(K1 hp).zero:=zp_ext (by
 rw[sm1,Nat.mul_mod_right];rfl)
theorem ch2(z:Zp m × Zp m):(K2 hp).sm m z=(K2 hp).zero:=by
 unfold K2;rw[CRing.sm_ext2,ch1,ch1];rfl
theorem ch6(z:(Zp m × Zp m) × (Zp m × Zp m) × (Zp m × Zp m)):(K6 hp).sm m z=(K6 hp).zero:=by
 unfold K6;rw[CRing.sm_ext3,ch2,ch2,ch2];rfl
theorem ch12(z:Z12 m):(K12 hp).sm m z=(K12 hp).zero:=by
 unfold K12;rw[CRing.sm_ext2,ch6,ch6];rfl
theorem pow1(x:Zp m):∀ n,((K1 hp).pow x n).1=x.1^n%m
 | 0=>(Nat.mod_eq_of_lt hp.1).symm
 | n+1=>by
  show((K1 hp).pow x n).1*x.1%m=_;rw[pow1 x n,Nat.mod_mul_mod,Nat.pow_succ]
theorem frob1(x:Zp m):(K1 hp).pow x m=x:=zp_ext (by
 rw[pow1,fermat hp,Nat.mod_eq_of_lt x.2])
def up2(u:Zp m):Zp m × Zp m:=(u,(K1 hp).zero)
theorem up2_mul(u v:Zp m):up2 hp ((K1 hp).mul u v)=(K2 hp).mul (up2 hp u) (up2 hp v):=by
 refine Prod.ext ?_ ?_
 ·show(K1 hp).mul u v=(K1 hp).add ((K1 hp).mul u v) ((K1 hp).mul ((K1 hp).neg (K1 hp).one) ((K1 hp).mul (K1 hp).zero (K1 hp).zero))
  rw[CRing.mul_zero,CRing.mul_zero,CRing.add_zero]
 ·show(K1 hp).zero=(K1 hp).add ((K1 hp).mul u (K1 hp).zero) ((K1 hp).mul (K1 hp).zero v)
  rw[CRing.mul_zero,CRing.zero_mul,CRing.add_zero]
def ii:Zp m × Zp m:=((K1 hp).zero,(K1 hp).one)
theorem of_up2(z:Zp m × Zp m):z=(K2 hp).add (up2 hp z.1) ((K2 hp).mul (up2 hp z.2) (ii hp)):=by
 refine Prod.ext ?_ ?_
 ·show z.1=(K1 hp).add z.1 ((K1 hp).add ((K1 hp).mul z.2 (K1 hp).zero) ((K1 hp).mul ((K1 hp).neg (K1 hp).one) ((K1 hp).mul (K1 hp).zero (K1 hp).one)))
  simp only[CRing.mul_zero,CRing.zero_mul,CRing.add_zero]
 ·show z.2=(K1 hp).add (K1 hp).zero ((K1 hp).add ((K1 hp).mul z.2 (K1 hp).one) ((K1 hp).mul (K1 hp).zero (K1 hp).zero))
  simp only[CRing.mul_zero,CRing.mul_one,CRing.add_zero,CRing.zero_add]
theorem frob2(hi:(K2 hp).pow (ii hp) m=cj hp (ii hp))(z:Zp m × Zp m):(K2 hp).pow z m=cj hp z:=by
 have e:=of_up2 hp z;have u:∀ x:Zp m,(K2 hp).pow (up2 hp x) m=up2 hp x:=fun x=>by
  rw[<- CRing.pow_hom (K1 hp) (K2 hp) (up2 hp) rfl (up2_mul hp),frob1]
 have c:∀ x:Zp m,cj hp (up2 hp x)=up2 hp x:=fun x=>Prod.ext rfl (CRing.neg_zero (K1 hp));rw[e,CRing.dream (K2 hp) hp (ch2 hp),CRing.mul_powC,u,u,hi,cj_add,cj_mul,c,c]
end
theorem iiB:(K2 prB).pow (ii prB) pB=cj prB (ii prB):=by
 have h4:(K2 prB).pow (ii prB) 4=(K2 prB).one:=v2_inj prB (by decide +kernel);have h3:(K2 prB).pow (ii prB) 3=cj prB (ii prB):=v2_inj prB (by decide +kernel);have e:pB=4*(pB / 4)+3:=by decide
 rw[show(K2 prB).pow (ii prB) pB=(K2 prB).pow (ii prB) (4*(pB / 4)+3) from congrArg _ e,CRing.pow_add,CRing.pow_mulC,h4,CRing.one_pow,CRing.one_mul,h3]
theorem frobB(z:Zp pB × Zp pB):(K2 prB).pow z pB=cj prB z:=frob2 prB iiB z
open Sy
def pq2(p:Nat):Nat->Nat->Nat->Nat->Nat->Nat->Nat × Nat
 | 0,_,_,_,r,s=>(r,s)
 | f+1,e,a,b,r,s=>if e=0 then (r,s)else pq2 p f (e / 2) ((a*a+(p - b*b%p))%p) ((a*b+b*a)%p) (if e%2=1 then (r*a+(p - s*b%p))%p else r) (if e%2=1 then (r*b+s*a)%p else s)
theorem xi_pow_n:pq2 pB 260 ((pB - 1) / 6) 9 1 1 0=tnB:=by decide +kernel
section
variable {m:Nat} (hp:Pr m)
theorem mul_v(z y:Zp m × Zp m):v2 ((K2 hp).mul z y)=((z.1.1*y.1.1+(m - z.2.1*y.2.1%m))%m,(z.1.1*y.2.1+z.2.1*y.1.1)%m):=by
 refine Prod.ext ?_ ?_
 ·show((K1 hp).add ((K1 hp).mul z.1 y.1) ((K1 hp).mul ((K1 hp).neg (K1 hp).one) ((K1 hp).mul z.2 y.2))).1=_
  rw[CRing.mul_m1];show(z.1.1*y.1.1%m+(m - z.2.1*y.2.1%m)%m)%m=_;rw[Nat.mod_add_mod,Nat.add_mod_mod]
 ·show(z.1.1*y.2.1%m+z.2.1*y.1.1%m)%m=_
  rw[<- Nat.add_mod]
theorem pq2_is:∀(f e:Nat) (z y:Zp m × Zp m),e<2^f->pq2 m f e z.1.1 z.2.1 y.1.1 y.2.1=v2 ((K2 hp).mul y ((K2 hp).pow z e))
 | 0,e,z,y,h=>by
  obtain rfl:e=0:=by simpa using h
  show(y.1.1,y.2.1)=v2 ((K2 hp).mul y (K2 hp).one);rw[CRing.mul_one];rfl
 | f+1,e,z,y,h=>by
  unfold pq2;by_cases h0:e=0
  ·rw[if_pos h0,h0]
   show(y.1.1,y.2.1)=v2 ((K2 hp).mul y (K2 hp).one);rw[CRing.mul_one];rfl
  ·rw[if_neg h0]
   have hz:=mul_v hp z z;have hy:=mul_v hp y z;have z1:(z.1.1*z.1.1+(m - z.2.1*z.2.1%m))%m=((K2 hp).mul z z).1.1:=(congrArg Prod.fst hz).symm;have z2:(z.1.1*z.2.1+z.2.1*z.1.1)%m=((K2 hp).mul z z).2.1:=(congrArg Prod.snd hz).symm;have y1:(y.1.1*z.1.1+(m - y.2.1*z.2.1%m))%m=((K2 hp).mul y z).1.1:=(congrArg Prod.fst hy).symm;have y2:(y.1.1*z.2.1+y.2.1*z.1.1)%m=((K2 hp).mul y z).2.1:=(congrArg Prod.snd hy).symm;have q:(K2 hp).pow ((K2 hp).mul z z) (e / 2)=(K2 hp).pow z (2*(e / 2)):=by
    rw[CRing.mul_powC,<- CRing.pow_add,Nat.two_mul]
   have he:e / 2<2^f:=by rw[Nat.pow_succ]at h;omega
   rw[z1,z2,y1,y2];by_cases h1:e%2=1
   ·rw[if_pos h1,if_pos h1,pq2_is f (e / 2) ((K2 hp).mul z z) ((K2 hp).mul y z) he,q,CRing.mul_assoc]
    have e1:(K2 hp).mul z ((K2 hp).pow z (2*(e / 2)))=(K2 hp).pow z e:=by
     rw[CRing.mul_comm];show(K2 hp).pow z (2*(e / 2)+1)=_;rw[show 2*(e / 2)+1=e by omega]
    rw[e1]
   ·rw[if_neg h1,if_neg h1,pq2_is f (e / 2) ((K2 hp).mul z z) y he,q,show 2*(e / 2)=e by omega]
end
theorem lt_pow2 {e : Nat} (h : e < 2 ^ 256) (n : Nat) (hn : 256 ≤ n) : e < 2 ^ n := Nat.lt_of_lt_of_le h (Nat.pow_le_pow_right (by decide) hn)
theorem xi_pow:(K2 prB).pow (xi prB) ((pB - 1) / 6)=tB:=v2_inj prB (by
 have h:=pq2_is prB 260 ((pB - 1) / 6) (xi prB) (K2 prB).one (lt_pow2 (by decide) 260 (by decide));rw[CRing.one_mul]at h;rw[<- h];have e:v2 tB=tnB:=by decide +kernel
 rw[e];exact xi_pow_n)
open Sy
section
variable {m:Nat} (hp:Pr m)
def em(x:Zp m × Zp m):Z12 m:=((x,(K2 hp).zero,(K2 hp).zero),((K2 hp).zero,(K2 hp).zero,(K2 hp).zero))
def wk1:Z12 m:=(((K2 hp).zero,(K2 hp).zero,(K2 hp).zero),((K2 hp).one,(K2 hp).zero,(K2 hp).zero))
def wk2:Z12 m:=(((K2 hp).zero,(K2 hp).one,(K2 hp).zero),((K2 hp).zero,(K2 hp).zero,(K2 hp).zero))
def wk3:Z12 m:=(((K2 hp).zero,(K2 hp).zero,(K2 hp).zero),((K2 hp).zero,(K2 hp).one,(K2 hp).zero))
def wk4:Z12 m:=(((K2 hp).zero,(K2 hp).zero,(K2 hp).one),((K2 hp).zero,(K2 hp).zero,(K2 hp).zero))
def wk5:Z12 m:=(((K2 hp).zero,(K2 hp).zero,(K2 hp).zero),((K2 hp).zero,(K2 hp).zero,(K2 hp).one))
theorem em_mul(x y:Zp m × Zp m):em hp ((K2 hp).mul x y)=(K12 hp).mul (em hp x) (em hp y):=by
 rw[mul12_c];simp only[em,CRing.mul_zero,CRing.zero_mul,CRing.add_zero]
theorem wk_2:(K12 hp).mul (wk1 hp) (wk1 hp)=wk2 hp:=by
 rw[mul12_c];simp only[wk1,wk2,CRing.mul_zero,CRing.add_zero,CRing.zero_add,CRing.mul_one]
theorem wk_3:(K12 hp).mul (wk2 hp) (wk1 hp)=wk3 hp:=by
 rw[mul12_c];simp only[wk1,wk2,wk3,CRing.mul_zero,CRing.add_zero,CRing.zero_add,CRing.mul_one]
theorem wk_4:(K12 hp).mul (wk3 hp) (wk1 hp)=wk4 hp:=by
 rw[mul12_c];simp only[wk1,wk3,wk4,CRing.mul_zero,CRing.add_zero,CRing.zero_add,CRing.mul_one]
theorem wk_5:(K12 hp).mul (wk4 hp) (wk1 hp)=wk5 hp:=by
 rw[mul12_c];simp only[wk1,wk4,wk5,CRing.mul_zero,CRing.add_zero,CRing.zero_add,CRing.mul_one]
theorem wk_6:(K12 hp).mul (wk5 hp) (wk1 hp)=em hp (xi hp):=by
 rw[mul12_c];simp only[wk1,wk5,em,CRing.mul_zero,CRing.add_zero,CRing.zero_add,CRing.mul_one]
theorem add12_c (z y:Z12 m):(K12 hp).add z y=(((K2 hp).add z.1.1 y.1.1,(K2 hp).add z.1.2.1 y.1.2.1,(K2 hp).add z.1.2.2 y.1.2.2),((K2 hp).add z.2.1 y.2.1,(K2 hp).add z.2.2.1 y.2.2.1,(K2 hp).add z.2.2.2 y.2.2.2)):=rfl
theorem dec12(z:Z12 m):(K12 hp).add (em hp z.1.1) ((K12 hp).add ((K12 hp).mul (em hp z.2.1) (wk1 hp)) ((K12 hp).add ((K12 hp).mul (em hp z.1.2.1) (wk2 hp)) ((K12 hp).add ((K12 hp).mul (em hp z.2.2.1) (wk3 hp)) ((K12 hp).add ((K12 hp).mul (em hp z.1.2.2) (wk4 hp)) ((K12 hp).mul (em hp z.2.2.2) (wk5 hp))))))=z:=by
 simp only[mul12_c,add12_c,em,wk1,wk2,wk3,wk4,wk5,CRing.mul_zero,CRing.add_zero,CRing.zero_add,CRing.mul_one]
theorem wpow(hm:m=6*((m - 1) / 6)+1){t:Zp m × Zp m}(hx:(K2 hp).pow (xi hp) ((m - 1) / 6)=t):(K12 hp).pow (wk1 hp) m=(K12 hp).mul (em hp t) (wk1 hp):=by
 have s:∀ n,(K12 hp).pow (wk1 hp) (n+1)=(K12 hp).mul ((K12 hp).pow (wk1 hp) n) (wk1 hp):=fun _=>rfl;have p1:(K12 hp).pow (wk1 hp) (0+1)=wk1 hp:=by rw[s,show(K12 hp).pow (wk1 hp) 0=(K12 hp).one from rfl,CRing.one_mul]
 have p2:(K12 hp).pow (wk1 hp) (0+1+1)=wk2 hp:=by rw[s,p1,wk_2]
 have p3:(K12 hp).pow (wk1 hp) (0+1+1+1)=wk3 hp:=by rw[s,p2,wk_3]
 have p4:(K12 hp).pow (wk1 hp) (0+1+1+1+1)=wk4 hp:=by rw[s,p3,wk_4]
 have p5:(K12 hp).pow (wk1 hp) (0+1+1+1+1+1)=wk5 hp:=by rw[s,p4,wk_5]
 have p6:(K12 hp).pow (wk1 hp) (0+1+1+1+1+1+1)=em hp (xi hp):=by rw[s,p5,wk_6]
 have e6:(0+1+1+1+1+1+1:Nat)=6:=by decide
 have h6:(K12 hp).pow (wk1 hp) 6=em hp (xi hp):=by rw[<- e6,p6]
 have e:(K12 hp).pow (wk1 hp) m=(K12 hp).pow (wk1 hp) (6*((m - 1) / 6)+1):=congrArg _ hm;rw[e];show(K12 hp).mul ((K12 hp).pow (wk1 hp) (6*((m - 1) / 6))) (wk1 hp)=_;rw[CRing.pow_mulC,h6,<- CRing.pow_hom (K2 hp) (K12 hp) (em hp) rfl (em_mul hp),hx]
theorem frob12(hm:m=6*((m - 1) / 6)+1){t:Zp m × Zp m}(hx:(K2 hp).pow (xi hp) ((m - 1) / 6)=t)(hf:∀ x,(K2 hp).pow x m=cj hp x)(z:Z12 m):(K12 hp).pow z m=fr hp t z:=by
 have w1:=wpow hp hm hx;have ef:∀ x,(K12 hp).pow (em hp x) m=em hp (cj hp x):=fun x=>by
  rw[<- CRing.pow_hom (K2 hp) (K12 hp) (em hp) rfl (em_mul hp),hf]
 have step:∀ {a b:Z12 m} {s:Zp m × Zp m},(K12 hp).mul a (wk1 hp)=b->(K12 hp).pow a m=(K12 hp).mul (em hp s) a->(K12 hp).pow b m=(K12 hp).mul (em hp ((K2 hp).mul s t)) b:=fun {a b s} h h1=>by
  rw[<- h,CRing.mul_powC,h1,w1,CRing.mul4,em_mul]
 have w2:=step (wk_2 hp) w1;have w3:=step (wk_3 hp) w2;have w4:=step (wk_4 hp) w3;have w5:=step (wk_5 hp) w4;have c:∀(x s:Zp m × Zp m) (b:Z12 m),(K12 hp).mul (em hp (cj hp x)) ((K12 hp).mul (em hp s) b)=(K12 hp).mul (em hp ((K2 hp).mul (cj hp x) s)) b:=fun x s b=>by
  rw[em_mul,CRing.mul_assoc]
 have D:=CRing.dream (K12 hp) hp (ch12 hp);have e:(K12 hp).pow z m=(K12 hp).pow ((K12 hp).add (em hp z.1.1) ((K12 hp).add ((K12 hp).mul (em hp z.2.1) (wk1 hp)) ((K12 hp).add ((K12 hp).mul (em hp z.1.2.1) (wk2 hp)) ((K12 hp).add ((K12 hp).mul (em hp z.2.2.1) (wk3 hp)) ((K12 hp).add ((K12 hp).mul (em hp z.1.2.2) (wk4 hp)) ((K12 hp).mul (em hp z.2.2.2) (wk5 hp))))))) m:=by rw[dec12]
 rw[e,D,D,D,D,D,CRing.mul_powC,CRing.mul_powC,CRing.mul_powC,CRing.mul_powC,CRing.mul_powC,ef,ef,ef,ef,ef,ef,w1,w2,w3,w4,w5,c,c,c,c,c];have t3:(K2 hp).mul ((K2 hp).mul ((K2 hp).mul t t) t) t=(K2 hp).mul ((K2 hp).mul t t) ((K2 hp).mul t t):=CRing.mul_assoc _ _ _ _;rw[t3];exact dec12 hp (fr hp t z)
end
theorem frobB12(z:Z12 pB):(K12 prB).pow z pB=fr prB tB z:=frob12 prB (by decide +kernel) xi_pow frobB z
open Go.RowKit
namespace Sy
def hk9(a:N12)(s:St):Option (List Ob × St):=match look s.S 2 with
 | some (.p g 0 0 0)=>match rowIn g s.M with
  | some (y,T)=>if T=38 then some ([.ask (y=L12s a)],⟨[(9,some (.v (.int .i64 0))),(8,some (.p s.n 0 0 0)),(40,none),(41,none),(42,none),(43,none),(44,none),(45,none)]++s.S,(s.n,L12s one12,38)::s.M,s.n+1⟩)else none
  | none=>none
 | _=>none
def hk10(a:N12)(s:St):Option (List Ob × St):=match look s.S 2 with
 | some (.p g 0 0 0)=>match rowIn g s.M with
  | some (y,T)=>if T=38 then some ([.ask (y=L12s a)],⟨[(11,some (.v (.int .i64 2))),(10,some (.p s.n 0 0 0)),(46,none),(47,none),(48,none),(49,none),(50,none),(51,none),(52,none),(53,none)]++s.S,(s.n,L12s z12,38)::s.M,s.n+1⟩)else none
  | none=>none
 | _=>none
theorem hk9_ok{E:Env}{γ0:Pl}{w0:World}{a:N12}(hP:E.P=Tryz.prog)(oa:(L12s a).ok):HookOk E γ0 68 w0 ((Tryz.f6.body.bind (regC 9)).getD .skip) (hk9 a):=by
 intro s q s' h hp γ b w X R cont;unfold hk9 at h
 split at h
 ·rename_i g h2
  split at h
  ·rename_i y T hr
   split at h
   ·rename_i hT
    subst hT;cases h;obtain rfl:y=L12s a:=hp _ (.head _);have hrow:=(R.lies _ (rowIn_ok hr)).1;dsimp only at hrow;rw[L12_z]at hrow;rw[hP];refine MT.fb_r9 oa R.z (R.k 2 _ h2).1 hrow fun a' w' hz hd hb hk h9 ⟨D,h8,hD,hrD⟩=>?_;obtain⟨δ,hδ⟩:=Rel.hook1 (L:=[(9,some (.v (.int .i64 0))),(8,some (.p s.n 0 0 0)),(40,none),(41,none),(42,none),(43,none),(44,none),(45,none)]) R hz hd hb hD hrD one12_ok rfl (fun t y hm=>(by
     simp only[List.mem_cons,List.not_mem_nil,or_false,Prod.mk.injEq,Option.some.injEq,reduceCtorEq,and_false]at hm;rcases hm with⟨rfl,rfl⟩ | ⟨rfl,rfl⟩
     ·exact .inr ⟨rfl,trivial,h9⟩
     ·exact .inl ⟨rfl,h8⟩)) (fun t ht=>hk t ht)
    exact cont δ a' w' hδ
   ·cases h
  ·cases h
 ·cases h
theorem hk10_ok{E:Env}{γ0:Pl}{w0:World}{a:N12}(hP:E.P=Tryz.prog)(oa:(L12s a).ok):HookOk E γ0 68 w0 ((Tryz.f6.body.bind (regC 10)).getD .skip) (hk10 a):=by
 intro s q s' h hp γ b w X R cont;unfold hk10 at h
 split at h
 ·rename_i g h2
  split at h
  ·rename_i y T hr
   split at h
   ·rename_i hT
    subst hT;cases h;obtain rfl:y=L12s a:=hp _ (.head _);have hrow:=(R.lies _ (rowIn_ok hr)).1;dsimp only at hrow;rw[L12_z]at hrow;rw[hP];refine MT.fb_r10 oa R.z (R.k 2 _ h2).1 hrow fun a' w' hz hd hb hk h11 ⟨D,h10,hD,hrD⟩=>?_;obtain⟨δ,hδ⟩:=Rel.hook1 (L:=[(11,some (.v (.int .i64 2))),(10,some (.p s.n 0 0 0)),(46,none),(47,none),(48,none),(49,none),(50,none),(51,none),(52,none),(53,none)]) R hz hd hb hD hrD L12z_ok rfl (fun t y hm=>(by
     simp only[List.mem_cons,List.not_mem_nil,or_false,Prod.mk.injEq,Option.some.injEq,reduceCtorEq,and_false]at hm;rcases hm with⟨rfl,rfl⟩ | ⟨rfl,rfl⟩
     ·exact .inr ⟨rfl,trivial,h11⟩
     ·exact .inl ⟨rfl,h10⟩)) (fun t ht=>hk t ht)
    exact cont δ a' w' hδ
   ·cases h
  ·cases h
 ·cases h
def hkF(a:N12):Hooks:=fun id=>match id with
 | 9=>some (hk9 a)
 | 10=>some (hk10 a)
 | _=>none
noncomputable def cdF (k:Nat):Code:=(Tryz.f6.body.bind (regC k)).getD .skip
theorem hkF_ok{E:Env}{γ0:Pl}{w:World}{a:N12}(hP:E.P=Tryz.prog)(oa:(L12s a).ok):∀ r∈regsOf (Tryz.f6.body.getD .skip),∀ h,hkF a r.1=some h->HookOk E γ0 68 w r.2 h:=by
 intro r hr h hh;refine hooked (H:=hkF a) (l:=[(9,cdF 9),(10,cdF 10)]) (p:=fun r=>∀ h,hkF a r.1=some h->HookOk E γ0 68 w r.2 h) (by kernel_rfl) (fun r hr=>?_) r hr (by rw[hh];rfl) h hh;simp only[List.mem_cons,List.not_mem_nil,or_false]at hr;rcases hr with rfl | rfl
 ·intro h hh;cases hh;exact hk9_ok hP oa
 ·intro h hh;cases hh;exact hk10_ok hP oa
def cTP(TP:N12->N12):Con:=conH false pB loB 32 fun l=>match l with
 | [x]=>(d12 x).map fun a=>(L12s (TP a),[.ask (v12 (ph12 prB a)=a)])
 | _=>none
def TPw(a:N12):N12:=pw12 prB (ph12 prB a) pB
theorem cTP_ok{w0:World}:ConOk Tryz.prog 1 o0 w0 (cTP TPw):=conH_ok (rB w0) (fun _ _=>by kernel_rfl) fun us r q hr hq hok=>by
 split at hr
 ·rename_i x
  obtain⟨a,ha,e⟩:=Option.map_eq_some_iff.1 hr;cases e;have hx:=d12_ok _ _ ha;subst hx;have he:v12 (ph12 prB a)=a:=hq (.ask _) (.head _);refine⟨pw12_ok _ _,rfl,fun γ F w hF=>?_⟩;have k:=tpow_calls (ph12 prB a) hF;rw[he]at k;show Calls Tryz.prog _ #[.agg #[.pointer (some ⟨F,0,none⟩)],(L12s a).val γ] w _;rw[val0 (x:=L12s a) rfl,val0 (x:=L12s (TPw a)) rfl];exact k
 ·cases hr
section
variable {PW RO TP:N12->N12}
def x12(PW:N12->N12)(a:N12):N12:=PW (PW (PW (PW (PW (PW (PW (PW (PW (PW (PW (PW a)))))))))))
def f1(PW RO:N12->N12)(a:N12):Bool:=!(eqL (wl12 (x12 PW a)) (wl12 (RO a)))
def fc(k:Nat):Bool:=eqI (((k:Nat):Int).tmod 8) 0
def f2(PW RO TP:N12->N12)(a:N12):Bool:=!(eqL (wl12 (PW a)) (wl12 (TP (RO a))))
theorem tfrob_gen(hP:Is0 31 sh12 fun a=>L12s (PW a))(kO:Ih1 pB 20 sh12 fun a=>L12s (RO a))(a:N12)(k:Nat)(oa:(L12s a).ok)(w:World)(kT:ConOk Tryz.prog 1 o0 w (cTP TP))(hro:v12 (ph12 prB (RO a))=RO a)
  (hq:(bif f1 PW RO a then true else (bif fc k then f2 PW RO TP a else false))=false):Calls Tryz.prog 6 #[(L12s a).val o0,.int .u8 (k:Nat)] w fun e w'=>e=.returned (.bool true)/\Below w.heap.size w w':=by
 refine callsH_at (E1_ok (γ0:=o0) (more:=[cTNew,cV1 31 sh12 fun a=>L12s (PW a),cH1 false pB loB 20 sh12 fun a=>L12s (RO a),cTP TP,cOneR,cLives]) ⟨cTNew_ok,hP _ _ _,kO _ _ _ _ (rB w),kT,cOneR_ok,cLives_ok,trivial⟩) (by kernel_rfl) (fun _=>13) (hkF a) Tryz.func6 (by kernel_rfl) [L12s a,.i .u8 (k:Nat)] ⟨⟨oa,rfl⟩,⟨trivial,rfl⟩,trivial⟩ (by kernel_rfl) (hkF_ok rfl oa) (by kernel_rfl)
  (.need ((!f1 PW RO a)=true->(8:Int)≠0) (.need (((!f1 PW RO a)&&fc k)=true->v12 (ph12 prB (RO a))=RO a) (.br (bif f1 PW RO a then true else (bif fc k then f2 PW RO TP a else false)) (.leaf (.v (.bool false))) (.need (L12s a=L12s a) (.need (L12s a=L12s a) (.leaf (.b true))))))) (by kernel_rfl) ?_
 refine need_sh (fun _=>by decide) (need_sh (fun _=>hro) (br_sh (fun h=>?_) fun _=>need_sh rfl (need_sh rfl (leaf_sh rfl))));rw[hq]at h;cases h
end
theorem tfrob_any(a:N12)(k:Nat)(oa:(L12s a).ok)(w:World):Calls Tryz.prog 6 #[(L12s a).val o0,.int .u8 (k:Nat)] w fun e w'=>e=.returned (.bool true)/\Below w.heap.size w w':=by
 have hr:∀ a:N12,v12 (ph12 prB (v12 (ph12 prB a)))=v12 (ph12 prB a):=fun a=>by rw[ph12_v]
 refine tfrob_gen (PW:=P12) (RO:=RO12) (TP:=TPw) Power_at Tof12_at a k oa w cTP_ok (hr a) ?_;have e1:f1 P12 RO12 a=false:=by
  unfold f1;rw[show x12 P12 a=RO12 a from P12_twelve a,eqL_self];rfl
 have e2:f2 P12 RO12 TPw a=false:=by
  unfold f2;have e:TPw (RO12 a)=P12 a:=by
   show pw12 prB (ph12 prB (v12 (ph12 prB a))) pB=_;rw[ph12_v,P12_fr,<- frobB12];rfl
  rw[e,eqL_self];rfl
 rw[e1,e2];cases fc k <;> rfl
end Sy
end Go.Proofs.YthnckclbeecnmaaGreat
namespace Go.Proofs.YthnckclbeecnmaaGreat.towerFrobenius
open Go.ChangeShapes Go.WideShapes Go.ChangeAt Go.RowKit
theorem contract(H:Type)(enc:TypeId × Value->H)(W:World)(base:Nat)(args:Array Value)(ds gs:List (DataW H))(before:List MemPlace)
  (hval:∀(j:Nat) t v,Tryz.f6.params[j]?=some t->args[j]?=some v->Value.okWide Tryz.prog W .any base t v)
  (hW:DataW.Whole enc Tryz.prog Tryz.f6.params.toList Rows.towerFrobeniusSpec.vars false W args.toList ds gs before) :
  Calls Tryz.prog 6 args W fun e W'=>∃ v,e=.returned v/\Rows.towerFrobeniusSpec.post enc Tryz.prog Tryz.f6 false true false false W args v W':=by
 have hW':=hW;obtain⟨p,q,hA0,hV,rfl,hfz,hnd⟩:=hW;have hA:DataW.TrodAll enc Tryz.prog W 0 (fun _=>true) true Tryz.f6.params.toList args.toList ds p:=hA0;rw[Tryz.params6]at hA hval;obtain⟨v0,vs0,d0,ds0,p0,q0,hargs,rfl,rfl,h0,r0⟩:=trodAll_cons hA;obtain⟨v1,vs1,d1,ds1,p1,q1,rfl,rfl,rfl,h1,r1⟩:=trodAll_cons r0;obtain⟨rfl,rfl,rfl⟩:=trodAll_nil r1;obtain rfl:args=#[v0,v1]:=by cases args;simp_all
 obtain⟨rfl,rfl⟩:=trodVars_none hV;obtain⟨x0,rfl,X0⟩:=open_f12 (hval 0 38 v0 rfl rfl) h0;obtain⟨x1,X1,rfl⟩:=open_byte (hval 1 5 v1 rfl rfl) h1;clear hA0;refine(Sy.tfrob_any x0 x1 X0 W).mono fun e W' ⟨he,hb⟩=>?_;subst he;refine⟨_,rfl,_,_,_,[],p0++(p1++[]),[],hW',trodAll_cons_mk (shut_bool Tryz.underlying4 _) trodAll_mk0,trodAll_cons_mk (Below.trod laidOutF (by kernel_rfl) (of_decide_eq_true (by kernel_rfl)) h0 hb (fun x hx=>hW'.lt x (by simp[hx]))) (trodAll_cons_mk (Below.trod laidOutF (by kernel_rfl) (of_decide_eq_true (by kernel_rfl)) h1 hb (fun x hx=>hW'.lt x (by simp[hx]))) trodAll_mk0),rfl,hb.frame _,fun h=>by cases h⟩
theorem laid_met(os:Os):laidMet Tryz.prog Rows.towerFrobeniusRow.laid ((bareWorld os).forCall (fun _ _=>0) ⟨#[],#[.agg (List.replicate 48 (Value.int .u64 0)).toArray,.int .u8 0],[]⟩).memory :=
 laidMet_of_run' 80 (by kernel_rfl) (by kernel_rfl)
theorem reads(os:Os){H:Type}(enc:TypeId × Value->H):∃ places,DataW.whole enc Tryz.prog ((bareWorld os).forCall (fun _ _=>0) ⟨#[],#[.agg (List.replicate 48 (Value.int .u64 0)).toArray,.int .u8 0],[]⟩).memory Tryz.f6.params.toList Rows.towerFrobeniusSpec.vars false (#[.agg (List.replicate 48 (Value.int .u64 0)).toArray,.int .u8 0]:Array Value).toList 80=some ([.agg [.agg [.agg [.lit (.int .u64 0),.lit (.int .u64 0),.lit (.int .u64 0),.lit (.int .u64 0)],.agg [.lit (.int .u64 0),.lit (.int .u64 0),.lit (.int .u64 0),.lit (.int .u64 0)]],.agg [.agg [.lit (.int .u64 0),.lit (.int .u64 0),.lit (.int .u64 0),.lit (.int .u64 0)],.agg [.lit (.int .u64 0),.lit (.int .u64 0),.lit (.int .u64 0),.lit (.int .u64 0)]],.agg [.agg [.lit (.int .u64 0),.lit (.int .u64 0),.lit (.int .u64 0),.lit (.int .u64 0)],.agg [.lit (.int .u64 0),.lit (.int .u64 0),.lit (.int .u64 0),.lit (.int .u64 0)]],.agg [.agg [.lit (.int .u64 0),.lit (.int .u64 0),.lit (.int .u64 0),.lit (.int .u64 0)],.agg [.lit (.int .u64 0),.lit (.int .u64 0),.lit (.int .u64 0),.lit (.int .u64 0)]],.agg [.agg [.lit (.int .u64 0),.lit (.int .u64 0),.lit (.int .u64 0),.lit (.int .u64 0)],.agg [.lit (.int .u64 0),.lit (.int .u64 0),.lit (.int .u64 0),.lit (.int .u64 0)]],.agg [.agg [.lit (.int .u64 0),.lit (.int .u64 0),.lit (.int .u64 0),.lit (.int .u64 0)],.agg [.lit (.int .u64 0),.lit (.int .u64 0),.lit (.int .u64 0),.lit (.int .u64 0)]]],.lit (.int .u8 0)],[],places) :=
 ⟨[],by kernel_rfl⟩
theorem lifted(os:Os)(started:os.Started)(H:Type)(enc:TypeId × Value->H)(F:Stop.Interp) :
  ReturnsInHanded {} Tryz.checked os 6 .any ((OpenSpec.ofChange Rows.towerFrobeniusSpec).preRow enc Tryz.prog Tryz.f6 Rows.towerFrobeniusRow.domain false Rows.towerFrobeniusRow.laid) (((OpenSpec.ofChange Rows.towerFrobeniusSpec).at F).post enc Tryz.prog Tryz.f6 false true false false):=by
 obtain⟨places,hx⟩:=reads os enc;refine returnsInHanded_of_row (C:=Tryz.checked) (s:=OpenSpec.ofChange Rows.towerFrobeniusSpec) ownF started (by kernel_rfl) Tryz.func6
  (witness_row_at (enc:=enc) (C:=Tryz.checked) false (bareWorld os) #[.agg (List.replicate 48 (Value.int .u64 0)).toArray,.int .u8 0] rfl (by kernel_rfl) (by kernel_rfl) (by kernel_rfl)
   (OpenSpec.preRow_of_cond 80 hx (by kernel_rfl) (fun k hk=>by cases hk) (by kernel_rfl) (laid_met os))) ?_
 intro W base args ds gs before hval hW _ _ _ _ _ _;exact contract H enc W base args ds gs before hval hW
theorem said:Rows.TowerFrobeniusSaid :=
 OpenClaim.holds_of_cond 6 Tryz.f6 rfl rfl rfl rfl rfl rfl rfl ⟨rfl,rfl,rfl,rfl,rfl⟩ rfl rfl rfl rfl rfl (by kernel_rfl) Tryz.func6 (by kernel_rfl)
  (of_decide_eq_true (by kernel_rfl)) (by unfold Func.isWrapper;rw[if_neg (of_decide_eq_false (by kernel_rfl))];exact⟨rfl,rfl⟩)
  (fun os started H enc _ F=>by rw[OpenClaim.pre_eq_preRow];exact lifted os started H enc F)
end Go.Proofs.YthnckclbeecnmaaGreat.towerFrobenius
