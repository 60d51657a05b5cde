/- The pairing's fields as numbers: below a prime, two of them (i i = -1), six (a third root of 9 and i), twelve (a root of that). What the program reckons by words is told by them. (Cut to what is reached, written closely: TwR · EcId · EcK · EcSm · EcGrp · EcMul · EcOrd · Prm · FInvN · EcFp · TwP.) -/
import Derived.Test.YtpipdfgfoocifaaGreatT28
import Derived.Laws.Bits64b
set_option linter.all false
set_option maxRecDepth 100000
set_option maxHeartbeats 8000000
namespace Go.Proofs.YtpipdfgfoocifaaGreat
namespace CRing
variable {K:Type} (C:CRing K)
instance addA:Std.Associative C.add:=⟨C.add_assoc⟩
instance addC:Std.Commutative C.add:=⟨C.add_comm⟩
instance mulA:Std.Associative C.mul:=⟨C.mul_assoc⟩
instance mulC:Std.Commutative C.mul:=⟨C.mul_comm⟩
theorem neg_mul(a b:K):C.mul (C.neg a) b=C.neg (C.mul a b):=by rw[C.mul_comm,C.mul_neg,C.mul_comm]
theorem sub_of{a b c:K}(h:a=C.add b c):C.sub a c=b:=by
 apply C.add_cancel (c:=c);rw[C.sub_add,h]
theorem neg_neg(a:K):C.neg (C.neg a)=a:=by
 apply C.add_cancel (c:=C.neg a);rw[C.add_comm,C.add_neg,C.add_neg]
def ext2(d:K):CRing (K × K) where
 add a b:=(C.add a.1 b.1,C.add a.2 b.2)
 mul a b:=(C.add (C.mul a.1 b.1) (C.mul d (C.mul a.2 b.2)),C.add (C.mul a.1 b.2) (C.mul a.2 b.1))
 neg a:=(C.neg a.1,C.neg a.2)
 zero:=(C.zero,C.zero)
 one:=(C.one,C.zero)
 add_assoc a b c:=Prod.ext (C.add_assoc _ _ _) (C.add_assoc _ _ _)
 add_comm a b:=Prod.ext (C.add_comm _ _) (C.add_comm _ _)
 add_zero a:=Prod.ext (C.add_zero _) (C.add_zero _)
 add_neg a:=Prod.ext (C.add_neg _) (C.add_neg _)
 mul_assoc a b c:=Prod.ext (by dsimp only;simp only[C.mul_add,C.add_mul];ac_rfl) (by dsimp only;simp only[C.mul_add,C.add_mul];ac_rfl)
 mul_comm a b:=Prod.ext (by dsimp only;ac_rfl) (by dsimp only;ac_rfl)
 mul_one a:=Prod.ext (by dsimp only;simp only[C.mul_zero,C.mul_one,C.add_zero]) (by dsimp only;simp only[C.mul_zero,C.mul_one,C.zero_add])
 mul_add a b c:=Prod.ext (by dsimp only;simp only[C.mul_add];ac_rfl) (by dsimp only;simp only[C.mul_add];ac_rfl)
def ext3(d:K):CRing (K × K × K) where
 add a b:=(C.add a.1 b.1,C.add a.2.1 b.2.1,C.add a.2.2 b.2.2)
 mul a b:=(C.add (C.mul a.1 b.1) (C.mul d (C.add (C.mul a.2.1 b.2.2) (C.mul a.2.2 b.2.1))),C.add (C.add (C.mul a.1 b.2.1) (C.mul a.2.1 b.1)) (C.mul d (C.mul a.2.2 b.2.2)),C.add (C.add (C.mul a.1 b.2.2) (C.mul a.2.2 b.1)) (C.mul a.2.1 b.2.1))
 neg a:=(C.neg a.1,C.neg a.2.1,C.neg a.2.2)
 zero:=(C.zero,C.zero,C.zero)
 one:=(C.one,C.zero,C.zero)
 add_assoc a b c:=Prod.ext (C.add_assoc _ _ _) (Prod.ext (C.add_assoc _ _ _) (C.add_assoc _ _ _))
 add_comm a b:=Prod.ext (C.add_comm _ _) (Prod.ext (C.add_comm _ _) (C.add_comm _ _))
 add_zero a:=Prod.ext (C.add_zero _) (Prod.ext (C.add_zero _) (C.add_zero _))
 add_neg a:=Prod.ext (C.add_neg _) (Prod.ext (C.add_neg _) (C.add_neg _))
 mul_assoc a b c:=Prod.ext (by dsimp only;simp only[C.mul_add,C.add_mul];ac_rfl) (Prod.ext (by dsimp only;simp only[C.mul_add,C.add_mul];ac_rfl) (by dsimp only;simp only[C.mul_add,C.add_mul];ac_rfl))
 mul_comm a b:=Prod.ext (by dsimp only;simp only[C.mul_add];ac_rfl) (Prod.ext (by dsimp only;ac_rfl) (by dsimp only;ac_rfl))
 mul_one a:=Prod.ext (by dsimp only;simp only[C.mul_zero,C.mul_one,C.add_zero]) (Prod.ext (by dsimp only;simp only[C.mul_zero,C.mul_one,C.add_zero,C.zero_add]) (by dsimp only;simp only[C.mul_zero,C.mul_one,C.add_zero,C.zero_add]))
 mul_add a b c:=Prod.ext (by dsimp only;simp only[C.mul_add];ac_rfl) (Prod.ext (by dsimp only;simp only[C.mul_add];ac_rfl) (by dsimp only;simp only[C.mul_add];ac_rfl))
section
variable (d:K)
theorem cross(a b c e:K):C.sub (C.mul (C.add a b) (C.add c e)) (C.add (C.mul a c) (C.mul b e))=C.add (C.mul a e) (C.mul b c) :=
 C.sub_of (by simp only[C.mul_add,C.add_mul];ac_rfl)
end
end CRing
def small(d:Mn)(B:Nat)(x:Nat × Mn):Prop:=x.1=0\/(x.1<B/\x.2.le d)
instance (d:Mn) (B:Nat) (x:Nat × Mn):Decidable (small d B x):=by unfold small Mn.le;exact inferInstance
theorem kron_small{K:Type}(C:CRing K)(r:Nat->K)(B:Nat)(d:Mn)(e:Ex)(h:small d B e.nd)(h0:e.eval intRing (kp B d)=0):e.eval C r=C.zero:=by
 rcases h with h | h
 ·have h1:=eval_pm C r e
  rw[(pm_none h).1,(pm_none h).2]at h1;exact(C.add_zero _).symm.trans h1
 ·exact kron C r B d e h.2 h.1 h0
section
variable {K:Type} (C:CRing K)
def lets(x1 x2 x3 b:K):Nat->K
 | 0=>x1
 | 1=>x2
 | 2=>x3
 | _=>b
end
structure CField (K:Type) extends CRing K where
 inv:K->K
 mul_inv:∀ a,a≠zero->mul a (inv a)=one
 one_ne:one≠zero
theorem ring4{K:Type}(C:CRing K)(r:Nat->K)(e1 e2:Ex)(h:small (12,12,12,12) (2^30) (Ex.sub e1 e2).nd/\(Ex.sub e1 e2).eval intRing (kp (2^30) (12,12,12,12))=0):e1.eval C r=e2.eval C r :=
 C.eq_of_sub (kron_small C r _ _ (Ex.sub e1 e2) h.1 h.2)
namespace CField
variable {K:Type} (F:CField K)
end CField
def Pr(p:Nat):Prop:=2<=p/\∀ d,d∣p->d=1\/d=p
theorem Pr.coprime{p a:Nat}(h:Pr p)(ha:¬p∣a):Nat.Coprime p a:=by
 rcases h.2 _ (Nat.gcd_dvd_left p a)with h1 | h1
 ·exact h1
 ·exact absurd (h1 ▸ Nat.gcd_dvd_right p a) ha
theorem Pr.dvd_mul{p a b:Nat}(h:Pr p)(hd:p∣a*b):p∣a\/p∣b:=by
 by_cases ha:p∣a
 ·exact .inl ha
 ·exact .inr ((h.coprime ha).dvd_of_dvd_mul_left hd)
theorem has_prime(n:Nat):2<=n->∃ p,Pr p/\p∣n:=by
 induction n using Nat.strongRecOn with
 | _ n ih =>
  intro hn;by_cases h:∃ d,d∣n/\d≠1/\d≠n
  ·obtain⟨d,hd,h1,h2⟩:=h
   have h3:d<=n:=Nat.le_of_dvd (by omega) hd;have h4:d≠0:=by rintro rfl;have:=Nat.eq_zero_of_zero_dvd hd;omega
   obtain⟨p,hp,hpd⟩:=ih d (by omega) (by omega);exact⟨p,hp,Nat.dvd_trans hpd hd⟩
  ·refine⟨n,⟨hn,fun d hd=>?_⟩,Nat.dvd_refl n⟩
   by_cases h1:d=1
   ·exact .inl h1
   ·by_cases h2:d=n
    ·exact .inr h2
    ·exact absurd ⟨d,hd,h1,h2⟩ h
theorem small_prime{n:Nat}(hn:2<=n)(h:∀ p,Pr p->p∣n->n<p*p):Pr n:=by
 refine⟨hn,fun d hd=>?_⟩;by_cases h1:d=1
 ·exact .inl h1
 ·right
  obtain⟨e,rfl⟩:=hd;have hd0:d≠0:=by rintro rfl;simp at hn
  have he0:e≠0:=by rintro rfl;simp at hn
  obtain⟨p,hp,hpd⟩:=has_prime d (by omega);have hp1:=h p hp (Nat.dvd_trans hpd (Nat.dvd_mul_right _ _));have hpl:=Nat.le_of_dvd (by omega) hpd;by_cases e1:e=1
  ·rw[e1,Nat.mul_one]
  ·obtain⟨q,hq,hqe⟩:=has_prime e (by omega)
   have hq1:=h q hq (Nat.dvd_trans hqe (Nat.dvd_mul_left _ _));have hql:=Nat.le_of_dvd (by omega) hqe;exfalso;have h2:p*q<=d*e:=Nat.mul_le_mul hpl hql;rcases Nat.le_total p q with hpq | hpq
   ·have:=Nat.mul_le_mul_left p hpq;omega
   ·have:=Nat.mul_le_mul_right q hpq;omega
-- BINOMIALS
def cho:Nat->Nat->Nat
 | _,0=>1
 | 0,_+1=>0
 | n+1,k+1=>cho n k+cho n (k+1)
theorem cho_zero(n:Nat):cho n 0=1:=by cases n <;> rfl
theorem cho_above:∀ n k,n<k->cho n k=0
 | 0,0,h=>by omega
 | 0,_+1,_=>rfl
 | _+1,0,h=>by omega
 | n+1,k+1,h=>by rw[cho,cho_above n k (by omega),cho_above n (k+1) (by omega)]
theorem cho_self:∀ n,cho n n=1
 | 0=>rfl
 | n+1=>by rw[cho,cho_self n,cho_above n (n+1) (by omega)]
theorem cho_mul:∀ n k,(k+1)*cho (n+1) (k+1)=(n+1)*cho n k
 | 0,0=>rfl
 | 0,k+1=>by rw[cho_above (0+1) (k+1+1) (by omega),cho_above 0 (k+1) (by omega)];simp
 | n+1,0=>by
  have h:=cho_mul n 0;rw[cho_zero]at h;rw[show cho (n+1+1) (0+1)=cho (n+1) 0+cho (n+1) (0+1) from rfl,cho_zero];omega
 | n+1,k+1=>by
  have h1:=cho_mul n k;have h2:=cho_mul n (k+1);have e:cho (n+1) (k+1)=cho n k+cho n (k+1):=by rw[cho]
  rw[show cho (n+1+1) (k+1+1)=cho (n+1) (k+1)+cho (n+1) (k+1+1) by rw[cho]];generalize cho (n+1) (k+1+1)=u at *;generalize cho (n+1) (k+1)=v at *;generalize cho n (k+1)=x at *;generalize cho n k=y at *;have e1:(k+1+1)*(v+u)=(k+1)*v+v+(k+1+1)*u:=by rw[Nat.mul_add,Nat.succ_mul (k+1) v]
  rw[e1,h1,h2,e,Nat.succ_mul (n+1),Nat.mul_add];omega
theorem cho_prime{p k:Nat}(hp:Pr p)(h0:0<k)(hk:k<p):p∣cho p k:=by
 obtain⟨n,rfl⟩:∃ n,p=n+1:=⟨p - 1,by have:=hp.1;omega⟩
 obtain⟨j,rfl⟩:∃ j,k=j+1:=⟨k - 1,by omega⟩
 have h:=cho_mul n j;have hd:n+1∣(j+1)*cho (n+1) (j+1):=by rw[h];exact Nat.dvd_mul_right _ _
 rcases hp.dvd_mul hd with h1 | h1
 ·exact absurd (Nat.le_of_dvd (by omega) h1) (by omega)
 ·exact h1
def bsum(n a:Nat):Nat->Nat
 | 0=>0
 | j+1=>bsum n a j+cho n j*a^j
theorem bsum_next(n a:Nat):∀ j,bsum (n+1) a (j+1)+cho n j*a^(j+1)=(a+1)*bsum n a j+cho n j*a^(j+1)+cho n j*a^j
 | 0=>by simp[bsum,cho_zero];omega
 | j+1=>by
  have h:=bsum_next n a j;have e:cho (n+1) (j+1)=cho n j+cho n (j+1):=by rw[cho]
  have e2:bsum (n+1) a (j+1+1)=bsum (n+1) a (j+1)+cho (n+1) (j+1)*a^(j+1):=rfl;have e3:bsum n a (j+1)=bsum n a j+cho n j*a^j:=rfl;rw[e2,e3,e,Nat.add_mul,Nat.mul_add];have e4:(a+1)*(cho n j*a^j)=cho n j*a^(j+1)+cho n j*a^j:=by
   rw[Nat.add_mul,Nat.one_mul,Nat.pow_succ,Nat.mul_left_comm,Nat.mul_comm a]
  rw[e4];omega
theorem binom(n a:Nat):bsum n a (n+1)=(a+1)^n:=by
 induction n with
 | zero=>simp[bsum,cho]
 | succ n ih =>
  have h:=bsum_next n a (n+1);rw[cho_above n (n+1) (by omega),ih]at h;simp only[Nat.zero_mul,Nat.add_zero]at h;rw[h,Nat.pow_succ,Nat.mul_comm]
theorem bsum_prime{p:Nat}(hp:Pr p)(a:Nat):∀ j,0<j->j<=p->bsum p a j%p=1%p:=by
 intro j
 induction j with
 | zero=>intro h;omega
 | succ j ih =>
  intro _ hj;by_cases h0:j=0
  ·subst h0;simp[bsum,cho_zero]
  ·have h:=ih (by omega) (by omega)
   obtain⟨q,hq⟩:=cho_prime hp (k:=j) (by omega) (by omega);show(bsum p a j+cho p j*a^j)%p=_;rw[hq,Nat.mul_assoc,Nat.add_mul_mod_self_left,h]
-- FERMAT
theorem fermat{p:Nat}(hp:Pr p)(a:Nat):a^p%p=a%p:=by
 induction a with
 | zero=>rw[Nat.zero_pow (by have:=hp.1;omega)]
 | succ a ih =>
  rw[<- binom];show(bsum p a p+cho p p*a^p)%p=_;rw[cho_self,Nat.one_mul,Nat.add_mod,bsum_prime hp a p (by have:=hp.1;omega) (Nat.le_refl _),ih,<- Nat.add_mod,Nat.add_comm]
theorem fermat1{p:Nat}(hp:Pr p)(a:Nat)(ha:¬p∣a):a^(p - 1)%p=1:=by
 have h:=fermat hp a;have h2:=hp.1;obtain⟨n,rfl⟩:∃ n,p=n+1:=⟨p - 1,by omega⟩
 have hge:1<=a^n:=Nat.pow_pos (Nat.pos_of_ne_zero (by rintro rfl;simp at ha));have hd:n+1∣a*(a^n - 1):=by
  have:=Nat.sub_mod_eq_zero_of_mod_eq h;rw[Nat.mul_sub,Nat.mul_one,<- Nat.pow_succ'];exact Nat.dvd_of_mod_eq_zero this
 have h3:=(hp.coprime ha).dvd_of_dvd_mul_left hd;obtain⟨q,hq⟩:=h3;show a^n%(n+1)=1;have:a^n=1+(n+1)*q:=by omega
 rw[this,Nat.add_mul_mod_self_left,Nat.mod_eq_of_lt (by omega)]
theorem one_gcd{p b:Nat}(hp:1<p)(m n:Nat):b^m%p=1->b^n%p=1->b^Nat.gcd m n%p=1:=by
 induction m,n using Nat.gcd.induction with
 | H0 n=>intro _ h;rw[Nat.gcd_zero_left];exact h
 | H1 m n hm ih =>
  intro h1 h2;rw[Nat.gcd_rec];refine ih ?_ h1;have e:b^n=(b^m)^(n / m)*b^(n%m):=by rw[<- Nat.pow_mul,<- Nat.pow_add,Nat.div_add_mod]
  rw[e,Nat.mul_mod,Nat.pow_mod,h1,Nat.one_pow,Nat.mod_eq_of_lt hp,Nat.one_mul,Nat.mod_mod]at h2;exact h2
-- POCKLINGTON
def pwrm(m:Nat):Nat->Nat->Nat->Nat->Nat
 | 0,_,_,r=>r
 | f+1,b,e,r=>if e=0 then r else pwrm m f (b*b%m) (e / 2) (if e%2=1 then r*b%m else r)
theorem pwrm_eq(m:Nat):∀ f b e r,e<2^f->r%m=r->pwrm m f b e r=r*b^e%m
 | 0,b,e,r,h,hr=>by
  obtain rfl:e=0:=by simpa using h
  simp[pwrm,hr]
 | f+1,b,e,r,h,hr=>by
  unfold pwrm;by_cases h0:e=0
  ·simp[h0,hr]
  ·rw[if_neg h0,pwrm_eq m f _ _ _ (by rw[Nat.pow_succ]at h;omega) (by split;exact Nat.mod_mod _ _;exact hr)]
   have e1:(b*b%m)^(e / 2)%m=b^(2*(e / 2))%m:=by rw[<- Nat.pow_mod,Nat.pow_mul,Nat.pow_two]
   rw[Nat.mul_mod,e1];by_cases h1:e%2=1
   ·rw[if_pos h1,Nat.mod_mod,<- Nat.mul_mod,Nat.mul_assoc,<- Nat.pow_succ',show(2*(e / 2)).succ=e by omega]
   ·rw[if_neg h1,<- Nat.mul_mod,show 2*(e / 2)=e by omega]
def pwr(m b e:Nat):Nat:=pwrm m 260 b e (1%m)
theorem pwr_eq(m b e:Nat)(h:e<2^260):pwr m b e=b^e%m:=by
 unfold pwr;rw[pwrm_eq m _ _ _ _ h (Nat.mod_mod _ _),Nat.mul_mod,Nat.mod_mod,<- Nat.mul_mod,Nat.one_mul]
def prodL:List Nat->Nat
 | []=>1
 | q::l=>q*prodL l
def pock(n a:Nat)(qs:List Nat):Bool:=(2<=n)&&(n<2^260)&&(pwr n a (n - 1) == 1)&&qs.all (fun q=>(n - 1)%q == 0&&Nat.gcd (pwr n a ((n - 1) / q)+(n - 1)) n == 1)&&(n<(prodL qs+1)*(prodL qs+1))&&decide qs.Nodup
theorem pock_step{n a q p:Nat}(h2:2<=n)(h3:n<2^260)(h1:pwr n a (n - 1)=1)(hq:Pr q)(hqd:(n - 1)%q=0)(hg:Nat.gcd (pwr n a ((n - 1) / q)+(n - 1)) n=1)(hp:Pr p)(hpn:p∣n):q∣p - 1:=by
 rw[pwr_eq _ _ _ (by omega)]at h1;have hle:(n - 1) / q<=n - 1:=Nat.div_le_self _ _;rw[pwr_eq _ _ _ (by omega)]at hg;obtain⟨b,hb⟩:∃ b,a^((n - 1) / q)=b:=⟨_,rfl⟩
 rw[hb]at hg;have hbq:b^q=a^(n - 1):=by rw[<- hb,<- Nat.pow_mul,Nat.div_mul_cancel (Nat.dvd_of_mod_eq_zero hqd)]
 have hp2:=hp.1;have hmm:∀ x,x%n%p=x%p:=fun x=>Nat.mod_mod_of_dvd x hpn;have hbq1:b^q%p=1:=by rw[hbq,<- hmm,h1,Nat.mod_eq_of_lt (by omega)]
 have hpb:¬p∣b:=fun h=>by
  have h4:p∣b^q:=Nat.dvd_trans h (by obtain⟨k,rfl⟩:∃ k,q=k+1:=⟨q - 1,by have:=hq.1;omega⟩;rw[Nat.pow_succ];exact Nat.dvd_mul_left _ _);have:=Nat.mod_eq_zero_of_dvd h4;omega
 have hbp:=fermat1 hp b hpb;by_cases hd:q∣p - 1
 ·exact hd
 ·exfalso
  have hc:=one_gcd (by omega) q (p - 1) hbq1 hbp;rw[show Nat.gcd q (p - 1)=1 from hq.coprime hd,Nat.pow_one]at hc;have h5:p∣b%n+(n - 1):=by
   apply Nat.dvd_of_mod_eq_zero;obtain⟨k,hk⟩:=hpn;rw[Nat.add_mod,hmm,hc];have e:n - 1=(p - 1)+p*(k - 1):=by
    have hk0:k≠0:=by rintro rfl;simp at hk;omega
    obtain⟨j,rfl⟩:∃ j,k=j+1:=⟨k - 1,by omega⟩
    rw[hk,Nat.mul_add,Nat.add_sub_cancel];omega
   rw[e,Nat.add_mul_mod_self_left,Nat.mod_eq_of_lt (show p - 1<p by omega),show 1+(p - 1)=p by omega,Nat.mod_self]
  have h6:=Nat.dvd_gcd h5 hpn;rw[hg]at h6;have:=Nat.le_of_dvd (by omega) h6;omega
theorem prodL_dvd{m:Nat}:∀ l:List Nat,l.Nodup->(∀ q∈l,Pr q)->(∀ q∈l,q∣m)->prodL l∣m/\∀ x,Pr x->x ∉ l->Nat.Coprime x (prodL l)
 | [],_,_,_=>⟨Nat.one_dvd _,fun x _ _=>Nat.coprime_one_right x⟩
 | q::l,hn,hp,hd=>by
  rw[List.nodup_cons]at hn;obtain⟨h1,h2⟩:=prodL_dvd l hn.2 (fun q h=>hp q (.tail _ h)) (fun q h=>hd q (.tail _ h));have hq:=hp q (.head _);refine⟨Nat.Coprime.mul_dvd_of_dvd_of_dvd (h2 q hq hn.1) (hd q (.head _)) h1,fun x hx hxl=>?_⟩;refine Nat.Coprime.mul_right (hx.coprime fun h=>?_) (h2 x hx fun h=>hxl (.tail _ h));rcases hq.2 x h with h3 | h3
  ·have:=hx.1;omega
  ·exact hxl (h3 ▸ .head _)
theorem pocklington(n a:Nat)(qs:List Nat)(h:pock n a qs=true)(hqs:∀ q∈qs,Pr q):Pr n:=by
 unfold pock at h;simp only[Bool.and_eq_true,decide_eq_true_eq,beq_iff_eq,List.all_eq_true]at h;obtain⟨⟨⟨⟨⟨h2,h3⟩,h1⟩,hq⟩,hs⟩,hn⟩:=h;refine small_prime h2 fun p hp hpn=>?_;have hd:=(prodL_dvd (m:=p - 1) qs hn hqs (fun q hm=>pock_step h2 h3 h1 (hqs q hm) (hq q hm).1 (hq q hm).2 hp hpn)).1;have hp2:=hp.1;have hle:=Nat.le_of_dvd (by omega) hd;have:=Nat.mul_le_mul (show prodL qs+1<=p by omega) (show prodL qs+1<=p by omega);omega
def trial(n:Nat):Nat->Bool
 | 0=>true
 | k+1=>(k<2||n%k != 0)&&trial n k
theorem trial_at(n:Nat):∀ k,trial n k=true->∀ d,2<=d->d<k->n%d≠0
 | 0,_,d,_,h=>by omega
 | k+1,h,d,h2,hd=>by
  unfold trial at h;simp only[Bool.and_eq_true,Bool.or_eq_true,decide_eq_true_eq,bne_iff_ne]at h;by_cases e:d=k
  ·subst e
   rcases h.1 with h1 | h1
   ·omega
   ·exact h1
  ·exact trial_at n k h.2 d h2 (by omega)
theorem tried(n k:Nat)(h2:2<=n)(hk:n<k*k)(h:trial n k=true):Pr n:=by
 refine small_prime h2 fun p hp hpn=>?_;have hp2:=hp.1;by_cases e:p<k
 ·exact absurd (Nat.mod_eq_zero_of_dvd hpn) (trial_at n k h p hp2 e)
 ·have:=Nat.mul_le_mul (show k<=p by omega) (show k<=p by omega)
  omega
theorem prm_127:Pr 127:=tried 127 12 (by decide) (by decide) (by decide +kernel)
theorem prm_3557:Pr 3557:=pocklington 3557 2 [127] (by decide +kernel) (by intro q hq;simp only[List.mem_cons,List.not_mem_nil,or_false]at hq;rcases hq with rfl <;> first | exact prm_127)
theorem prm_911:Pr 911:=tried 911 31 (by decide) (by decide) (by decide +kernel)
theorem prm_1263766531:Pr 1263766531:=pocklington 1263766531 2 [3557,911] (by decide +kernel) (by intro q hq;simp only[List.mem_cons,List.not_mem_nil,or_false]at hq;rcases hq with rfl | rfl <;> first | exact prm_3557 | exact prm_911)
theorem prm_35385462869:Pr 35385462869:=pocklington 35385462869 2 [1263766531] (by decide +kernel) (by intro q hq;simp only[List.mem_cons,List.not_mem_nil,or_false]at hq;rcases hq with rfl <;> first | exact prm_1263766531)
theorem prm_2480874801745591:Pr 2480874801745591:=pocklington 2480874801745591 2 [35385462869] (by decide +kernel) (by intro q hq;simp only[List.mem_cons,List.not_mem_nil,or_false]at hq;rcases hq with rfl <;> first | exact prm_35385462869)
theorem prm_37:Pr 37:=tried 37 7 (by decide) (by decide) (by decide +kernel)
theorem prm_5:Pr 5:=tried 5 3 (by decide) (by decide) (by decide +kernel)
theorem prm_2221:Pr 2221:=pocklington 2221 2 [37,5] (by decide +kernel) (by intro q hq;simp only[List.mem_cons,List.not_mem_nil,or_false]at hq;rcases hq with rfl | rfl <;> first | exact prm_37 | exact prm_5)
theorem prm_13327:Pr 13327:=pocklington 13327 2 [2221] (by decide +kernel) (by intro q hq;simp only[List.mem_cons,List.not_mem_nil,or_false]at hq;rcases hq with rfl <;> first | exact prm_2221)
theorem prm_173171039:Pr 173171039:=pocklington 173171039 2 [13327] (by decide +kernel) (by intro q hq;simp only[List.mem_cons,List.not_mem_nil,or_false]at hq;rcases hq with rfl <;> first | exact prm_13327)
theorem prm_13427688667394608761327070753331941386769:Pr 13427688667394608761327070753331941386769:=pocklington 13427688667394608761327070753331941386769 2 [2480874801745591,173171039] (by decide +kernel) (by intro q hq;simp only[List.mem_cons,List.not_mem_nil,or_false]at hq;rcases hq with rfl | rfl <;> first | exact prm_2480874801745591 | exact prm_173171039)
theorem prm_21888242871839275222246405745257275088696311157297823662689037894645226208583:Pr 21888242871839275222246405745257275088696311157297823662689037894645226208583:=pocklington 21888242871839275222246405745257275088696311157297823662689037894645226208583 2 [13427688667394608761327070753331941386769] (by decide +kernel) (by intro q hq;simp only[List.mem_cons,List.not_mem_nil,or_false]at hq;rcases hq with rfl <;> first | exact prm_13427688667394608761327070753331941386769)
def invN(p n:Nat):Nat:=n^(p - 2)%p
theorem invN_lt{p:Nat}(hp:Pr p)(n:Nat):invN p n<p:=Nat.mod_lt _ (by have:=hp.1;omega)
theorem invN_ok{p n:Nat}(hp:Pr p)(h:¬p∣n):n*invN p n%p=1:=by
 unfold invN;have h2:=hp.1;rw[Nat.mul_mod,Nat.mod_mod,<- Nat.mul_mod,<- Nat.pow_succ',show(p - 2).succ=p - 1 by omega];exact fermat1 hp n h
theorem invN_not{p n:Nat}(hp:Pr p)(h:p∣n):n*invN p n%p≠1:=by
 have h2:=hp.1;rw[Nat.mul_mod,Nat.mod_eq_zero_of_dvd h,Nat.zero_mul,Nat.zero_mod];omega
theorem invN_iff{p n:Nat}(hp:Pr p):n*invN p n%p=1↔¬p∣n:=⟨fun h hd=>invN_not hp hd h,invN_ok hp⟩
abbrev Zp(p:Nat):={ a:Nat // a<p }
theorem zp_ext{p:Nat}{a b:Zp p}(h:a.1=b.1):a=b:=Subtype.ext h
section
variable {p:Nat} (hp:Pr p)
theorem Pr.pos{p:Nat}(hp:Pr p):0<p:=by have:=hp.1;omega
def zpField:CField (Zp p) where
 add a b:=⟨(a.1+b.1)%p,Nat.mod_lt _ hp.pos⟩
 mul a b:=⟨a.1*b.1%p,Nat.mod_lt _ hp.pos⟩
 neg a:=⟨(p - a.1)%p,Nat.mod_lt _ hp.pos⟩
 zero:=⟨0,hp.pos⟩
 one:=⟨1,hp.1⟩
 inv a:=⟨invN p a.1,invN_lt hp a.1⟩
 add_assoc a b c:=zp_ext (by show((a.1+b.1)%p+c.1)%p=(a.1+(b.1+c.1)%p)%p;rw[Nat.mod_add_mod,Nat.add_mod_mod,Nat.add_assoc])
 add_comm a b:=zp_ext (by show(a.1+b.1)%p=(b.1+a.1)%p;rw[Nat.add_comm])
 add_zero a:=zp_ext (by show(a.1+0)%p=a.1;rw[Nat.add_zero,Nat.mod_eq_of_lt a.2])
 add_neg a:=zp_ext (by show(a.1+(p - a.1)%p)%p=0;have:=a.2;rw[Nat.add_mod_mod,show a.1+(p - a.1)=p by omega,Nat.mod_self])
 mul_assoc a b c:=zp_ext (by show(a.1*b.1%p)*c.1%p=a.1*(b.1*c.1%p)%p;rw[Nat.mod_mul_mod,Nat.mul_mod_mod,Nat.mul_assoc])
 mul_comm a b:=zp_ext (by show a.1*b.1%p=b.1*a.1%p;rw[Nat.mul_comm])
 mul_one a:=zp_ext (by show a.1*1%p=a.1;rw[Nat.mul_one,Nat.mod_eq_of_lt a.2])
 mul_add a b c:=zp_ext (by show a.1*((b.1+c.1)%p)%p=(a.1*b.1%p+a.1*c.1%p)%p;rw[Nat.mul_mod_mod,Nat.mul_add,Nat.mod_add_mod,Nat.add_mod_mod])
 mul_inv a ha:=zp_ext (by
  show a.1*invN p a.1%p=1;refine invN_ok hp fun hd=>ha (zp_ext ?_);show a.1=0;exact Nat.eq_zero_of_dvd_of_lt hd a.2)
 one_ne h:=by
  have:=congrArg Subtype.val h;exact absurd this (by show ¬(1=0);omega)
end
abbrev N2:=Nat × Nat
abbrev N6:=N2 × N2 × N2
abbrev N12:=N6 × N6
namespace CRing
variable {K:Type} (C:CRing K)
theorem mul_m1(a:K):C.mul (C.neg C.one) a=C.neg a:=by rw[C.neg_mul,C.one_mul]
end CRing
section
variable {m:Nat} (hp:Pr m)
def ph(n:Nat):Zp m:=⟨n%m,Nat.mod_lt _ hp.pos⟩
theorem ph_v(z:Zp m):ph hp z.1=z:=zp_ext (Nat.mod_eq_of_lt z.2)
def K1:CRing (Zp m):=(zpField hp).toCRing
def K2:CRing (Zp m × Zp m):=(K1 hp).ext2 ((K1 hp).neg (K1 hp).one)
def xi:Zp m × Zp m:=(ph hp 9,(K1 hp).one)
def K6:CRing ((Zp m × Zp m) × (Zp m × Zp m) × (Zp m × Zp m)):=(K2 hp).ext3 (xi hp)
def vv:(Zp m × Zp m) × (Zp m × Zp m) × (Zp m × Zp m):=((K2 hp).zero,(K2 hp).one,(K2 hp).zero)
def K12:CRing (((Zp m × Zp m) × (Zp m × Zp m) × (Zp m × Zp m)) × ((Zp m × Zp m) × (Zp m × Zp m) × (Zp m × Zp m))):=(K6 hp).ext2 (vv hp)
theorem ph_add(a b:Nat):(a+b)%m=((K1 hp).add (ph hp a) (ph hp b)).1:=Nat.add_mod a b m
theorem ph_mul(a b:Nat):a*b%m=((K1 hp).mul (ph hp a) (ph hp b)).1:=Nat.mul_mod a b m
theorem ph_sub(a b:Nat):(a%m+(m - b%m))%m=((K1 hp).sub (ph hp a) (ph hp b)).1:=by
 show _=(a%m+(m - b%m)%m)%m;rw[Nat.add_mod_mod]
theorem ph_neg(a:Nat):(0%m+(m - a%m))%m=((K1 hp).neg (ph hp a)).1:=by
 show _=(m - a%m)%m;rw[Nat.zero_mod,Nat.zero_add]
def ph2(a:N2):Zp m × Zp m:=(ph hp a.1,ph hp a.2)
def ph6(a:N6):(Zp m × Zp m) × (Zp m × Zp m) × (Zp m × Zp m):=(ph2 hp a.1,ph2 hp a.2.1,ph2 hp a.2.2)
def ph12(a:N12):((Zp m × Zp m) × (Zp m × Zp m) × (Zp m × Zp m)) × ((Zp m × Zp m) × (Zp m × Zp m) × (Zp m × Zp m)):=(ph6 hp a.1,ph6 hp a.2)
end
def v2{m:Nat}(z:Zp m × Zp m):N2:=(z.1.1,z.2.1)
def v6{m:Nat}(z:(Zp m × Zp m) × (Zp m × Zp m) × (Zp m × Zp m)):N6:=(v2 z.1,v2 z.2.1,v2 z.2.2)
def v12{m:Nat}(z:((Zp m × Zp m) × (Zp m × Zp m) × (Zp m × Zp m)) × ((Zp m × Zp m) × (Zp m × Zp m) × (Zp m × Zp m))):N12:=(v6 z.1,v6 z.2)
section
variable {m:Nat} (hp:Pr m)
theorem ph2_v(z:Zp m × Zp m):ph2 hp (v2 z)=z:=Prod.ext (ph_v hp _) (ph_v hp _)
theorem ph6_v(z:(Zp m × Zp m) × (Zp m × Zp m) × (Zp m × Zp m)):ph6 hp (v6 z)=z:=Prod.ext (ph2_v hp _) (Prod.ext (ph2_v hp _) (ph2_v hp _))
theorem ph12_v(z:((Zp m × Zp m) × (Zp m × Zp m) × (Zp m × Zp m)) × ((Zp m × Zp m) × (Zp m × Zp m) × (Zp m × Zp m))):ph12 hp (v12 z)=z:=Prod.ext (ph6_v hp _) (ph6_v hp _)
/-! Two numbers. -/
def a2(a b:N2):N2:=v2 ((K2 hp).add (ph2 hp a) (ph2 hp b))
def s2(a b:N2):N2:=v2 ((K2 hp).sub (ph2 hp a) (ph2 hp b))
def m2(a b:N2):N2:=v2 ((K2 hp).mul (ph2 hp a) (ph2 hp b))
def l2(a:N2):N2:=v2 ((K2 hp).mul (xi hp) (ph2 hp a))
theorem a2_eq(a b:N2):((a.1+b.1)%m,(a.2+b.2)%m)=a2 hp a b:=Prod.ext (ph_add hp _ _) (ph_add hp _ _)
theorem s2_eq(a b:N2):((a.1%m+(m - b.1%m))%m,(a.2%m+(m - b.2%m))%m)=s2 hp a b:=Prod.ext (ph_sub hp _ _) (ph_sub hp _ _)
theorem m2_eq(a b:N2):((a.1*b.1%m%m+(m - a.2*b.2%m%m))%m,(a.1*b.2%m+a.2*b.1%m)%m)=m2 hp a b:=by
 refine Prod.ext ?_ ?_
 ·show(a.1*b.1%m%m+(m - a.2*b.2%m%m))%m=((K1 hp).add ((K1 hp).mul (ph hp a.1) (ph hp b.1)) ((K1 hp).mul ((K1 hp).neg (K1 hp).one) ((K1 hp).mul (ph hp a.2) (ph hp b.2)))).1
  rw[ph_sub hp,ph_mul hp,ph_mul hp,ph_v,ph_v,CRing.mul_m1];rfl
 ·show(a.1*b.2%m+a.2*b.1%m)%m=((K1 hp).add ((K1 hp).mul (ph hp a.1) (ph hp b.2)) ((K1 hp).mul (ph hp a.2) (ph hp b.1))).1
  rw[ph_add hp,ph_mul hp,ph_mul hp,ph_v,ph_v]
theorem l2_eq(a:N2):((a.1*9%m%m+(m - a.2%m))%m,(a.2*9%m+a.1)%m)=l2 hp a:=by
 refine Prod.ext ?_ ?_
 ·show(a.1*9%m%m+(m - a.2%m))%m=((K1 hp).add ((K1 hp).mul (ph hp 9) (ph hp a.1)) ((K1 hp).mul ((K1 hp).neg (K1 hp).one) ((K1 hp).mul (K1 hp).one (ph hp a.2)))).1
  rw[ph_sub hp,ph_mul hp,ph_v,CRing.mul_m1,CRing.one_mul,CRing.mul_comm];rfl
 ·show(a.2*9%m+a.1)%m=((K1 hp).add ((K1 hp).mul (ph hp 9) (ph hp a.2)) ((K1 hp).mul (K1 hp).one (ph hp a.1))).1
  rw[ph_add hp,ph_mul hp,ph_v,CRing.one_mul,CRing.mul_comm]
/-! Six,by letters of two. -/
section
variable (A S M:N2->N2->N2) (L:N2->N2)
def att3(a:N6):Nat->N2
 | 0=>a.1
 | 1=>a.2.1
 | _=>a.2.2
def o3(a b:N6):N6:=(M a.1 b.1,M a.2.1 b.2.1,M a.2.2 b.2.2)
def crs(a b o:N6)(i j:Nat):N2:=S (M (A (att3 a i) (att3 a j)) (A (att3 b i) (att3 b j))) (A (att3 o i) (att3 o j))
def mh(a b:N6):N6:=(A (M a.1 b.1) (L (crs A S M a b (o3 M a b) 1 2)),A (crs A S M a b (o3 M a b) 0 1) (L (M a.2.2 b.2.2)),A (crs A S M a b (o3 M a b) 0 2) (M a.2.1 b.2.1))
def ah(a b:N6):N6:=(A a.1 b.1,A a.2.1 b.2.1,A a.2.2 b.2.2)
def shh(a:N6):N6:=(L a.2.2,a.1,a.2.1)
end
def a6(a b:N6):N6:=v6 ((K6 hp).add (ph6 hp a) (ph6 hp b))
def s6(a b:N6):N6:=v6 ((K6 hp).sub (ph6 hp a) (ph6 hp b))
def m6(a b:N6):N6:=v6 ((K6 hp).mul (ph6 hp a) (ph6 hp b))
theorem crs_eq(a b:N6)(i j:Nat)(ho:∀ i,att3 (o3 (m2 hp) a b) i=m2 hp (att3 a i) (att3 b i)):ph2 hp (crs (a2 hp) (s2 hp) (m2 hp) a b (o3 (m2 hp) a b) i j)=(K2 hp).add ((K2 hp).mul (ph2 hp (att3 a i)) (ph2 hp (att3 b j))) ((K2 hp).mul (ph2 hp (att3 a j)) (ph2 hp (att3 b i))):=by
 unfold crs;rw[ho,ho];simp only[a2,s2,m2,ph2_v];exact CRing.cross _ _ _ _ _
theorem m6_eq(a b:N6):mh (a2 hp) (s2 hp) (m2 hp) (l2 hp) a b=m6 hp a b:=by
 have ho:∀ i,att3 (o3 (m2 hp) a b) i=m2 hp (att3 a i) (att3 b i):=fun i=>by
  match i with
  | 0=>rfl
  | 1=>rfl
  | _+2=>rfl
 refine Prod.ext ?_ (Prod.ext ?_ ?_)
 ·have E:=crs_eq hp a b 1 2 ho
  show a2 hp (m2 hp a.1 b.1) (l2 hp (crs (a2 hp) (s2 hp) (m2 hp) a b (o3 (m2 hp) a b) 1 2))=v2 _;generalize crs (a2 hp) (s2 hp) (m2 hp) a b (o3 (m2 hp) a b) 1 2=z at E |-
  unfold a2 l2;rw[E];simp only[m2,ph2_v];rfl
 ·have E:=crs_eq hp a b 0 1 ho
  show a2 hp (crs (a2 hp) (s2 hp) (m2 hp) a b (o3 (m2 hp) a b) 0 1) (l2 hp (m2 hp a.2.2 b.2.2))=v2 _;generalize crs (a2 hp) (s2 hp) (m2 hp) a b (o3 (m2 hp) a b) 0 1=z at E |-
  unfold a2 l2;rw[E];simp only[m2,ph2_v];rfl
 ·have E:=crs_eq hp a b 0 2 ho
  show a2 hp (crs (a2 hp) (s2 hp) (m2 hp) a b (o3 (m2 hp) a b) 0 2) (m2 hp a.2.1 b.2.1)=v2 _;generalize crs (a2 hp) (s2 hp) (m2 hp) a b (o3 (m2 hp) a b) 0 2=z at E |-
  unfold a2;rw[E];simp only[m2,ph2_v];rfl
theorem shh_eq(a:N6):ph6 hp (shh (l2 hp) a)=(K6 hp).mul (vv hp) (ph6 hp a):=by
 refine Prod.ext ?_ (Prod.ext ?_ ?_)
 ·show ph2 hp (l2 hp a.2.2)=(K2 hp).add ((K2 hp).mul (K2 hp).zero (ph2 hp a.1)) ((K2 hp).mul (xi hp) ((K2 hp).add ((K2 hp).mul (K2 hp).one (ph2 hp a.2.2)) ((K2 hp).mul (K2 hp).zero (ph2 hp a.2.1))))
  simp only[l2,ph2_v,CRing.zero_mul,CRing.one_mul,CRing.add_zero,CRing.zero_add]
 ·show ph2 hp a.1=(K2 hp).add ((K2 hp).add ((K2 hp).mul (K2 hp).zero (ph2 hp a.2.1)) ((K2 hp).mul (K2 hp).one (ph2 hp a.1))) ((K2 hp).mul (xi hp) ((K2 hp).mul (K2 hp).zero (ph2 hp a.2.2)))
  simp only[CRing.zero_mul,CRing.one_mul,CRing.add_zero,CRing.zero_add,CRing.mul_zero]
 ·show ph2 hp a.2.1=(K2 hp).add ((K2 hp).add ((K2 hp).mul (K2 hp).zero (ph2 hp a.2.2)) ((K2 hp).mul (K2 hp).zero (ph2 hp a.1))) ((K2 hp).mul (K2 hp).one (ph2 hp a.2.1))
  simp only[CRing.zero_mul,CRing.one_mul,CRing.add_zero,CRing.zero_add]
/-! Twelve,by letters of six. -/
section
variable (A S M:N6->N6->N6) (H:N6->N6)
def mt(a b:N12):N12:=(A (M a.1 b.1) (H (M a.2 b.2)),S (M (A a.1 a.2) (A b.1 b.2)) (A (M a.1 b.1) (M a.2 b.2)))
end
def a12(a b:N12):N12:=v12 ((K12 hp).add (ph12 hp a) (ph12 hp b))
def m12(a b:N12):N12:=v12 ((K12 hp).mul (ph12 hp a) (ph12 hp b))
theorem m12_eq(a b:N12):mt (a6 hp) (s6 hp) (m6 hp) (shh (l2 hp)) a b=m12 hp a b:=by
 refine Prod.ext ?_ ?_
 ·show a6 hp (m6 hp a.1 b.1) (shh (l2 hp) (m6 hp a.2 b.2))=v6 _
  unfold a6;rw[shh_eq];simp only[m6,ph6_v];rfl
 ·show s6 hp (m6 hp (a6 hp a.1 a.2) (a6 hp b.1 b.2)) (a6 hp (m6 hp a.1 b.1) (m6 hp a.2 b.2))=v6 _
  simp only[s6,a6,m6,ph6_v];exact congrArg v6 (CRing.cross _ _ _ _ _)
end
end Go.Proofs.YtpipdfgfoocifaaGreat
