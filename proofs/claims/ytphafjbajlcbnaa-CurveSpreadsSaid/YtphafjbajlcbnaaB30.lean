/- What the reference's more comes to. (Cut to what is reached, written closely: Prm · FCrv · FRNum · RLow · FRCmp.) -/
import Derived.Laws.Bits64b
import Derived.Test.YtphafjbajlcbnaaB19
import Derived.Test.YtphafjbajlcbnaaB7
set_option linter.all false
set_option maxRecDepth 100000
set_option maxHeartbeats 8000000
namespace Go.Proofs.Ytphafjbajlcbnaa
def Pr(p:Nat):Prop:=2<=p/\∀ d,d∣p->d=1\/d=p
theorem Pr.coprime{p a:Nat}(h:Pr p)(ha:¬p∣a):Nat.Coprime p a:=by
 rcases h.2 _ (Nat.gcd_dvd_left p a)with h1 | h1
 ·exact h1
 ·exact absurd (h1 ▸ Nat.gcd_dvd_right p a) ha
theorem Pr.dvd_mul{p a b:Nat}(h:Pr p)(hd:p∣a*b):p∣a\/p∣b:=by
 by_cases ha:p∣a
 ·exact .inl ha
 ·exact .inr ((h.coprime ha).dvd_of_dvd_mul_left hd)
theorem has_prime(n:Nat):2<=n->∃ p,Pr p/\p∣n:=by
 induction n using Nat.strongRecOn with
 | _ n ih =>
  intro hn;by_cases h:∃ d,d∣n/\d≠1/\d≠n
  ·obtain⟨d,hd,h1,h2⟩:=h
   have h3:d<=n:=Nat.le_of_dvd (by omega) hd;have h4:d≠0:=by rintro rfl;have:=Nat.eq_zero_of_zero_dvd hd;omega
   obtain⟨p,hp,hpd⟩:=ih d (by omega) (by omega);exact⟨p,hp,Nat.dvd_trans hpd hd⟩
  ·refine⟨n,⟨hn,fun d hd=>?_⟩,Nat.dvd_refl n⟩
   by_cases h1:d=1
   ·exact .inl h1
   ·by_cases h2:d=n
    ·exact .inr h2
    ·exact absurd ⟨d,hd,h1,h2⟩ h
theorem small_prime{n:Nat}(hn:2<=n)(h:∀ p,Pr p->p∣n->n<p*p):Pr n:=by
 refine⟨hn,fun d hd=>?_⟩;by_cases h1:d=1
 ·exact .inl h1
 ·right
  obtain⟨e,rfl⟩:=hd;have hd0:d≠0:=by rintro rfl;simp at hn
  have he0:e≠0:=by rintro rfl;simp at hn
  obtain⟨p,hp,hpd⟩:=has_prime d (by omega);have hp1:=h p hp (Nat.dvd_trans hpd (Nat.dvd_mul_right _ _));have hpl:=Nat.le_of_dvd (by omega) hpd;by_cases e1:e=1
  ·rw[e1,Nat.mul_one]
  ·obtain⟨q,hq,hqe⟩:=has_prime e (by omega)
   have hq1:=h q hq (Nat.dvd_trans hqe (Nat.dvd_mul_left _ _));have hql:=Nat.le_of_dvd (by omega) hqe;exfalso;have h2:p*q<=d*e:=Nat.mul_le_mul hpl hql;rcases Nat.le_total p q with hpq | hpq
   ·have:=Nat.mul_le_mul_left p hpq;omega
   ·have:=Nat.mul_le_mul_right q hpq;omega
-- BINOMIALS
def cho:Nat->Nat->Nat
 | _,0=>1
 | 0,_+1=>0
 | n+1,k+1=>cho n k+cho n (k+1)
theorem cho_zero(n:Nat):cho n 0=1:=by cases n <;> rfl
theorem cho_above:∀ n k,n<k->cho n k=0
 | 0,0,h=>by omega
 | 0,_+1,_=>rfl
 | _+1,0,h=>by omega
 | n+1,k+1,h=>by rw[cho,cho_above n k (by omega),cho_above n (k+1) (by omega)]
theorem cho_self:∀ n,cho n n=1
 | 0=>rfl
 | n+1=>by rw[cho,cho_self n,cho_above n (n+1) (by omega)]
theorem cho_mul:∀ n k,(k+1)*cho (n+1) (k+1)=(n+1)*cho n k
 | 0,0=>rfl
 | 0,k+1=>by rw[cho_above (0+1) (k+1+1) (by omega),cho_above 0 (k+1) (by omega)];simp
 | n+1,0=>by
  have h:=cho_mul n 0;rw[cho_zero]at h;rw[show cho (n+1+1) (0+1)=cho (n+1) 0+cho (n+1) (0+1) from rfl,cho_zero];omega
 | n+1,k+1=>by
  have h1:=cho_mul n k;have h2:=cho_mul n (k+1);have e:cho (n+1) (k+1)=cho n k+cho n (k+1):=by rw[cho]
  rw[show cho (n+1+1) (k+1+1)=cho (n+1) (k+1)+cho (n+1) (k+1+1) by rw[cho]];generalize cho (n+1) (k+1+1)=u at *;generalize cho (n+1) (k+1)=v at *;generalize cho n (k+1)=x at *;generalize cho n k=y at *;have e1:(k+1+1)*(v+u)=(k+1)*v+v+(k+1+1)*u:=by rw[Nat.mul_add,Nat.succ_mul (k+1) v]
  rw[e1,h1,h2,e,Nat.succ_mul (n+1),Nat.mul_add];omega
theorem cho_prime{p k:Nat}(hp:Pr p)(h0:0<k)(hk:k<p):p∣cho p k:=by
 obtain⟨n,rfl⟩:∃ n,p=n+1:=⟨p - 1,by have:=hp.1;omega⟩
 obtain⟨j,rfl⟩:∃ j,k=j+1:=⟨k - 1,by omega⟩
 have h:=cho_mul n j;have hd:n+1∣(j+1)*cho (n+1) (j+1):=by rw[h];exact Nat.dvd_mul_right _ _
 rcases hp.dvd_mul hd with h1 | h1
 ·exact absurd (Nat.le_of_dvd (by omega) h1) (by omega)
 ·exact h1
def bsum(n a:Nat):Nat->Nat
 | 0=>0
 | j+1=>bsum n a j+cho n j*a^j
theorem bsum_next(n a:Nat):∀ j,bsum (n+1) a (j+1)+cho n j*a^(j+1)=(a+1)*bsum n a j+cho n j*a^(j+1)+cho n j*a^j
 | 0=>by simp[bsum,cho_zero];omega
 | j+1=>by
  have h:=bsum_next n a j;have e:cho (n+1) (j+1)=cho n j+cho n (j+1):=by rw[cho]
  have e2:bsum (n+1) a (j+1+1)=bsum (n+1) a (j+1)+cho (n+1) (j+1)*a^(j+1):=rfl;have e3:bsum n a (j+1)=bsum n a j+cho n j*a^j:=rfl;rw[e2,e3,e,Nat.add_mul,Nat.mul_add];have e4:(a+1)*(cho n j*a^j)=cho n j*a^(j+1)+cho n j*a^j:=by
   rw[Nat.add_mul,Nat.one_mul,Nat.pow_succ,Nat.mul_left_comm,Nat.mul_comm a]
  rw[e4];omega
theorem binom(n a:Nat):bsum n a (n+1)=(a+1)^n:=by
 induction n with
 | zero=>simp[bsum,cho]
 | succ n ih =>
  have h:=bsum_next n a (n+1);rw[cho_above n (n+1) (by omega),ih]at h;simp only[Nat.zero_mul,Nat.add_zero]at h;rw[h,Nat.pow_succ,Nat.mul_comm]
theorem bsum_prime{p:Nat}(hp:Pr p)(a:Nat):∀ j,0<j->j<=p->bsum p a j%p=1%p:=by
 intro j
 induction j with
 | zero=>intro h;omega
 | succ j ih =>
  intro _ hj;by_cases h0:j=0
  ·subst h0;simp[bsum,cho_zero]
  ·have h:=ih (by omega) (by omega)
   obtain⟨q,hq⟩:=cho_prime hp (k:=j) (by omega) (by omega);show(bsum p a j+cho p j*a^j)%p=_;rw[hq,Nat.mul_assoc,Nat.add_mul_mod_self_left,h]
-- FERMAT
theorem fermat{p:Nat}(hp:Pr p)(a:Nat):a^p%p=a%p:=by
 induction a with
 | zero=>rw[Nat.zero_pow (by have:=hp.1;omega)]
 | succ a ih =>
  rw[<- binom];show(bsum p a p+cho p p*a^p)%p=_;rw[cho_self,Nat.one_mul,Nat.add_mod,bsum_prime hp a p (by have:=hp.1;omega) (Nat.le_refl _),ih,<- Nat.add_mod,Nat.add_comm]
theorem fermat1{p:Nat}(hp:Pr p)(a:Nat)(ha:¬p∣a):a^(p - 1)%p=1:=by
 have h:=fermat hp a;have h2:=hp.1;obtain⟨n,rfl⟩:∃ n,p=n+1:=⟨p - 1,by omega⟩
 have hge:1<=a^n:=Nat.pow_pos (Nat.pos_of_ne_zero (by rintro rfl;simp at ha));have hd:n+1∣a*(a^n - 1):=by
  have:=Nat.sub_mod_eq_zero_of_mod_eq h;rw[Nat.mul_sub,Nat.mul_one,<- Nat.pow_succ'];exact Nat.dvd_of_mod_eq_zero this
 have h3:=(hp.coprime ha).dvd_of_dvd_mul_left hd;obtain⟨q,hq⟩:=h3;show a^n%(n+1)=1;have:a^n=1+(n+1)*q:=by omega
 rw[this,Nat.add_mul_mod_self_left,Nat.mod_eq_of_lt (by omega)]
theorem one_gcd{p b:Nat}(hp:1<p)(m n:Nat):b^m%p=1->b^n%p=1->b^Nat.gcd m n%p=1:=by
 induction m,n using Nat.gcd.induction with
 | H0 n=>intro _ h;rw[Nat.gcd_zero_left];exact h
 | H1 m n hm ih =>
  intro h1 h2;rw[Nat.gcd_rec];refine ih ?_ h1;have e:b^n=(b^m)^(n / m)*b^(n%m):=by rw[<- Nat.pow_mul,<- Nat.pow_add,Nat.div_add_mod]
  rw[e,Nat.mul_mod,Nat.pow_mod,h1,Nat.one_pow,Nat.mod_eq_of_lt hp,Nat.one_mul,Nat.mod_mod]at h2;exact h2
-- POCKLINGTON
def pwrm(m:Nat):Nat->Nat->Nat->Nat->Nat
 | 0,_,_,r=>r
 | f+1,b,e,r=>if e=0 then r else pwrm m f (b*b%m) (e / 2) (if e%2=1 then r*b%m else r)
theorem pwrm_eq(m:Nat):∀ f b e r,e<2^f->r%m=r->pwrm m f b e r=r*b^e%m
 | 0,b,e,r,h,hr=>by
  obtain rfl:e=0:=by simpa using h
  simp[pwrm,hr]
 | f+1,b,e,r,h,hr=>by
  unfold pwrm;by_cases h0:e=0
  ·simp[h0,hr]
  ·rw[if_neg h0,pwrm_eq m f _ _ _ (by rw[Nat.pow_succ]at h;omega) (by split;exact Nat.mod_mod _ _;exact hr)]
   have e1:(b*b%m)^(e / 2)%m=b^(2*(e / 2))%m:=by rw[<- Nat.pow_mod,Nat.pow_mul,Nat.pow_two]
   rw[Nat.mul_mod,e1];by_cases h1:e%2=1
   ·rw[if_pos h1,Nat.mod_mod,<- Nat.mul_mod,Nat.mul_assoc,<- Nat.pow_succ',show(2*(e / 2)).succ=e by omega]
   ·rw[if_neg h1,<- Nat.mul_mod,show 2*(e / 2)=e by omega]
def pwr(m b e:Nat):Nat:=pwrm m 260 b e (1%m)
theorem pwr_eq(m b e:Nat)(h:e<2^260):pwr m b e=b^e%m:=by
 unfold pwr;rw[pwrm_eq m _ _ _ _ h (Nat.mod_mod _ _),Nat.mul_mod,Nat.mod_mod,<- Nat.mul_mod,Nat.one_mul]
def prodL:List Nat->Nat
 | []=>1
 | q::l=>q*prodL l
def pock(n a:Nat)(qs:List Nat):Bool:=(2<=n)&&(n<2^260)&&(pwr n a (n - 1) == 1)&&qs.all (fun q=>(n - 1)%q == 0&&Nat.gcd (pwr n a ((n - 1) / q)+(n - 1)) n == 1)&&(n<(prodL qs+1)*(prodL qs+1))&&decide qs.Nodup
theorem pock_step{n a q p:Nat}(h2:2<=n)(h3:n<2^260)(h1:pwr n a (n - 1)=1)(hq:Pr q)(hqd:(n - 1)%q=0)(hg:Nat.gcd (pwr n a ((n - 1) / q)+(n - 1)) n=1)(hp:Pr p)(hpn:p∣n):q∣p - 1:=by
 rw[pwr_eq _ _ _ (by omega)]at h1;have hle:(n - 1) / q<=n - 1:=Nat.div_le_self _ _;rw[pwr_eq _ _ _ (by omega)]at hg;obtain⟨b,hb⟩:∃ b,a^((n - 1) / q)=b:=⟨_,rfl⟩
 rw[hb]at hg;have hbq:b^q=a^(n - 1):=by rw[<- hb,<- Nat.pow_mul,Nat.div_mul_cancel (Nat.dvd_of_mod_eq_zero hqd)]
 have hp2:=hp.1;have hmm:∀ x,x%n%p=x%p:=fun x=>Nat.mod_mod_of_dvd x hpn;have hbq1:b^q%p=1:=by rw[hbq,<- hmm,h1,Nat.mod_eq_of_lt (by omega)]
 have hpb:¬p∣b:=fun h=>by
  have h4:p∣b^q:=Nat.dvd_trans h (by obtain⟨k,rfl⟩:∃ k,q=k+1:=⟨q - 1,by have:=hq.1;omega⟩;rw[Nat.pow_succ];exact Nat.dvd_mul_left _ _);have:=Nat.mod_eq_zero_of_dvd h4;omega
 have hbp:=fermat1 hp b hpb;by_cases hd:q∣p - 1
 ·exact hd
 ·exfalso
  have hc:=one_gcd (by omega) q (p - 1) hbq1 hbp;rw[show Nat.gcd q (p - 1)=1 from hq.coprime hd,Nat.pow_one]at hc;have h5:p∣b%n+(n - 1):=by
   apply Nat.dvd_of_mod_eq_zero;obtain⟨k,hk⟩:=hpn;rw[Nat.add_mod,hmm,hc];have e:n - 1=(p - 1)+p*(k - 1):=by
    have hk0:k≠0:=by rintro rfl;simp at hk;omega
    obtain⟨j,rfl⟩:∃ j,k=j+1:=⟨k - 1,by omega⟩
    rw[hk,Nat.mul_add,Nat.add_sub_cancel];omega
   rw[e,Nat.add_mul_mod_self_left,Nat.mod_eq_of_lt (show p - 1<p by omega),show 1+(p - 1)=p by omega,Nat.mod_self]
  have h6:=Nat.dvd_gcd h5 hpn;rw[hg]at h6;have:=Nat.le_of_dvd (by omega) h6;omega
theorem prodL_dvd{m:Nat}:∀ l:List Nat,l.Nodup->(∀ q∈l,Pr q)->(∀ q∈l,q∣m)->prodL l∣m/\∀ x,Pr x->x ∉ l->Nat.Coprime x (prodL l)
 | [],_,_,_=>⟨Nat.one_dvd _,fun x _ _=>Nat.coprime_one_right x⟩
 | q::l,hn,hp,hd=>by
  rw[List.nodup_cons]at hn;obtain⟨h1,h2⟩:=prodL_dvd l hn.2 (fun q h=>hp q (.tail _ h)) (fun q h=>hd q (.tail _ h));have hq:=hp q (.head _);refine⟨Nat.Coprime.mul_dvd_of_dvd_of_dvd (h2 q hq hn.1) (hd q (.head _)) h1,fun x hx hxl=>?_⟩;refine Nat.Coprime.mul_right (hx.coprime fun h=>?_) (h2 x hx fun h=>hxl (.tail _ h));rcases hq.2 x h with h3 | h3
  ·have:=hx.1;omega
  ·exact hxl (h3 ▸ .head _)
theorem pocklington(n a:Nat)(qs:List Nat)(h:pock n a qs=true)(hqs:∀ q∈qs,Pr q):Pr n:=by
 unfold pock at h;simp only[Bool.and_eq_true,decide_eq_true_eq,beq_iff_eq,List.all_eq_true]at h;obtain⟨⟨⟨⟨⟨h2,h3⟩,h1⟩,hq⟩,hs⟩,hn⟩:=h;refine small_prime h2 fun p hp hpn=>?_;have hd:=(prodL_dvd (m:=p - 1) qs hn hqs (fun q hm=>pock_step h2 h3 h1 (hqs q hm) (hq q hm).1 (hq q hm).2 hp hpn)).1;have hp2:=hp.1;have hle:=Nat.le_of_dvd (by omega) hd;have:=Nat.mul_le_mul (show prodL qs+1<=p by omega) (show prodL qs+1<=p by omega);omega
def trial(n:Nat):Nat->Bool
 | 0=>true
 | k+1=>(k<2||n%k != 0)&&trial n k
theorem trial_at(n:Nat):∀ k,trial n k=true->∀ d,2<=d->d<k->n%d≠0
 | 0,_,d,_,h=>by omega
 | k+1,h,d,h2,hd=>by
  unfold trial at h;simp only[Bool.and_eq_true,Bool.or_eq_true,decide_eq_true_eq,bne_iff_ne]at h;by_cases e:d=k
  ·subst e
   rcases h.1 with h1 | h1
   ·omega
   ·exact h1
  ·exact trial_at n k h.2 d h2 (by omega)
theorem tried(n k:Nat)(h2:2<=n)(hk:n<k*k)(h:trial n k=true):Pr n:=by
 refine small_prime h2 fun p hp hpn=>?_;have hp2:=hp.1;by_cases e:p<k
 ·exact absurd (Nat.mod_eq_zero_of_dvd hpn) (trial_at n k h p hp2 e)
 ·have:=Nat.mul_le_mul (show k<=p by omega) (show k<=p by omega)
  omega
theorem prm_53:Pr 53:=tried 53 8 (by decide) (by decide) (by decide +kernel)
theorem prm_29:Pr 29:=tried 29 6 (by decide) (by decide) (by decide +kernel)
theorem prm_7:Pr 7:=tried 7 3 (by decide) (by decide) (by decide +kernel)
theorem prm_107590001:Pr 107590001:=pocklington 107590001 2 [53,29,7] (by decide +kernel) (by intro q hq;simp only[List.mem_cons,List.not_mem_nil,or_false]at hq;rcases hq with rfl | rfl | rfl <;> first | exact prm_53 | exact prm_29 | exact prm_7)
theorem prm_419:Pr 419:=tried 419 21 (by decide) (by decide) (by decide +kernel)
theorem prm_20113:Pr 20113:=pocklington 20113 2 [419] (by decide +kernel) (by intro q hq;simp only[List.mem_cons,List.not_mem_nil,or_false]at hq;rcases hq with rfl <;> first | exact prm_419)
theorem prm_1206781:Pr 1206781:=pocklington 1206781 2 [20113] (by decide +kernel) (by intro q hq;simp only[List.mem_cons,List.not_mem_nil,or_false]at hq;rcases hq with rfl <;> first | exact prm_20113)
theorem prm_7240687:Pr 7240687:=pocklington 7240687 2 [1206781] (by decide +kernel) (by intro q hq;simp only[List.mem_cons,List.not_mem_nil,or_false]at hq;rcases hq with rfl <;> first | exact prm_1206781)
theorem prm_239:Pr 239:=tried 239 16 (by decide) (by decide) (by decide +kernel)
theorem prm_101:Pr 101:=tried 101 11 (by decide) (by decide) (by decide +kernel)
theorem prm_96557:Pr 96557:=pocklington 96557 2 [239,101] (by decide +kernel) (by intro q hq;simp only[List.mem_cons,List.not_mem_nil,or_false]at hq;rcases hq with rfl | rfl <;> first | exact prm_239 | exact prm_101)
theorem prm_255515944373312847190720520512484175977:Pr 255515944373312847190720520512484175977:=pocklington 255515944373312847190720520512484175977 2 [107590001,7240687,96557] (by decide +kernel) (by intro q hq;simp only[List.mem_cons,List.not_mem_nil,or_false]at hq;rcases hq with rfl | rfl | rfl <;> first | exact prm_107590001 | exact prm_7240687 | exact prm_96557)
theorem prm_205115282021455665897114700593932402728804164701536103180137503955397371:Pr 205115282021455665897114700593932402728804164701536103180137503955397371:=pocklington 205115282021455665897114700593932402728804164701536103180137503955397371 2 [255515944373312847190720520512484175977] (by decide +kernel) (by intro q hq;simp only[List.mem_cons,List.not_mem_nil,or_false]at hq;rcases hq with rfl <;> first | exact prm_255515944373312847190720520512484175977)
theorem prm_115792089237316195423570985008687907853269984665640564039457584007908834671663:Pr 115792089237316195423570985008687907853269984665640564039457584007908834671663:=pocklington 115792089237316195423570985008687907853269984665640564039457584007908834671663 2 [205115282021455665897114700593932402728804164701536103180137503955397371] (by decide +kernel) (by intro q hq;simp only[List.mem_cons,List.not_mem_nil,or_false]at hq;rcases hq with rfl <;> first | exact prm_205115282021455665897114700593932402728804164701536103180137503955397371)
theorem prm_1871:Pr 1871:=tried 1871 44 (by decide) (by decide) (by decide +kernel)
theorem prm_1627771:Pr 1627771:=pocklington 1627771 2 [1871] (by decide +kernel) (by intro q hq;simp only[List.mem_cons,List.not_mem_nil,or_false]at hq;rcases hq with rfl <;> first | exact prm_1871)
theorem prm_297159362677:Pr 297159362677:=pocklington 297159362677 2 [1627771] (by decide +kernel) (by intro q hq;simp only[List.mem_cons,List.not_mem_nil,or_false]at hq;rcases hq with rfl <;> first | exact prm_1627771)
theorem prm_1409:Pr 1409:=tried 1409 38 (by decide) (by decide) (by decide +kernel)
theorem prm_28181:Pr 28181:=pocklington 28181 2 [1409] (by decide +kernel) (by intro q hq;simp only[List.mem_cons,List.not_mem_nil,or_false]at hq;rcases hq with rfl <;> first | exact prm_1409)
theorem prm_545358713:Pr 545358713:=pocklington 545358713 2 [28181] (by decide +kernel) (by intro q hq;simp only[List.mem_cons,List.not_mem_nil,or_false]at hq;rcases hq with rfl <;> first | exact prm_28181)
theorem prm_29047611873442575647497758179:Pr 29047611873442575647497758179:=pocklington 29047611873442575647497758179 2 [297159362677,545358713] (by decide +kernel) (by intro q hq;simp only[List.mem_cons,List.not_mem_nil,or_false]at hq;rcases hq with rfl | rfl <;> first | exact prm_297159362677 | exact prm_545358713)
theorem prm_341948486974166000522343609283189:Pr 341948486974166000522343609283189:=pocklington 341948486974166000522343609283189 2 [29047611873442575647497758179] (by decide +kernel) (by intro q hq;simp only[List.mem_cons,List.not_mem_nil,or_false]at hq;rcases hq with rfl <;> first | exact prm_29047611873442575647497758179)
theorem prm_41:Pr 41:=tried 41 7 (by decide) (by decide) (by decide +kernel)
theorem prm_19:Pr 19:=tried 19 5 (by decide) (by decide) (by decide +kernel)
theorem prm_9349:Pr 9349:=pocklington 9349 2 [41,19] (by decide +kernel) (by intro q hq;simp only[List.mem_cons,List.not_mem_nil,or_false]at hq;rcases hq with rfl | rfl <;> first | exact prm_41 | exact prm_19)
theorem prm_44706919:Pr 44706919:=pocklington 44706919 2 [9349] (by decide +kernel) (by intro q hq;simp only[List.mem_cons,List.not_mem_nil,or_false]at hq;rcases hq with rfl <;> first | exact prm_9349)
theorem prm_113:Pr 113:=tried 113 11 (by decide) (by decide) (by decide +kernel)
theorem prm_120233:Pr 120233:=pocklington 120233 2 [113,19] (by decide +kernel) (by intro q hq;simp only[List.mem_cons,List.not_mem_nil,or_false]at hq;rcases hq with rfl | rfl <;> first | exact prm_113 | exact prm_19)
theorem prm_174723607534414371449:Pr 174723607534414371449:=pocklington 174723607534414371449 2 [44706919,120233] (by decide +kernel) (by intro q hq;simp only[List.mem_cons,List.not_mem_nil,or_false]at hq;rcases hq with rfl | rfl <;> first | exact prm_44706919 | exact prm_120233)
theorem prm_115792089237316195423570985008687907852837564279074904382605163141518161494337:Pr 115792089237316195423570985008687907852837564279074904382605163141518161494337:=pocklington 115792089237316195423570985008687907852837564279074904382605163141518161494337 2 [341948486974166000522343609283189,174723607534414371449] (by decide +kernel) (by intro q hq;simp only[List.mem_cons,List.not_mem_nil,or_false]at hq;rcases hq with rfl | rfl <;> first | exact prm_341948486974166000522343609283189 | exact prm_174723607534414371449)
open Go.RowKit
-- WHAT Curve COMES TO.
theorem f_Curve(w:World):Calls Try.prog 32 #[] w fun e w'=>∃ F,e=.returned (.pointer (some ⟨F,0,none⟩))/\FldAt w' F 115792089237316195423570985008687907853269984665640564039457584007908834671663/\w.heap.size<=F/\Below w.heap.size w w':=by
 have HMO:=Lib.hid (fun wx=>modulo_any 115792089237316195423570985008687907853269984665640564039457584007908834671663 (by omega) (by omega) (by omega) wx);rw[show pw 115792089237316195423570985008687907853269984665640564039457584007908834671663=#[.int .u64 18446744069414583343,.int .u64 18446744073709551615,.int .u64 18446744073709551615,.int .u64 18446744073709551615] from by kernel_rfl]at HMO;go_enter Try.func32,Try.ntmps32
 go_wp2_with fail
 refine(HMO.out _).mono ?_;rintro e w5 ⟨F,rfl,hF,hs,hb⟩;have HF:=Lib.hid (And.intro hF (And.intro hs hb));clear hF hs hb HMO
 go_wp2_with fail
 go_ret;exact⟨F,rfl,HF.out.1,HF.out.2⟩
def cyN(a b k:Nat):Nat:=(a%2^(64*k)+b%2^(64*k)) / 2^(64*k)
def bwN(a b k:Nat):Nat:=if a%2^(64*k)<b%2^(64*k)then 1 else 0
theorem cy_step(a b k:Nat)(ha:a<2^256)(hb:b<2^256)(hk:k<4):pN a k+pN b k+cyN a b k=pN (a+b) k+18446744073709551616*cyN a b (k+1)/\cyN a b k<=1/\cyN a b (k+1)<=1:=by
 unfold pN cyN;have:k=0\/k=1\/k=2\/k=3:=by omega
 rcases this with rfl | rfl | rfl | rfl <;> simp only[Nat.reduceMul,Nat.reduceAdd,Nat.reducePow] <;> omega
theorem bw_step(a b k:Nat)(ha:a<2^256)(hb:b<2^256)(hk:k<4):pN a k+18446744073709551616*bwN a b (k+1)=pN b k+bwN a b k+pN (a+2^256 - b) k/\bwN a b k<=1/\bwN a b (k+1)<=1:=by
 unfold pN bwN;have:k=0\/k=1\/k=2\/k=3:=by omega
 rcases this with rfl | rfl | rfl | rfl <;> simp only[Nat.reduceMul,Nat.reduceAdd,Nat.reducePow] <;> split <;> split <;> omega
theorem cy_end(a b:Nat)(ha:a<2^256)(hb:b<2^256):cyN a b 4=if (2^256)<=a+b then 1 else 0:=by
 unfold cyN;simp only[Nat.reduceMul,Nat.reducePow]
 split <;> omega
theorem cy_zero(a b:Nat):cyN a b 0=0:=by unfold cyN;simp[Nat.mod_one]
theorem bw_zero(a b:Nat):bwN a b 0=0:=by unfold bwN;simp[Nat.mod_one]
def mixN(x y k j:Nat):Nat:=if j<k then pN x j else pN y j
theorem mix_next(x y k j:Nat):mixN x y (k+1) j=if j=k then pN x k else mixN x y k j:=by
 unfold mixN;by_cases e:j=k
 ·subst e;rw[if_pos (by omega),if_pos rfl]
 ·rw[if_neg e]
  by_cases h:j<k
  ·rw[if_pos (by omega),if_pos h]
  ·rw[if_neg (by omega),if_neg h]
theorem top_step(a k:Nat)(ha:a<2^256)(hk:k<4):a / 2^(64*k)=a / 2^(64*(k+1))*18446744073709551616+pN a k:=by
 unfold pN;have:k=0\/k=1\/k=2\/k=3:=by omega
 rcases this with rfl | rfl | rfl | rfl <;> simp only[Nat.reduceMul,Nat.reduceAdd,Nat.reducePow] <;> omega
theorem div_lt_of{a b P:Nat}(h:a / P<b / P):a<b:=Nat.lt_of_not_le fun hle=>Nat.not_lt.2 (Nat.div_le_div_right hle) h
def qN(x j:Nat):Nat:=x%115792089237316195423570985008687907853269984665640564039457584007913129639936 / 2^(32*j)%4294967296
theorem qN_lt(x j:Nat):qN x j<4294967296:=Nat.mod_lt _ (by omega)
theorem qn_of(x k p s:Nat)(hp:k / 2=p)(hs:32*(k%2)=s):pN x p / 2^s%4294967296=qN x k:=by
 subst hp hs;unfold pN qN;have e:18446744073709551616=2^(32*(k%2))*2^(64 - 32*(k%2)):=by rw[<- Nat.pow_add,show 32*(k%2)+(64 - 32*(k%2))=64 by omega]
 have e2:(4294967296:Nat)=2^32:=by rfl
 rw[e,Nat.mod_mul_right_div_self,e2,Nat.mod_mod_of_dvd _ (Nat.pow_dvd_pow 2 (by omega)),Nat.div_div_eq_div_mul,<- Nat.pow_add,show 64*(k / 2)+32*(k%2)=32*k by omega]
theorem odd_part:∀ n:Nat,0<n->∃ v r,n=2^v*(2*r+1):=by
 intro n
 induction n using Nat.strongRecOn with
 | ind n ih =>
  intro h;by_cases ho:n%2=1
  ·exact⟨0,n / 2,by rw[Nat.pow_zero,Nat.one_mul];omega⟩
  ·obtain⟨v,r,e⟩:=ih (n / 2) (by omega) (by omega)
   exact⟨v+1,r,by rw[Nat.pow_succ,Nat.mul_comm (2^v) 2,Nat.mul_assoc,<- e];omega⟩
theorem and_compl(r n:Nat)(h:r<2^n):r &&& (2^n - (r+1))=0:=by
 apply Nat.eq_of_testBit_eq;intro i;rw[Nat.testBit_and,Nat.testBit_two_pow_sub_succ h,Nat.zero_testBit];cases Nat.testBit r i <;> simp
theorem and_odd(r s:Nat)(h:r &&& s=0):(2*r+1) &&& (2*s+1)=1:=by
 apply Nat.eq_of_testBit_eq;intro i;cases i with
 | zero=>rw[Nat.testBit_and];simp[Nat.testBit_zero]
 | succ i =>
  have e:Nat.testBit (r &&& s) i=false:=by rw[h,Nat.zero_testBit]
  rw[Nat.testBit_and]at e;rw[Nat.testBit_and,Nat.testBit_succ,Nat.testBit_succ,Nat.testBit_succ,show(2*r+1) / 2=r by omega,show(2*s+1) / 2=s by omega,e];simp
theorem low_bit(L:Nat)(h0:0<L)(hl:L<4294967296):∃ v r,L=2^v*(2*r+1)/\v<32/\L &&& (18446744073709551616 - L)=2^v:=by
 obtain⟨v,r,e⟩:=odd_part L h0;have hv:v<32:=by
  apply Classical.byContradiction;intro hn;have:2^32<=2^v:=Nat.pow_le_pow_right (by omega) (by omega);have h2:2^v*1<=2^v*(2*r+1):=Nat.mul_le_mul_left _ (by omega);omega
 refine⟨v,r,e,hv,?_⟩;have hr:r<2^(63 - v):=by
  apply Classical.byContradiction;intro hn;have h2:2^v*2^(63 - v)<=2^v*r:=Nat.mul_le_mul_left _ (by omega);have h3:2^v*r<=2^v*(2*r+1):=Nat.mul_le_mul_left _ (by omega);rw[<- Nat.pow_add,show v+(63 - v)=63 by omega]at h2;omega
 have e2:18446744073709551616 - L=2^v*(2*(2^(63 - v) - (r+1))+1):=by
  have e3:2^v*(2*2^(63 - v))=18446744073709551616:=by
   rw[show 2*2^(63 - v)=2^(64 - v) by rw[<- Nat.pow_succ',Nat.succ_eq_add_one,show 63 - v+1=64 - v by omega],<- Nat.pow_add,show v+(64 - v)=64 by omega]
  rw[<- e3,e,<- Nat.mul_sub];congr 1;omega
 rw[e2,e,Nat.mul_comm (2^v),Nat.mul_comm (2^v),<- Nat.shiftLeft_eq,<- Nat.shiftLeft_eq,<- Nat.shiftLeft_and_distrib,and_odd _ _ (and_compl _ _ hr),Nat.shiftLeft_eq,Nat.one_mul]
def LowI(m lo:Nat):Prop:=∃ t,t<=32/\lo<2^t/\2^t∣lo*m+1
theorem LowI.lt{m lo:Nat}(h:LowI m lo):lo<4294967296:=by
 obtain⟨t,h1,h2,-⟩:=h;have:2^t<=2^32:=Nat.pow_le_pow_right (by omega) h1;omega
theorem LowI.start{m:Nat}(h:m%2=1):LowI m 1:=⟨1,by omega,by omega,by rw[Nat.dvd_iff_mod_eq_zero];omega⟩
theorem LowI.step{m lo c L:Nat}(h:LowI m lo)(ho:m%2=1)(hc:lo*m%4294967296=c)(hn:c≠4294967295)(hL:4294967295 - c=L):∃ b,L &&& (18446744073709551616 - L)=b/\0<b/\lo+b<4294967296/\LowI m (lo+b):=by
 have hcl:c<4294967296:=by rw[<- hc];exact Nat.mod_lt _ (by omega)
 obtain⟨v,r,e,hv,hb⟩:=low_bit L (by omega) (by omega);obtain⟨t,h1,h2,h3⟩:=h;have hpv:0<2^v:=Nat.pow_pos (by omega)
 -- lo*m+1 and L are together a multiple of 2^32
 obtain⟨z,hz⟩:∃ z,lo*m+1+L=4294967296*z:=⟨lo*m / 4294967296+1,by have:=Nat.div_add_mod (lo*m) 4294967296;omega⟩
 have htL:2^t∣L:=by
  have hd:2^t∣lo*m+1+L:=by
   rw[hz];exact Nat.dvd_trans (show 2^t∣4294967296 from(show(2:Nat)^t∣2^32 from Nat.pow_dvd_pow 2 h1)) (Nat.dvd_mul_right _ _)
  exact(Nat.dvd_add_iff_right h3).2 hd
 have htv:t<=v:=by
  apply Classical.byContradiction;intro hn;have h4:2^(v+1)∣2^v*(2*r+1):=by rw[<- e];exact Nat.dvd_trans (Nat.pow_dvd_pow 2 (by omega)) htL
  rw[Nat.pow_succ]at h4;have:=Nat.dvd_of_mul_dvd_mul_left hpv h4;omega
 have hlo:lo<2^v:=Nat.lt_of_lt_of_le h2 (Nat.pow_le_pow_right (by omega) htv);have hv1:2^(v+1)=2^v*2:=Nat.pow_succ _ _;have hv2:2^(v+1)<=2^32:=Nat.pow_le_pow_right (by omega) (by omega);refine⟨2^v,hb,hpv,by omega,v+1,by omega,by omega,?_⟩;have h5:2^(v+1)∣4294967296:=(show(2:Nat)^(v+1)∣2^32 from Nat.pow_dvd_pow 2 (by omega))
 have h6:(lo+2^v)*m+1+L=4294967296*z+2^v*m:=by rw[Nat.add_mul];omega
 have h7:2^v*m+2^(v+1)*r+2^v=L+2^v*m:=by rw[e,hv1];grind
 obtain⟨u,hu⟩:∃ u,m=2*u+1:=⟨m / 2,by omega⟩
 -- (lo+2^v) m+1=2^32 z+2^v (m - 2r - 1): told with no difference
 have h8:2^(v+1)∣(lo+2^v)*m+1+2^(v+1)*r:=by
  have e9:(lo+2^v)*m+1+2^(v+1)*r=4294967296*z+2^(v+1)*u:=by
   have:2^v*m=2^(v+1)*u+2^v:=by rw[hu,hv1];grind
   have e10:L=2^(v+1)*r+2^v:=by rw[e,hv1];grind
   omega
  rw[e9];exact Nat.dvd_add (Nat.dvd_trans h5 (Nat.dvd_mul_right _ _)) (Nat.dvd_mul_right _ _)
 exact(Nat.dvd_add_iff_left (Nat.dvd_mul_right _ _)).2 h8
theorem LowI.done{m lo:Nat}(hc:lo*m%4294967296=4294967295):(lo*m+1)%4294967296=0:=by omega
open Go.RowKit
structure W2 (w:World) (fa fb:Nat->Nat) (wx:World):Prop where
 old:Below w.heap.size w wx
 ra:wx.heap[w.heap.size]?=some (.cells (ar .u64 4 fun j=>((fa j:Nat):Int)) 24 (0,0))
 rb:wx.heap[w.heap.size+1]?=some (.cells (ar .u64 4 fun j=>((fb j:Nat):Int)) 24 (0,0))
theorem W2.drew{w wx:World}{fa fb:Nat->Nat}(c:W2 w fa fb wx):W2 w fa fb wx.drew:=⟨c.old.drew,c.ra,c.rb⟩
theorem W2.ca{w wx:World}{fa fb:Nat->Nat}(c:W2 w fa fb wx)(j:Nat)(hj:j<4):wx.cell? ⟨w.heap.size,j,none⟩=some (.int .u64 (fa j:Nat)):=(cell_of_row _ _ j _ _ _ c.ra).trans (ar_at _ _ _ _ hj)
theorem W2.cb{w wx:World}{fa fb:Nat->Nat}(c:W2 w fa fb wx)(j:Nat)(hj:j<4):wx.cell? ⟨w.heap.size+1,j,none⟩=some (.int .u64 (fb j:Nat)):=(cell_of_row _ _ j _ _ _ c.rb).trans (ar_at _ _ _ _ hj)
theorem W2.start(w:World)(a b:Nat):W2 w (pN a) (pN b) ((w.alloc (.cells (pw a) 24)).alloc (.cells (pw b) 24)):=by
 refine⟨((Below.refl _ _).alloc (Nat.le_refl _) _).alloc (by simp) _,?_,?_⟩
 ·rw[Below.heap_alloc _ _ _ (by simp),heap_alloc_new,pw_ar]
 ·have:=heap_alloc_new (w.alloc (.cells (pw a) 24)) (.cells (pw b) 24)
  rw[World.size_alloc]at this;rw[this,pw_ar]
theorem moreW_any(a b:Nat)(ha:a<2^256)(hb:b<2^256)(w:World):Calls Try.prog 42 #[.agg (pw a),.agg (pw b)] w fun e w'=>e=.returned (.bool (decide (b<=a)))/\Below w.heap.size w w':=by
 have HAB:=Lib.hid (And.intro ha hb);have HS:=Lib.hid (show a / 2^(64*4)=b / 2^(64*4) from by rw[Nat.div_eq_of_lt (by simpa using ha),Nat.div_eq_of_lt (by simpa using hb)]);have HR:=Lib.hid (show ∃ w0,(w.alloc (.cells (pw a) 24)).alloc (.cells (pw b) 24)=w0/\W2 w (pN a) (pN b) w0 from⟨_,rfl,W2.start w a b⟩);clear ha hb;go_enter Try.func42,Try.ntmps42
 go_wp2_with fail
 obtain⟨w0,hw0,h0⟩:=HR.out;rw[hw0];have H0:=Lib.hid h0;clear hw0 h0 HR
 go_loopw [5] (fun iv wr=>∃(z:Int) (k:Nat),k<=4/\z=(k:Int) - 1/\iv=.int .i64 z/\Hid (a / 2^(64*k)=b / 2^(64*k)/\W2 w (pN a) (pN b) wr)) (fun iv _=>(intOf iv+1).toNat)
 case atStart=>exact⟨3,4,by omega,by omega,rfl,Lib.hid ⟨HS.out,H0.out⟩⟩
 case round =>
  obtain⟨z,k,hk,hz,rfl,H⟩:=hrel;clear H0 HS;by_cases h0:0<=z
  ·obtain⟨j,rfl⟩:=Int.eq_ofNat_of_zero_le h0
   obtain rfl:k=j+1:=by omega
   have hj:j<4:=by omega
   have hj4:(j:Int)<4:=by omega
   have ca:=H.out.2.ca j hj;have cb:=H.out.2.cb j hj;have ta:=Lib.hid (top_step a j HAB.out.1 hj);have tb:=Lib.hid (top_step b j HAB.out.2 hj);have hpl:=pN_le a j;have hql:=pN_le b j;obtain⟨p,hp⟩:∃ p,pN a j=p:=⟨_,rfl⟩
   obtain⟨q,hq⟩:∃ q,pN b j=q:=⟨_,rfl⟩
   rw[hp]at ca ta hpl;rw[hq]at cb tb hql;clear hp hq;have HL:=Lib.hid (And.intro hpl hql);clear hpl hql;by_cases he:p=q
   ·subst he
    clear hk hz hj
    go_wp2_with fail
    go_region
    go_wp2
    go_roundw
    case rel=>exact⟨(j:Int) - 1,j,by omega,rfl,by go_num,Lib.hid ⟨by rw[ta.out,tb.out,H.out.1],H.out.2.drew⟩⟩
    case measure=>simp[intOf]
   ·have hne:¬(p:Int)=(q:Int):=by omega
    by_cases hlt:q<p
    ·have hgt:(q:Int)<(p:Int):=by omega
     have HE:=Lib.hid (show decide (b<=a)=true from decide_eq_true (Nat.le_of_lt (div_lt_of (P:=2^(64*j)) (by rw[ta.out,tb.out,H.out.1];omega))));clear hk hz hj he hlt ta tb HL
     go_wp2_with fail
     go_region
     go_wp2_with fail
     go_region
     go_wp2_with fail
     go_ret;exact⟨by rw[HE.out];first | rfl | (show Ending.returned (.bool (decide (q<p)))=_;rw[decide_eq_false (by omega)]),H.out.2.old.drew.drew⟩
    ·have hgt:¬(q:Int)<(p:Int):=by omega
     have HE:=Lib.hid (show decide (b<=a)=false from decide_eq_false (Nat.not_le.2 (div_lt_of (P:=2^(64*j)) (by rw[ta.out,tb.out,H.out.1];omega))));clear hk hz hj he hlt ta tb HL
     go_wp2_with fail
     go_region
     go_wp2_with fail
     go_region
     go_wp2_with fail
     go_ret;exact⟨by rw[HE.out];first | rfl | (show Ending.returned (.bool (decide (q<p)))=_;rw[decide_eq_false (by omega)]),H.out.2.old.drew.drew⟩
  ·obtain rfl:k=0:=by omega
   have hz':¬(z:Int) ≥ 0:=by omega
   have HE:=Lib.hid (show decide (b<=a)=true from decide_eq_true (by have:=H.out.1;simp at this;omega));clear hz
   go_wp2_with fail
   go_ret;exact⟨by rw[HE.out];rfl,H.out.2.old⟩
end Go.Proofs.Ytphafjbajlcbnaa
