/- The tower's values by letters: its types, its arrays, the field's own calls, methods of a tower, shapes of values. (Cut to what is reached, written closely: EcMul · EcOrd · Prm · FInvN · EcFp · TwP · TwS.) -/
import Derived.Test.YtadfjjfklihaaaaGreatQ27
import Derived.Laws.Bits64b
import Derived.Test.YtadfjjfklihaaaaGreatQ26
import Derived.Test.YtadfjjfklihaaaaGreatQ23
import Derived.Test.YtadfjjfklihaaaaGreatQ25
import Derived.Test.YtadfjjfklihaaaaGreatP19
import Derived.Test.YtadfjjfklihaaaaGreatP15
set_option linter.all false
set_option maxRecDepth 100000
set_option maxHeartbeats 8000000
namespace Go.Proofs.YtadfjjfklihaaaaGreat
structure Curve {K:Type} (F:CField K) (b:K):Prop where
 root:∀ x,cub F.ops x b≠F.zero
 two:∀ a:K,a≠F.zero->F.add a a≠F.zero
def nmul{K:Type}(F:CField K)[DecidableEq K]:Nat->Pt K->Pt K
 | 0,_=>.none
 | n+1,p=>psum F (nmul F n p) p
section
variable {K:Type} {F:CField K} {b:K}
theorem psum_none_r[DecidableEq K](p:Pt K):psum F p .none=p:=by cases p <;> rfl
theorem on_psum[DecidableEq K](h:Curve F b){p q:Pt K}(hp:p.On F b)(hq:q.On F b):(psum F p q).On F b:=(rep_std h.root h.two hp hq).2
theorem on_nmul[DecidableEq K](h:Curve F b){p:Pt K}(hp:p.On F b):∀ n,(nmul F n p).On F b
 | 0=>trivial
 | n+1=>on_psum h (on_nmul h hp n) hp
theorem nmul_add[DecidableEq K](h:Curve F b){p:Pt K}(hp:p.On F b)(m:Nat):∀ n,nmul F (m+n) p=psum F (nmul F m p) (nmul F n p)
 | 0=>(psum_none_r _).symm
 | n+1=>by rw[<- Nat.add_assoc,nmul,nmul_add h hp m n,nmul,psum_assoc h.root h.two (on_nmul h hp m) (on_nmul h hp n) hp]
theorem nmul_none[DecidableEq K]:∀ n,nmul F n (.none:Pt K)=.none
 | 0=>rfl
 | n+1=>by rw[nmul,nmul_none n];rfl
end
def Pr(p:Nat):Prop:=2<=p/\∀ d,d∣p->d=1\/d=p
theorem Pr.coprime{p a:Nat}(h:Pr p)(ha:¬p∣a):Nat.Coprime p a:=by
 rcases h.2 _ (Nat.gcd_dvd_left p a)with h1 | h1
 ·exact h1
 ·exact absurd (h1 ▸ Nat.gcd_dvd_right p a) ha
theorem Pr.dvd_mul{p a b:Nat}(h:Pr p)(hd:p∣a*b):p∣a\/p∣b:=by
 by_cases ha:p∣a
 ·exact .inl ha
 ·exact .inr ((h.coprime ha).dvd_of_dvd_mul_left hd)
theorem has_prime(n:Nat):2<=n->∃ p,Pr p/\p∣n:=by
 induction n using Nat.strongRecOn with
 | _ n ih =>
  intro hn;by_cases h:∃ d,d∣n/\d≠1/\d≠n
  ·obtain⟨d,hd,h1,h2⟩:=h
   have h3:d<=n:=Nat.le_of_dvd (by omega) hd;have h4:d≠0:=by rintro rfl;have:=Nat.eq_zero_of_zero_dvd hd;omega
   obtain⟨p,hp,hpd⟩:=ih d (by omega) (by omega);exact⟨p,hp,Nat.dvd_trans hpd hd⟩
  ·refine⟨n,⟨hn,fun d hd=>?_⟩,Nat.dvd_refl n⟩
   by_cases h1:d=1
   ·exact .inl h1
   ·by_cases h2:d=n
    ·exact .inr h2
    ·exact absurd ⟨d,hd,h1,h2⟩ h
theorem small_prime{n:Nat}(hn:2<=n)(h:∀ p,Pr p->p∣n->n<p*p):Pr n:=by
 refine⟨hn,fun d hd=>?_⟩;by_cases h1:d=1
 ·exact .inl h1
 ·right
  obtain⟨e,rfl⟩:=hd;have hd0:d≠0:=by rintro rfl;simp at hn
  have he0:e≠0:=by rintro rfl;simp at hn
  obtain⟨p,hp,hpd⟩:=has_prime d (by omega);have hp1:=h p hp (Nat.dvd_trans hpd (Nat.dvd_mul_right _ _));have hpl:=Nat.le_of_dvd (by omega) hpd;by_cases e1:e=1
  ·rw[e1,Nat.mul_one]
  ·obtain⟨q,hq,hqe⟩:=has_prime e (by omega)
   have hq1:=h q hq (Nat.dvd_trans hqe (Nat.dvd_mul_left _ _));have hql:=Nat.le_of_dvd (by omega) hqe;exfalso;have h2:p*q<=d*e:=Nat.mul_le_mul hpl hql;rcases Nat.le_total p q with hpq | hpq
   ·have:=Nat.mul_le_mul_left p hpq;omega
   ·have:=Nat.mul_le_mul_right q hpq;omega
-- BINOMIALS
def cho:Nat->Nat->Nat
 | _,0=>1
 | 0,_+1=>0
 | n+1,k+1=>cho n k+cho n (k+1)
theorem cho_zero(n:Nat):cho n 0=1:=by cases n <;> rfl
theorem cho_above:∀ n k,n<k->cho n k=0
 | 0,0,h=>by omega
 | 0,_+1,_=>rfl
 | _+1,0,h=>by omega
 | n+1,k+1,h=>by rw[cho,cho_above n k (by omega),cho_above n (k+1) (by omega)]
theorem cho_self:∀ n,cho n n=1
 | 0=>rfl
 | n+1=>by rw[cho,cho_self n,cho_above n (n+1) (by omega)]
theorem cho_mul:∀ n k,(k+1)*cho (n+1) (k+1)=(n+1)*cho n k
 | 0,0=>rfl
 | 0,k+1=>by rw[cho_above (0+1) (k+1+1) (by omega),cho_above 0 (k+1) (by omega)];simp
 | n+1,0=>by
  have h:=cho_mul n 0;rw[cho_zero]at h;rw[show cho (n+1+1) (0+1)=cho (n+1) 0+cho (n+1) (0+1) from rfl,cho_zero];omega
 | n+1,k+1=>by
  have h1:=cho_mul n k;have h2:=cho_mul n (k+1);have e:cho (n+1) (k+1)=cho n k+cho n (k+1):=by rw[cho]
  rw[show cho (n+1+1) (k+1+1)=cho (n+1) (k+1)+cho (n+1) (k+1+1) by rw[cho]];generalize cho (n+1) (k+1+1)=u at *;generalize cho (n+1) (k+1)=v at *;generalize cho n (k+1)=x at *;generalize cho n k=y at *;have e1:(k+1+1)*(v+u)=(k+1)*v+v+(k+1+1)*u:=by rw[Nat.mul_add,Nat.succ_mul (k+1) v]
  rw[e1,h1,h2,e,Nat.succ_mul (n+1),Nat.mul_add];omega
theorem cho_prime{p k:Nat}(hp:Pr p)(h0:0<k)(hk:k<p):p∣cho p k:=by
 obtain⟨n,rfl⟩:∃ n,p=n+1:=⟨p - 1,by have:=hp.1;omega⟩
 obtain⟨j,rfl⟩:∃ j,k=j+1:=⟨k - 1,by omega⟩
 have h:=cho_mul n j;have hd:n+1∣(j+1)*cho (n+1) (j+1):=by rw[h];exact Nat.dvd_mul_right _ _
 rcases hp.dvd_mul hd with h1 | h1
 ·exact absurd (Nat.le_of_dvd (by omega) h1) (by omega)
 ·exact h1
def bsum(n a:Nat):Nat->Nat
 | 0=>0
 | j+1=>bsum n a j+cho n j*a^j
theorem bsum_next(n a:Nat):∀ j,bsum (n+1) a (j+1)+cho n j*a^(j+1)=(a+1)*bsum n a j+cho n j*a^(j+1)+cho n j*a^j
 | 0=>by simp[bsum,cho_zero];omega
 | j+1=>by
  have h:=bsum_next n a j;have e:cho (n+1) (j+1)=cho n j+cho n (j+1):=by rw[cho]
  have e2:bsum (n+1) a (j+1+1)=bsum (n+1) a (j+1)+cho (n+1) (j+1)*a^(j+1):=rfl;have e3:bsum n a (j+1)=bsum n a j+cho n j*a^j:=rfl;rw[e2,e3,e,Nat.add_mul,Nat.mul_add];have e4:(a+1)*(cho n j*a^j)=cho n j*a^(j+1)+cho n j*a^j:=by
   rw[Nat.add_mul,Nat.one_mul,Nat.pow_succ,Nat.mul_left_comm,Nat.mul_comm a]
  rw[e4];omega
theorem binom(n a:Nat):bsum n a (n+1)=(a+1)^n:=by
 induction n with
 | zero=>simp[bsum,cho]
 | succ n ih =>
  have h:=bsum_next n a (n+1);rw[cho_above n (n+1) (by omega),ih]at h;simp only[Nat.zero_mul,Nat.add_zero]at h;rw[h,Nat.pow_succ,Nat.mul_comm]
theorem bsum_prime{p:Nat}(hp:Pr p)(a:Nat):∀ j,0<j->j<=p->bsum p a j%p=1%p:=by
 intro j
 induction j with
 | zero=>intro h;omega
 | succ j ih =>
  intro _ hj;by_cases h0:j=0
  ·subst h0;simp[bsum,cho_zero]
  ·have h:=ih (by omega) (by omega)
   obtain⟨q,hq⟩:=cho_prime hp (k:=j) (by omega) (by omega);show(bsum p a j+cho p j*a^j)%p=_;rw[hq,Nat.mul_assoc,Nat.add_mul_mod_self_left,h]
-- FERMAT
theorem fermat{p:Nat}(hp:Pr p)(a:Nat):a^p%p=a%p:=by
 induction a with
 | zero=>rw[Nat.zero_pow (by have:=hp.1;omega)]
 | succ a ih =>
  rw[<- binom];show(bsum p a p+cho p p*a^p)%p=_;rw[cho_self,Nat.one_mul,Nat.add_mod,bsum_prime hp a p (by have:=hp.1;omega) (Nat.le_refl _),ih,<- Nat.add_mod,Nat.add_comm]
theorem fermat1{p:Nat}(hp:Pr p)(a:Nat)(ha:¬p∣a):a^(p - 1)%p=1:=by
 have h:=fermat hp a;have h2:=hp.1;obtain⟨n,rfl⟩:∃ n,p=n+1:=⟨p - 1,by omega⟩
 have hge:1<=a^n:=Nat.pow_pos (Nat.pos_of_ne_zero (by rintro rfl;simp at ha));have hd:n+1∣a*(a^n - 1):=by
  have:=Nat.sub_mod_eq_zero_of_mod_eq h;rw[Nat.mul_sub,Nat.mul_one,<- Nat.pow_succ'];exact Nat.dvd_of_mod_eq_zero this
 have h3:=(hp.coprime ha).dvd_of_dvd_mul_left hd;obtain⟨q,hq⟩:=h3;show a^n%(n+1)=1;have:a^n=1+(n+1)*q:=by omega
 rw[this,Nat.add_mul_mod_self_left,Nat.mod_eq_of_lt (by omega)]
theorem one_gcd{p b:Nat}(hp:1<p)(m n:Nat):b^m%p=1->b^n%p=1->b^Nat.gcd m n%p=1:=by
 induction m,n using Nat.gcd.induction with
 | H0 n=>intro _ h;rw[Nat.gcd_zero_left];exact h
 | H1 m n hm ih =>
  intro h1 h2;rw[Nat.gcd_rec];refine ih ?_ h1;have e:b^n=(b^m)^(n / m)*b^(n%m):=by rw[<- Nat.pow_mul,<- Nat.pow_add,Nat.div_add_mod]
  rw[e,Nat.mul_mod,Nat.pow_mod,h1,Nat.one_pow,Nat.mod_eq_of_lt hp,Nat.one_mul,Nat.mod_mod]at h2;exact h2
-- POCKLINGTON
def pwrm(m:Nat):Nat->Nat->Nat->Nat->Nat
 | 0,_,_,r=>r
 | f+1,b,e,r=>if e=0 then r else pwrm m f (b*b%m) (e / 2) (if e%2=1 then r*b%m else r)
theorem pwrm_eq(m:Nat):∀ f b e r,e<2^f->r%m=r->pwrm m f b e r=r*b^e%m
 | 0,b,e,r,h,hr=>by
  obtain rfl:e=0:=by simpa using h
  simp[pwrm,hr]
 | f+1,b,e,r,h,hr=>by
  unfold pwrm;by_cases h0:e=0
  ·simp[h0,hr]
  ·rw[if_neg h0,pwrm_eq m f _ _ _ (by rw[Nat.pow_succ]at h;omega) (by split;exact Nat.mod_mod _ _;exact hr)]
   have e1:(b*b%m)^(e / 2)%m=b^(2*(e / 2))%m:=by rw[<- Nat.pow_mod,Nat.pow_mul,Nat.pow_two]
   rw[Nat.mul_mod,e1];by_cases h1:e%2=1
   ·rw[if_pos h1,Nat.mod_mod,<- Nat.mul_mod,Nat.mul_assoc,<- Nat.pow_succ',show(2*(e / 2)).succ=e by omega]
   ·rw[if_neg h1,<- Nat.mul_mod,show 2*(e / 2)=e by omega]
def pwr(m b e:Nat):Nat:=pwrm m 260 b e (1%m)
theorem pwr_eq(m b e:Nat)(h:e<2^260):pwr m b e=b^e%m:=by
 unfold pwr;rw[pwrm_eq m _ _ _ _ h (Nat.mod_mod _ _),Nat.mul_mod,Nat.mod_mod,<- Nat.mul_mod,Nat.one_mul]
def prodL:List Nat->Nat
 | []=>1
 | q::l=>q*prodL l
def pock(n a:Nat)(qs:List Nat):Bool:=(2<=n)&&(n<2^260)&&(pwr n a (n - 1) == 1)&&qs.all (fun q=>(n - 1)%q == 0&&Nat.gcd (pwr n a ((n - 1) / q)+(n - 1)) n == 1)&&(n<(prodL qs+1)*(prodL qs+1))&&decide qs.Nodup
theorem pock_step{n a q p:Nat}(h2:2<=n)(h3:n<2^260)(h1:pwr n a (n - 1)=1)(hq:Pr q)(hqd:(n - 1)%q=0)(hg:Nat.gcd (pwr n a ((n - 1) / q)+(n - 1)) n=1)(hp:Pr p)(hpn:p∣n):q∣p - 1:=by
 rw[pwr_eq _ _ _ (by omega)]at h1;have hle:(n - 1) / q<=n - 1:=Nat.div_le_self _ _;rw[pwr_eq _ _ _ (by omega)]at hg;obtain⟨b,hb⟩:∃ b,a^((n - 1) / q)=b:=⟨_,rfl⟩
 rw[hb]at hg;have hbq:b^q=a^(n - 1):=by rw[<- hb,<- Nat.pow_mul,Nat.div_mul_cancel (Nat.dvd_of_mod_eq_zero hqd)]
 have hp2:=hp.1;have hmm:∀ x,x%n%p=x%p:=fun x=>Nat.mod_mod_of_dvd x hpn;have hbq1:b^q%p=1:=by rw[hbq,<- hmm,h1,Nat.mod_eq_of_lt (by omega)]
 have hpb:¬p∣b:=fun h=>by
  have h4:p∣b^q:=Nat.dvd_trans h (by obtain⟨k,rfl⟩:∃ k,q=k+1:=⟨q - 1,by have:=hq.1;omega⟩;rw[Nat.pow_succ];exact Nat.dvd_mul_left _ _);have:=Nat.mod_eq_zero_of_dvd h4;omega
 have hbp:=fermat1 hp b hpb;by_cases hd:q∣p - 1
 ·exact hd
 ·exfalso
  have hc:=one_gcd (by omega) q (p - 1) hbq1 hbp;rw[show Nat.gcd q (p - 1)=1 from hq.coprime hd,Nat.pow_one]at hc;have h5:p∣b%n+(n - 1):=by
   apply Nat.dvd_of_mod_eq_zero;obtain⟨k,hk⟩:=hpn;rw[Nat.add_mod,hmm,hc];have e:n - 1=(p - 1)+p*(k - 1):=by
    have hk0:k≠0:=by rintro rfl;simp at hk;omega
    obtain⟨j,rfl⟩:∃ j,k=j+1:=⟨k - 1,by omega⟩
    rw[hk,Nat.mul_add,Nat.add_sub_cancel];omega
   rw[e,Nat.add_mul_mod_self_left,Nat.mod_eq_of_lt (show p - 1<p by omega),show 1+(p - 1)=p by omega,Nat.mod_self]
  have h6:=Nat.dvd_gcd h5 hpn;rw[hg]at h6;have:=Nat.le_of_dvd (by omega) h6;omega
theorem prodL_dvd{m:Nat}:∀ l:List Nat,l.Nodup->(∀ q∈l,Pr q)->(∀ q∈l,q∣m)->prodL l∣m/\∀ x,Pr x->x ∉ l->Nat.Coprime x (prodL l)
 | [],_,_,_=>⟨Nat.one_dvd _,fun x _ _=>Nat.coprime_one_right x⟩
 | q::l,hn,hp,hd=>by
  rw[List.nodup_cons]at hn;obtain⟨h1,h2⟩:=prodL_dvd l hn.2 (fun q h=>hp q (.tail _ h)) (fun q h=>hd q (.tail _ h));have hq:=hp q (.head _);refine⟨Nat.Coprime.mul_dvd_of_dvd_of_dvd (h2 q hq hn.1) (hd q (.head _)) h1,fun x hx hxl=>?_⟩;refine Nat.Coprime.mul_right (hx.coprime fun h=>?_) (h2 x hx fun h=>hxl (.tail _ h));rcases hq.2 x h with h3 | h3
  ·have:=hx.1;omega
  ·exact hxl (h3 ▸ .head _)
theorem pocklington(n a:Nat)(qs:List Nat)(h:pock n a qs=true)(hqs:∀ q∈qs,Pr q):Pr n:=by
 unfold pock at h;simp only[Bool.and_eq_true,decide_eq_true_eq,beq_iff_eq,List.all_eq_true]at h;obtain⟨⟨⟨⟨⟨h2,h3⟩,h1⟩,hq⟩,hs⟩,hn⟩:=h;refine small_prime h2 fun p hp hpn=>?_;have hd:=(prodL_dvd (m:=p - 1) qs hn hqs (fun q hm=>pock_step h2 h3 h1 (hqs q hm) (hq q hm).1 (hq q hm).2 hp hpn)).1;have hp2:=hp.1;have hle:=Nat.le_of_dvd (by omega) hd;have:=Nat.mul_le_mul (show prodL qs+1<=p by omega) (show prodL qs+1<=p by omega);omega
def trial(n:Nat):Nat->Bool
 | 0=>true
 | k+1=>(k<2||n%k != 0)&&trial n k
theorem trial_at(n:Nat):∀ k,trial n k=true->∀ d,2<=d->d<k->n%d≠0
 | 0,_,d,_,h=>by omega
 | k+1,h,d,h2,hd=>by
  unfold trial at h;simp only[Bool.and_eq_true,Bool.or_eq_true,decide_eq_true_eq,bne_iff_ne]at h;by_cases e:d=k
  ·subst e
   rcases h.1 with h1 | h1
   ·omega
   ·exact h1
  ·exact trial_at n k h.2 d h2 (by omega)
theorem tried(n k:Nat)(h2:2<=n)(hk:n<k*k)(h:trial n k=true):Pr n:=by
 refine small_prime h2 fun p hp hpn=>?_;have hp2:=hp.1;by_cases e:p<k
 ·exact absurd (Nat.mod_eq_zero_of_dvd hpn) (trial_at n k h p hp2 e)
 ·have:=Nat.mul_le_mul (show k<=p by omega) (show k<=p by omega)
  omega
theorem prm_127:Pr 127:=tried 127 12 (by decide) (by decide) (by decide +kernel)
theorem prm_3557:Pr 3557:=pocklington 3557 2 [127] (by decide +kernel) (by intro q hq;simp only[List.mem_cons,List.not_mem_nil,or_false]at hq;rcases hq with rfl <;> first | exact prm_127)
theorem prm_911:Pr 911:=tried 911 31 (by decide) (by decide) (by decide +kernel)
theorem prm_1263766531:Pr 1263766531:=pocklington 1263766531 2 [3557,911] (by decide +kernel) (by intro q hq;simp only[List.mem_cons,List.not_mem_nil,or_false]at hq;rcases hq with rfl | rfl <;> first | exact prm_3557 | exact prm_911)
theorem prm_35385462869:Pr 35385462869:=pocklington 35385462869 2 [1263766531] (by decide +kernel) (by intro q hq;simp only[List.mem_cons,List.not_mem_nil,or_false]at hq;rcases hq with rfl <;> first | exact prm_1263766531)
theorem prm_2480874801745591:Pr 2480874801745591:=pocklington 2480874801745591 2 [35385462869] (by decide +kernel) (by intro q hq;simp only[List.mem_cons,List.not_mem_nil,or_false]at hq;rcases hq with rfl <;> first | exact prm_35385462869)
theorem prm_37:Pr 37:=tried 37 7 (by decide) (by decide) (by decide +kernel)
theorem prm_5:Pr 5:=tried 5 3 (by decide) (by decide) (by decide +kernel)
theorem prm_2221:Pr 2221:=pocklington 2221 2 [37,5] (by decide +kernel) (by intro q hq;simp only[List.mem_cons,List.not_mem_nil,or_false]at hq;rcases hq with rfl | rfl <;> first | exact prm_37 | exact prm_5)
theorem prm_13327:Pr 13327:=pocklington 13327 2 [2221] (by decide +kernel) (by intro q hq;simp only[List.mem_cons,List.not_mem_nil,or_false]at hq;rcases hq with rfl <;> first | exact prm_2221)
theorem prm_173171039:Pr 173171039:=pocklington 173171039 2 [13327] (by decide +kernel) (by intro q hq;simp only[List.mem_cons,List.not_mem_nil,or_false]at hq;rcases hq with rfl <;> first | exact prm_13327)
theorem prm_13427688667394608761327070753331941386769:Pr 13427688667394608761327070753331941386769:=pocklington 13427688667394608761327070753331941386769 2 [2480874801745591,173171039] (by decide +kernel) (by intro q hq;simp only[List.mem_cons,List.not_mem_nil,or_false]at hq;rcases hq with rfl | rfl <;> first | exact prm_2480874801745591 | exact prm_173171039)
theorem prm_21888242871839275222246405745257275088696311157297823662689037894645226208583:Pr 21888242871839275222246405745257275088696311157297823662689037894645226208583:=pocklington 21888242871839275222246405745257275088696311157297823662689037894645226208583 2 [13427688667394608761327070753331941386769] (by decide +kernel) (by intro q hq;simp only[List.mem_cons,List.not_mem_nil,or_false]at hq;rcases hq with rfl <;> first | exact prm_13427688667394608761327070753331941386769)
def invN(p n:Nat):Nat:=n^(p - 2)%p
theorem invN_lt{p:Nat}(hp:Pr p)(n:Nat):invN p n<p:=Nat.mod_lt _ (by have:=hp.1;omega)
theorem invN_ok{p n:Nat}(hp:Pr p)(h:¬p∣n):n*invN p n%p=1:=by
 unfold invN;have h2:=hp.1;rw[Nat.mul_mod,Nat.mod_mod,<- Nat.mul_mod,<- Nat.pow_succ',show(p - 2).succ=p - 1 by omega];exact fermat1 hp n h
theorem invN_not{p n:Nat}(hp:Pr p)(h:p∣n):n*invN p n%p≠1:=by
 have h2:=hp.1;rw[Nat.mul_mod,Nat.mod_eq_zero_of_dvd h,Nat.zero_mul,Nat.zero_mod];omega
theorem invN_iff{p n:Nat}(hp:Pr p):n*invN p n%p=1↔¬p∣n:=⟨fun h hd=>invN_not hp hd h,invN_ok hp⟩
abbrev Zp(p:Nat):={ a:Nat // a<p }
theorem zp_ext{p:Nat}{a b:Zp p}(h:a.1=b.1):a=b:=Subtype.ext h
section
variable {p:Nat} (hp:Pr p)
theorem Pr.pos{p:Nat}(hp:Pr p):0<p:=by have:=hp.1;omega
def zpField:CField (Zp p) where
 add a b:=⟨(a.1+b.1)%p,Nat.mod_lt _ hp.pos⟩
 mul a b:=⟨a.1*b.1%p,Nat.mod_lt _ hp.pos⟩
 neg a:=⟨(p - a.1)%p,Nat.mod_lt _ hp.pos⟩
 zero:=⟨0,hp.pos⟩
 one:=⟨1,hp.1⟩
 inv a:=⟨invN p a.1,invN_lt hp a.1⟩
 add_assoc a b c:=zp_ext (by show((a.1+b.1)%p+c.1)%p=(a.1+(b.1+c.1)%p)%p;rw[Nat.mod_add_mod,Nat.add_mod_mod,Nat.add_assoc])
 add_comm a b:=zp_ext (by show(a.1+b.1)%p=(b.1+a.1)%p;rw[Nat.add_comm])
 add_zero a:=zp_ext (by show(a.1+0)%p=a.1;rw[Nat.add_zero,Nat.mod_eq_of_lt a.2])
 add_neg a:=zp_ext (by show(a.1+(p - a.1)%p)%p=0;have:=a.2;rw[Nat.add_mod_mod,show a.1+(p - a.1)=p by omega,Nat.mod_self])
 mul_assoc a b c:=zp_ext (by show(a.1*b.1%p)*c.1%p=a.1*(b.1*c.1%p)%p;rw[Nat.mod_mul_mod,Nat.mul_mod_mod,Nat.mul_assoc])
 mul_comm a b:=zp_ext (by show a.1*b.1%p=b.1*a.1%p;rw[Nat.mul_comm])
 mul_one a:=zp_ext (by show a.1*1%p=a.1;rw[Nat.mul_one,Nat.mod_eq_of_lt a.2])
 mul_add a b c:=zp_ext (by show a.1*((b.1+c.1)%p)%p=(a.1*b.1%p+a.1*c.1%p)%p;rw[Nat.mul_mod_mod,Nat.mul_add,Nat.mod_add_mod,Nat.add_mod_mod])
 mul_inv a ha:=zp_ext (by
  show a.1*invN p a.1%p=1;refine invN_ok hp fun hd=>ha (zp_ext ?_);show a.1=0;exact Nat.eq_zero_of_dvd_of_lt hd a.2)
 one_ne h:=by
  have:=congrArg Subtype.val h;exact absurd this (by show ¬(1=0);omega)
theorem zp_two(h2:p%2=1)(a:Zp p)(ha:a≠(zpField hp).zero):(zpField hp).add a a≠(zpField hp).zero:=fun h=>by
 have h1:(a.1+a.1)%p=0:=congrArg Subtype.val h;have hd:p∣2*a.1:=by rw[show 2*a.1=a.1+a.1 by omega];exact Nat.dvd_of_mod_eq_zero h1
 rcases hp.dvd_mul hd with h3 | h3
 ·have:=Nat.le_of_dvd (by decide) h3
  have:=hp.1;omega
 ·exact ha (zp_ext (Nat.eq_zero_of_dvd_of_lt h3 a.2))
theorem on_zp(b x y:Zp p)(h:y.1*y.1%p=(x.1*x.1%p*x.1%p+b.1)%p):OnC (zpField hp).toCRing b x y:=zp_ext h
theorem no_root{b:Zp p}(h3:(p - 1)%3=0)(hb:b.1≠0)(he:(p - 1) / 3<2^260)(hn:pwr p (p - b.1) ((p - 1) / 3)≠1)(x:Zp p):cub (zpField hp).ops x b≠(zpField hp).zero:=fun h=>by
 have h1:(x.1*x.1%p*x.1%p+b.1)%p=0:=congrArg Subtype.val h;rw[Nat.mod_mul_mod,Nat.mod_add_mod]at h1;have hbl:=b.2;have hx:¬p∣x.1:=fun hd=>by
  rw[Nat.eq_zero_of_dvd_of_lt hd x.2,Nat.mul_zero,Nat.zero_add,Nat.mod_eq_of_lt hbl]at h1;exact hb h1
 have h2:(x.1*x.1*x.1)%p=(p - b.1)%p:=by
  have e:(x.1*x.1*x.1+b.1+(p - b.1))%p=(0+(p - b.1))%p:=by rw[Nat.add_mod,h1,Nat.zero_add,Nat.zero_add,Nat.mod_mod]
  rw[show x.1*x.1*x.1+b.1+(p - b.1)=x.1*x.1*x.1+p by omega,Nat.add_mod_right,Nat.zero_add]at e;exact e
 apply hn;rw[pwr_eq p _ _ he,Nat.pow_mod,<- h2,<- Nat.pow_mod,show x.1*x.1*x.1=x.1^3 by rw[Nat.pow_succ,Nat.pow_two],<- Nat.pow_mul,Nat.mul_div_cancel' (Nat.dvd_of_mod_eq_zero h3)];exact fermat1 hp x.1 hx
end
abbrev N2:=Nat × Nat
namespace CRing
variable {K:Type} (C:CRing K)
theorem mul_m1(a:K):C.mul (C.neg C.one) a=C.neg a:=by rw[C.neg_mul,C.one_mul]
end CRing
section
variable {m:Nat} (hp:Pr m)
def ph(n:Nat):Zp m:=⟨n%m,Nat.mod_lt _ hp.pos⟩
theorem ph_v(z:Zp m):ph hp z.1=z:=zp_ext (Nat.mod_eq_of_lt z.2)
def K1:CRing (Zp m):=(zpField hp).toCRing
def K2:CRing (Zp m × Zp m):=(K1 hp).ext2 ((K1 hp).neg (K1 hp).one)
theorem ph_add(a b:Nat):(a+b)%m=((K1 hp).add (ph hp a) (ph hp b)).1:=Nat.add_mod a b m
theorem ph_mul(a b:Nat):a*b%m=((K1 hp).mul (ph hp a) (ph hp b)).1:=Nat.mul_mod a b m
theorem ph_sub(a b:Nat):(a%m+(m - b%m))%m=((K1 hp).sub (ph hp a) (ph hp b)).1:=by
 show _=(a%m+(m - b%m)%m)%m;rw[Nat.add_mod_mod]
theorem ph_neg(a:Nat):(0%m+(m - a%m))%m=((K1 hp).neg (ph hp a)).1:=by
 show _=(m - a%m)%m;rw[Nat.zero_mod,Nat.zero_add]
def ph2(a:N2):Zp m × Zp m:=(ph hp a.1,ph hp a.2)
end
def v2{m:Nat}(z:Zp m × Zp m):N2:=(z.1.1,z.2.1)
section
variable {m:Nat} (hp:Pr m)
theorem ph2_v(z:Zp m × Zp m):ph2 hp (v2 z)=z:=Prod.ext (ph_v hp _) (ph_v hp _)
/-! Two numbers. -/
def a2(a b:N2):N2:=v2 ((K2 hp).add (ph2 hp a) (ph2 hp b))
def s2(a b:N2):N2:=v2 ((K2 hp).sub (ph2 hp a) (ph2 hp b))
def m2(a b:N2):N2:=v2 ((K2 hp).mul (ph2 hp a) (ph2 hp b))
theorem a2_eq(a b:N2):((a.1+b.1)%m,(a.2+b.2)%m)=a2 hp a b:=Prod.ext (ph_add hp _ _) (ph_add hp _ _)
theorem s2_eq(a b:N2):((a.1%m+(m - b.1%m))%m,(a.2%m+(m - b.2%m))%m)=s2 hp a b:=Prod.ext (ph_sub hp _ _) (ph_sub hp _ _)
theorem m2_eq(a b:N2):((a.1*b.1%m%m+(m - a.2*b.2%m%m))%m,(a.1*b.2%m+a.2*b.1%m)%m)=m2 hp a b:=by
 refine Prod.ext ?_ ?_
 ·show(a.1*b.1%m%m+(m - a.2*b.2%m%m))%m=((K1 hp).add ((K1 hp).mul (ph hp a.1) (ph hp b.1)) ((K1 hp).mul ((K1 hp).neg (K1 hp).one) ((K1 hp).mul (ph hp a.2) (ph hp b.2)))).1
  rw[ph_sub hp,ph_mul hp,ph_mul hp,ph_v,ph_v,CRing.mul_m1];rfl
 ·show(a.1*b.2%m+a.2*b.1%m)%m=((K1 hp).add ((K1 hp).mul (ph hp a.1) (ph hp b.2)) ((K1 hp).mul (ph hp a.2) (ph hp b.1))).1
  rw[ph_add hp,ph_mul hp,ph_mul hp,ph_v,ph_v]
/-! Six,by letters of two. -/
/-! Twelve,by letters of six. -/
end
end Go.Proofs.YtadfjjfklihaaaaGreat
namespace Go.Proofs.YtadfjjfklihaaaaGreat.Sy
open Go.RowKit
def sFld(m:Nat):SV:=.ap (.i .u64 (frw m 0:Nat)) (.ap (.i .u64 (frw m 1:Nat)) (.ap (.i .u64 (frw m 2:Nat)) (.ap (.i .u64 (frw m 3:Nat)) (.ap (.i .u64 (frw m 4:Nat)) (.ap (.i .u64 (frw m 5:Nat)) (.ap (.i .u64 (frw m 6:Nat)) (.ap (.i .u64 (frw m 7:Nat)) (.ap (.i .u64 (frw m 8:Nat)) .e))))))))
def isF(ext:Bool)(m:Nat)(M:Rows):SV->Option (List Ob)
 | .p g o _ z=>if o=0/\z=0 then (if ext=true/\g=0 then some []else match rowIn g M with
  | some (c,T)=>if T=145 then some [.eq c (sFld m)]else none
  | none=>none)else none
 | _=>none
structure FOk (ext:Bool) (m:Nat) (γ0:Pl) (w0:World):Prop where
 odd:m%2=1
 big:1<m
 lt:m<2^256
 at_:ext=true->FldAt w0 (γ0 0) m
theorem isF_at{ext:Bool}{m n:Nat}{M:Rows}{x:SV}{p:List Ob}{γ0 γ:Pl}{w0 wx:World}(h:isF ext m M x=some p)(hp:All p)(hf:FOk ext m γ0 w0)(hγ:∀ k,k<1->γ k=γ0 k)(hw:Below w0.heap.size w0 wx)(hL:Lies γ n M wx):∃ F,x.val γ=.pointer (some ⟨F,0,none⟩)/\FldAt wx F m:=by
 cases x <;> first | (cases h;done) | skip
 rename_i g o j z;dsimp only[isF]at h
 split at h
 ·rename_i hz
  obtain⟨rfl,rfl⟩:=hz;refine⟨γ g,by simp[SV.val,SV.sc],?_⟩
  split at h
  ·rename_i he
   rw[he.2,hγ 0 (by decide)];exact(hf.at_ he.1).below hw
  ·split at h
   ·rename_i c T hr
    split at h
    ·rename_i hT
     cases h;have hc:c=sFld m:=hp _ (.head _);have:=(hL _ (rowIn_ok hr)).1;rw[hc,hT]at this;exact⟨this,hf.odd,hf.big,hf.lt⟩
    ·cases h
   ·cases h
 ·cases h
theorem FOk.of{F m:Nat}{w0:World}(h0:FldAt w0 F m):FOk true m (fun _=>F) w0:=⟨h0.odd,h0.big,h0.lt,fun _=>h0⟩
theorem FOk.mod{ext:Bool}{m:Nat}{γ0:Pl}{w0:World}(hf:FOk ext m γ0 w0)(a:Nat):a%m<2^256:=Nat.lt_trans (Nat.mod_lt _ (by have:=hf.big;omega)) hf.lt
def fld2(ext:Bool)(m:Nat)(f:FuncId)(op:Nat->Nat->Nat):Con:=⟨f,fun _ M l=>match l with
 | [x,.w a,.w b]=>(isF ext m M x).map fun p=>(.w (op a b),p,[])
 | _=>none⟩
def fld1(ext:Bool)(m:Nat)(f:FuncId)(op:Nat->SV):Con:=⟨f,fun _ M l=>match l with
 | [x,.w a]=>(isF ext m M x).map fun p=>(op a,p,[])
 | _=>none⟩
theorem val0{γ:Pl}{x:SV}(h:x.lt 0=true):x.val γ=x.val fun _=>0:=(SV.lt_same (γ:=γ) (δ:=fun _=>0) (n:=0) (fun _ hk=>absurd hk (Nat.not_lt_zero _)) h).2.2
theorem fld2_ok{P:Program}{ext:Bool}{m:Nat}{γ0:Pl}{w0:World}{f:FuncId}{op:Nat->Nat->Nat}(hf:FOk ext m γ0 w0)(hc:∀ as_ wx,(callFunc f as_).run P wx=.ok (.enter f as_) wx)(hlt:∀ a b,op a b<2^256)
  (h:∀ F a b,a<2^256->b<2^256->∀ w,FldAt w F m->Calls P f #[.pointer (some ⟨F,0,none⟩),.agg (pw a),.agg (pw b)] w fun e w'=>e=.returned (.agg (pw (op a b)))/\Below w.heap.size w w'):ConOk P 1 γ0 w0 (fld2 ext m f op) :=
 .of hc fun n M l r p R hr hp hok=>by
  unfold fld2 at hr;dsimp only at hr
  split at hr
  ·rename_i x a b
   obtain⟨q,hx,e⟩:=Option.map_eq_some_iff.1 hr;cases e;refine⟨rfl,hlt a b,rfl,fun γ hγ wx hw hL=>?_⟩;obtain⟨F,h1,h2⟩:=isF_at hx hp hf hγ hw hL;show Calls P f #[x.val γ,_,_] wx _;rw[h1];exact h F a b (hok (.w a) (by simp)) (hok (.w b) (by simp)) wx h2
  ·cases hr
theorem fld1_ok{P:Program}{ext:Bool}{m:Nat}{γ0:Pl}{w0:World}{f:FuncId}{op:Nat->SV}(hf:FOk ext m γ0 w0)(hc:∀ as_ wx,(callFunc f as_).run P wx=.ok (.enter f as_) wx)(hlt:∀ a,(op a).ok/\(op a).lt 0=true)
  (h:∀ F a,a<2^256->∀ w,FldAt w F m->Calls P f #[.pointer (some ⟨F,0,none⟩),.agg (pw a)] w fun e w'=>e=.returned ((op a).val fun _=>0)/\Below w.heap.size w w'):ConOk P 1 γ0 w0 (fld1 ext m f op) :=
 .of hc fun n M l r p R hr hp hok=>by
  unfold fld1 at hr;dsimp only at hr
  split at hr
  ·rename_i x a
   obtain⟨q,hx,e⟩:=Option.map_eq_some_iff.1 hr;cases e;refine⟨rfl,(hlt a).1,(hlt a).2,fun γ hγ wx hw hL=>?_⟩;obtain⟨F,h1,h2⟩:=isF_at hx hp hf hγ hw hL;show Calls P f #[x.val γ,_] wx _;rw[h1,val0 (hlt a).2];exact h F a (hok (.w a) (by simp)) wx h2
  ·cases hr
def cMulF(ext:Bool)(m:Nat):Con:=fld2 ext m 67 fun a b=>a*b%m
def cAddF(ext:Bool)(m:Nat):Con:=fld2 ext m 65 fun a b=>(a+b)%m
def cSubF(ext:Bool)(m:Nat):Con:=fld2 ext m 66 fun a b=>(a%m+(m - b%m))%m
def iv(m Z:Nat):Nat:=Z^(m - 2)%m
def cNegF(ext:Bool)(m:Nat):Con:=fld1 ext m 138 fun a=>.w ((0%m+(m - a%m))%m)
def cInvF(ext:Bool)(m:Nat):Con:=fld1 ext m 68 fun a=>.tu (.w (if a*iv m a%m=1 then iv m a else 0)) (.b (eqN (a*iv m a%m) 1))
def cOfF(ext:Bool)(m:Nat):Con:=fld1 ext m 103 fun a=>.w (a%m)
def flds(ext:Bool)(m:Nat):List Con:=[cMulF ext m,cAddF ext m,cSubF ext m,cNegF ext m,cInvF ext m,cOfF ext m]
theorem flds_ok{ext:Bool}{m:Nat}{γ0:Pl}{w0:World}(hf:FOk ext m γ0 w0):conAll Tryz.prog 1 γ0 w0 (flds ext m) :=
 ⟨fld2_ok hf (fun _ _=>by kernel_rfl) (fun _ _=>hf.mod _) fun F a b ha hb w hF=>fmul_any F m a b ha hb w hF,fld2_ok hf (fun _ _=>by kernel_rfl) (fun _ _=>hf.mod _) fun F a b ha hb w hF=>fadd_any F m a b ha hb w hF,fld2_ok hf (fun _ _=>by kernel_rfl) (fun _ _=>hf.mod _) fun F a b ha hb w hF=>fsub_any F m a b ha hb w hF,
  fld1_ok hf (fun _ _=>by kernel_rfl) (fun a=>⟨hf.mod _,rfl⟩) fun F a ha w hF=>fneg_any F m a ha w hF,
  fld1_ok hf (fun _ _=>by kernel_rfl) (fun a=>⟨⟨by
   show(if a*iv m a%m=1 then iv m a else 0)<2^256
   split
   ·exact hf.mod _
   ·decide,trivial⟩,rfl⟩) fun F a ha w hF=>finv_any F m a ha w hF,
  fld1_ok hf (fun _ _=>by kernel_rfl) (fun a=>⟨hf.mod _,rfl⟩) fun F a ha w hF=>fof_any F m a ha w hF,trivial⟩
/-! Two numbers,three of these,six. -/
def F2s(a:N2):SV:=.ap (.w a.1) (.ap (.w a.2) .e)
def z2:N2:=(0,0)
/-! Types. -/
theorem w0_ok:(0:Nat)<2^256:=by decide
theorem F2z_ok:(F2s z2).ok:=⟨w0_ok,w0_ok,trivial⟩
def tyW:Ty:=⟨24,true,4,.w 0,[]⟩
def ty2:Ty:=⟨38,true,8,F2s z2,[]⟩
def tyT:Ty:=⟨148,true,1,.ap (.v (.pointer none)) .e,[(0,1)]⟩
def tyB:Ty:=⟨4,false,1,.v (.bool false),[]⟩
def tyF:Ty:=⟨111,false,1,.v (.pointer none),[]⟩
def tyE:Ty:=⟨32,false,1,.v (.int .i64 0),[]⟩
def tyI:Ty:=⟨3,false,1,.v (.int .i64 0),[]⟩
def tys0:List Ty:=[tyW,ty2,tyT,tyB,tyF,tyE,tyI]
def tyAll(P:Program):List Ty->Prop
 | []=>True
 | y::l=>y.Good P/\tyAll P l
theorem tyAll_mem{P:Program}:∀ {l:List Ty},tyAll P l->∀ y∈l,y.Good P
 | [],_,c,h=>by cases h
 | y::l,ha,c,h=>by
  rcases List.mem_cons.1 h with rfl | h
  ·exact ha.1
  ·exact tyAll_mem ha.2 c h
theorem tys0_ok:tyAll Tryz.prog tys0 :=
 ⟨⟨by kernel_rfl,by kernel_rfl,by kernel_rfl,rfl,w0_ok,fun h=>absurd rfl h⟩,⟨by kernel_rfl,by kernel_rfl,by kernel_rfl,rfl,F2z_ok,fun h=>absurd rfl h⟩,⟨by kernel_rfl,by kernel_rfl,by kernel_rfl,rfl,⟨trivial,trivial⟩,fun _=>by kernel_rfl⟩,⟨by kernel_rfl,by kernel_rfl,by kernel_rfl,rfl,trivial,fun h=>absurd rfl h⟩,⟨by kernel_rfl,by kernel_rfl,by kernel_rfl,rfl,trivial,fun h=>absurd rfl h⟩,⟨by kernel_rfl,by kernel_rfl,by kernel_rfl,rfl,trivial,fun h=>absurd rfl h⟩,⟨by kernel_rfl,by kernel_rfl,by kernel_rfl,rfl,trivial,fun h=>absurd rfl h⟩,trivial⟩
theorem tyAll_app{P:Program}:∀ {l r:List Ty},tyAll P l->tyAll P r->tyAll P (l++r)
 | [],_,_,h=>h
 | _::_,_,h,h'=>⟨h.1,tyAll_app h.2 h'⟩
/-! The pairing's types: a group's functions,places,points,dots. -/
def nf:SV:=.v .nilFunc
def pW0:SV:=.ap (.w 0) (.ap (.w 0) (.ap (.v (.bool false)) .e))
def p20:SV:=.ap (F2s z2) (.ap (F2s z2) (.ap (.v (.bool false)) .e))
def jW0:SV:=.ap (.w 0) (.ap (.w 0) (.ap (.w 0) .e))
def j20:SV:=.ap (F2s z2) (.ap (F2s z2) (.ap (F2s z2) .e))
def cW0:SV:=.ap nf (.ap nf (.ap nf (.ap nf (.ap (.w 0) (.ap (.w 0) (.ap (.v (.bool false)) .e))))))
def c20:SV:=.ap nf (.ap nf (.ap nf (.ap nf (.ap (F2s z2) (.ap (F2s z2) (.ap (.v (.bool false)) .e))))))
theorem pW0_ok:pW0.ok:=⟨w0_ok,w0_ok,trivial,trivial⟩
theorem p20_ok:p20.ok:=⟨F2z_ok,F2z_ok,trivial,trivial⟩
theorem jW0_ok:jW0.ok:=⟨w0_ok,w0_ok,w0_ok,trivial⟩
theorem j20_ok:j20.ok:=⟨F2z_ok,F2z_ok,F2z_ok,trivial⟩
theorem cW0_ok:cW0.ok:=⟨trivial,trivial,trivial,trivial,w0_ok,w0_ok,trivial,trivial⟩
theorem c20_ok:c20.ok:=⟨trivial,trivial,trivial,trivial,F2z_ok,F2z_ok,trivial,trivial⟩
def tyR:Ty:=⟨29,true,1,.ap (.v (.pointer none)) .e,[(0,1)]⟩
def tyRF:Ty:=⟨27,false,1,.v (.pointer none),[]⟩
def tyP:Ty:=⟨26,true,9,pW0,[(0,4),(4,4),(8,1)]⟩
def tyTw:Ty:=⟨47,true,17,p20,[(0,8),(8,8),(16,1)]⟩
def tyD:Ty:=⟨40,true,17,p20,[(0,8),(8,8),(16,1)]⟩
def tyJ:Ty:=⟨81,true,24,j20,[(0,8),(8,8),(16,8)]⟩
def tyPW:Ty:=⟨67,true,9,pW0,[(0,4),(4,4),(8,1)]⟩
def tyP2:Ty:=⟨95,true,17,p20,[(0,8),(8,8),(16,1)]⟩
def tyJW:Ty:=⟨115,true,12,jW0,[(0,4),(4,4),(8,4)]⟩
def tyJ2:Ty:=⟨131,true,24,j20,[(0,8),(8,8),(16,8)]⟩
def tyCW:Ty:=⟨72,true,13,cW0,[(0,1),(1,1),(2,1),(3,1),(4,4),(8,4),(12,1)]⟩
def tyC2:Ty:=⟨92,true,21,c20,[(0,1),(1,1),(2,1),(3,1),(4,8),(12,8),(20,1)]⟩
def tyNW:Ty:=⟨69,false,1,nf,[]⟩
def tyIW:Ty:=⟨70,false,1,nf,[]⟩
def tyN2:Ty:=⟨79,false,1,nf,[]⟩
def tyI2:Ty:=⟨86,false,1,nf,[]⟩
def tyU6:Ty:=⟨22,false,1,.v (.int .u64 0),[]⟩
def tysM:List Ty:=[tyR,tyRF,tyP,tyTw,tyD,tyJ,tyPW,tyP2,tyJW,tyJ2,tyCW,tyC2,tyNW,tyIW,tyN2,tyI2,tyU6]
theorem tysM_ok:tyAll Tryz.prog tysM:=⟨⟨by kernel_rfl,by kernel_rfl,by kernel_rfl,rfl,⟨trivial,trivial⟩,fun _=>by kernel_rfl⟩,⟨by kernel_rfl,by kernel_rfl,by kernel_rfl,rfl,trivial,fun h=>absurd rfl h⟩,⟨by kernel_rfl,by kernel_rfl,by kernel_rfl,rfl,pW0_ok,fun _=>by kernel_rfl⟩,⟨by kernel_rfl,by kernel_rfl,by kernel_rfl,rfl,p20_ok,fun _=>by kernel_rfl⟩,⟨by kernel_rfl,by kernel_rfl,by kernel_rfl,rfl,p20_ok,fun _=>by kernel_rfl⟩,⟨by kernel_rfl,by kernel_rfl,by kernel_rfl,rfl,j20_ok,fun _=>by kernel_rfl⟩,⟨by kernel_rfl,by kernel_rfl,by kernel_rfl,rfl,pW0_ok,fun _=>by kernel_rfl⟩,⟨by kernel_rfl,by kernel_rfl,by kernel_rfl,rfl,p20_ok,fun _=>by kernel_rfl⟩,⟨by kernel_rfl,by kernel_rfl,by kernel_rfl,rfl,jW0_ok,fun _=>by kernel_rfl⟩,⟨by kernel_rfl,by kernel_rfl,by kernel_rfl,rfl,j20_ok,fun _=>by kernel_rfl⟩,⟨by kernel_rfl,by kernel_rfl,by kernel_rfl,rfl,cW0_ok,fun _=>by kernel_rfl⟩,⟨by kernel_rfl,by kernel_rfl,by kernel_rfl,rfl,c20_ok,fun _=>by kernel_rfl⟩,⟨by kernel_rfl,by kernel_rfl,by kernel_rfl,rfl,trivial,fun h=>absurd rfl h⟩,⟨by kernel_rfl,by kernel_rfl,by kernel_rfl,rfl,trivial,fun h=>absurd rfl h⟩,⟨by kernel_rfl,by kernel_rfl,by kernel_rfl,rfl,trivial,fun h=>absurd rfl h⟩,⟨by kernel_rfl,by kernel_rfl,by kernel_rfl,rfl,trivial,fun h=>absurd rfl h⟩,⟨by kernel_rfl,by kernel_rfl,by kernel_rfl,rfl,trivial,fun h=>absurd rfl h⟩,trivial⟩
def arsM:List Ar:=[]
theorem arsM_ok:∀ q∈arsM,q.Good Tryz.prog:=fun q hq=>by cases hq
def tysT:List Ty:=tys0++tysM
theorem tysT_ok:tyAll Tryz.prog tysT:=tyAll_app tys0_ok tysM_ok
def ars0:List Ar:=[⟨38,2,24,4,true,F2s z2⟩]
theorem ars0_ok:∀ q∈ars0,q.Good Tryz.prog:=fun q hq=>by
 simp only[ars0,List.mem_cons,List.not_mem_nil,or_false]at hq;subst hq;exact⟨by kernel_rfl,by kernel_rfl,by kernel_rfl,by kernel_rfl,rfl,F2z_ok⟩
def arsT:List Ar:=ars0++arsM
theorem arsT_ok:∀ q∈arsT,q.Good Tryz.prog:=fun q hq=>(List.mem_append.1 hq).elim (ars0_ok q) (arsM_ok q)
/-! Words made of their parts. -/
def limbS:SV->Option Nat
 | .v (.int .u64 (.ofNat a))=>if a<18446744073709551616 then some a else none
 | _=>none
def bldG(T:TypeId)(l:List (Nat × SV)):Option SV:=if T=24 then match l with
 | []=>some (.w 0)
 | [(0,a)]=>(limbS a).map .w
 | [(0,a),(1,b),(2,c),(3,d)]=>match limbS a,limbS b,limbS c,limbS d with
  | some a,some b,some c,some d=>some (.w (n4 a b c d))
  | _,_,_,_=>none
 | _=>none
 else none
theorem limbS_ok{γ:Pl}{x:SV}{a:Nat}(h:limbS x=some a):x.val γ=.int .u64 (a:Nat)/\a<18446744073709551616:=by
 unfold limbS at h
 split at h
 ·split at h
  ·rename_i hk;cases h;exact⟨rfl,hk⟩
  ·cases h
 ·cases h
theorem bldG_ok{T:TypeId}{l:List (Nat × SV)}{r:SV}(h:bldG T l=some r):r.ok/\r.lt 0=true/\r.many=true/\∀ γ,Tryz.prog.built T (l.map fun x=>(x.1,x.2.val γ))=some (r.cells γ).toArray:=by
 unfold bldG at h
 split at h
 ·rename_i e
  subst e
  split at h
  ·cases h
   exact⟨w0_ok,rfl,rfl,fun γ=>by kernel_rfl⟩
  ·obtain⟨k,hk,e⟩:=Option.map_eq_some_iff.1 h
   subst e;have hlt:=(limbS_ok (γ:=fun _=>0) hk).2;refine⟨Nat.lt_trans hlt (by decide),rfl,rfl,fun γ=>?_⟩;rw[show([(0,_)]:List (Nat × SV)).map (fun x=>(x.1,x.2.val γ))=[(0,.int .u64 (k:Nat))] from congrArg (fun v=>[(0,v)]) (limbS_ok hk).1];show Tryz.prog.built 24 [(0,.int .u64 (k:Nat))]=some (pw k).toList.toArray;rw[show pw k=#[.int .u64 (k:Nat),.int .u64 0,.int .u64 0,.int .u64 0] by
    unfold pw;rw[Nat.mod_eq_of_lt hlt,Nat.div_eq_of_lt hlt,Nat.div_eq_of_lt (show k<340282366920938463463374607431768211456 by omega),Nat.div_eq_of_lt (show k<6277101735386680763835789423207666416102355444464034512896 by omega)];rfl]
   kernel_rfl
  ·split at h
   ·rename_i a b c d ka kb kc kd
    cases h;have la:=limbS_ok (γ:=fun _=>0) ka;have lb:=limbS_ok (γ:=fun _=>0) kb;have lc:=limbS_ok (γ:=fun _=>0) kc;have ld:=limbS_ok (γ:=fun _=>0) kd;refine⟨?_,rfl,rfl,fun γ=>?_⟩
    ·show n4 a b c d<2^256
     have e256:(2:Nat)^256=115792089237316195423570985008687907853269984665640564039457584007913129639936:=by decide
     rw[e256];unfold n4;omega
    ·show Tryz.prog.built 24 [(0,_),(1,_),(2,_),(3,_)]=some (pw (n4 a b c d)).toList.toArray
     rw[(limbS_ok ka).1,(limbS_ok kb).1,(limbS_ok kc).1,(limbS_ok kd).1];rw[show pw (n4 a b c d)=#[.int .u64 (a:Nat),.int .u64 (b:Nat),.int .u64 (c:Nat),.int .u64 (d:Nat)] by
      unfold pw n4;rw[show(a+18446744073709551616*b+340282366920938463463374607431768211456*c+6277101735386680763835789423207666416102355444464034512896*d)%18446744073709551616=a by omega];rw[show(a+18446744073709551616*b+340282366920938463463374607431768211456*c+6277101735386680763835789423207666416102355444464034512896*d) / 18446744073709551616%18446744073709551616=b by omega];rw[show(a+18446744073709551616*b+340282366920938463463374607431768211456*c+6277101735386680763835789423207666416102355444464034512896*d) / 340282366920938463463374607431768211456%18446744073709551616=c by omega];rw[show(a+18446744073709551616*b+340282366920938463463374607431768211456*c+6277101735386680763835789423207666416102355444464034512896*d) / 6277101735386680763835789423207666416102355444464034512896%18446744073709551616=d by omega]]
     kernel_rfl
   ·cases h
  ·cases h
 ·cases h
/-! What one kind becomes of another;places in rows that are not known. -/
def kindIn(T:TypeId):List (TypeId × IntKind)->Option IntKind
 | []=>none
 | p::l=>if p.1=T then some p.2 else kindIn T l
theorem kindIn_ok{T:TypeId}{k:IntKind}:∀ {l:List (TypeId × IntKind)},kindIn T l=some k->(T,k)∈l
 | [],h=>by cases h
 | p::l,h=>by
  unfold kindIn at h
  split at h
  ·rename_i e;cases h;subst e;exact .head _
  ·exact .tail _ (kindIn_ok h)
def kindsM:List (TypeId × IntKind):=[(3,.i64),(123,.u64),(22,.u64)]
theorem kindsM_ok:∀ q∈kindsM,Tryz.prog.underlying q.1=some (.int q.2):=fun q hq=>by
 simp only[kindsM,List.mem_cons,List.not_mem_nil,or_false]at hq;rcases hq with rfl | rfl | rfl
 ·exact Tryz.underlying3
 ·exact Tryz.underlying123
 ·exact Tryz.underlying22
def limbN(j x:Nat):Int:=((x / 18446744073709551616^j%18446744073709551616:Nat):Int)
def rldT(T:TypeId)(x:SV)(o j z:Nat):Option (SV × List Ob):=match x with
 | .w k=>if T=22/\o=0/\z=1 then some (.i .u64 (limbN j k),[.ask (j<4)])else none
 | _=>none
theorem rldT_ok{T:TypeId}{x:SV}{o j z:Nat}{r:SV}{p:List Ob}{n:Nat}(h:rldT T x o j z=some (r,p))(hp:All p)(hx:x.lt n=true)(ho:x.ok):r.ok/\r.lt n=true/\∀ γ g t wx,wx.heap[g]?=some (.cells (x.cells γ).toArray t (0,0))->(Instr.loadAt T (.pointer (some ⟨g,o+j*z,none⟩))).run Tryz.prog wx=.ok (r.val γ) wx:=by
 unfold rldT at h
 split at h
 ·rename_i k
  split at h
  ·rename_i hc
   obtain⟨rfl,rfl,rfl⟩:=hc;cases h;have hj:j<4:=hp _ (.head _);refine⟨trivial,rfl,fun γ g t wx hg=>?_⟩;rw[Nat.zero_add,Nat.mul_one];have hc:wx.cell? ⟨g,j,none⟩=some (.int .u64 (limbN j k)):=by
    rw[cell_of_row _ _ _ _ _ _ hg,List.getElem?_toArray];exact(Array.getElem?_toList ..).trans (pw_limb γ j k hj)
   have hi:(Tryz.prog.underlying 22).map isRow=some false:=by kernel_rfl
   go_simp
   rfl
  ·cases h
 ·cases h
def ixaM(T:TypeId)(x y:SV):Option (SV × List Ob):=match x with
 | .p g 0 _ 0=>match natS y with
  | some i=>if T=24 then some (.p g 0 i 1,[.ask (i<4)])else none
  | none=>none
 | _=>none
theorem at_arrK'{P:Program}{T e:TypeId}{n sz:Nat}{g o:Nat}{k:IntKind}{d:Int}(hu:P.underlying T=some (.array n e))(hs:(P.info? e).map (·.size)=some sz)(h0:0<=d/\d<n)(w:World):(Instr.indexAt T (.pointer (some ⟨g,o,none⟩)) (.int k d)).run P w=.ok (.pointer (some ⟨g,o+d.toNat*sz,none⟩)) w:=by
 cases hq:P.info? e with
 | none=>simp[hq]at hs
 | some it =>
  have h2:it.size=sz:=by simpa[hq]using hs
  have hadd:∀ j,(⟨g,o,none⟩:Addr).add j=⟨g,o+j,none⟩:=fun j=>by unfold Addr.add;split <;> simp_all
  simp[Instr.indexAt,asIntOf,Instr.sureAddr,run_underlying hu,sizeOf,typeInfo,hq,h0,h2,hadd,Result.andThen]
theorem at_arrN{P:Program}{T e:TypeId}{n:Nat}{g o:Nat}{d:Nat}(hu:P.underlying T=some (.array n e))(hs:(P.info? e).map (·.size)=some 1)(h0:d<n)(w:World):(Instr.indexAt T (.pointer (some ⟨g,o,none⟩)) (.int .i64 (d:Nat))).run P w=.ok (.pointer (some ⟨g,o+d,none⟩)) w:=by
 have h1:=at_arrK' (g:=g) (o:=o) (k:=.i64) (d:=(d:Nat)) hu hs ⟨by omega,by omega⟩ w;rw[Int.toNat_natCast,Nat.mul_one]at h1;exact h1
theorem ixaM_ok{T:TypeId}{x y r:SV}{p:List Ob}{n:Nat}(h:ixaM T x y=some (r,p))(hp:All p)(hx:x.lt n=true)(hy:y.ok):r.ok/\r.lt n=true/\∀ γ wx,(Instr.indexAt T (x.val γ) (y.val γ)).run Tryz.prog wx=.ok (r.val γ) wx:=by
 unfold ixaM at h
 split at h
 ·rename_i g j
  split at h
  ·rename_i i hi
   split at h
   ·rename_i hT
    subst hT;cases h;refine⟨trivial,hx,fun γ wx=>?_⟩;rw[(natS_ok hi hy).1];show(Instr.indexAt 24 (.pointer (some ⟨γ g,0+j*0,none⟩)) (.int .i64 (i:Nat))).run Tryz.prog wx=.ok (.pointer (some ⟨γ g,0+i*1,none⟩)) wx;rw[Nat.mul_zero,Nat.mul_one];exact at_arrN Tryz.underlying24 (by kernel_rfl) (hp _ (.head _)) wx
   ·cases h
  ·cases h
 ·cases h
def slcM(_:TypeId)(_:SV)(_ _:Option SV):Option SV:=none
theorem slcM_ok{T:TypeId}{x:SV}{lo hi:Option SV}{r:SV}{n:Nat}(h:slcM T x lo hi=some r)(hx:x.lt n=true):r.ok/\r.lt n=true/\∀ γ wx,(Instr.sliceAt T (x.val γ) (lo.map (·.val γ)) (hi.map (·.val γ)) none).run Tryz.prog wx=.ok (r.val γ) wx:=by cases h
def slkM:List TypeId:=[]
theorem slkM_ok:∀ T∈slkM,∃ e,Tryz.prog.underlying T=some (.slice e):=fun T hT=>by cases hT
def cnvT(F T:TypeId)(x:SV):Option SV:=match kindIn F kindsM,kindIn T kindsM,intS x with
 | some _,some k,some q=>some (.i k (k.wrap q.2))
 | _,_,_=>none
theorem cnvT_ok{F T:TypeId}{x r:SV}{n:Nat}(h:cnvT F T x=some r):r.ok/\r.lt n=true/\∀ γ wx,(convert F T (x.val γ)).run Tryz.prog wx=.ok (r.val γ) wx:=by
 unfold cnvT at h
 split at h
 ·rename_i k' k q hF hT hx
  obtain⟨kx,nx⟩:=q;cases h;refine⟨trivial,rfl,fun γ wx=>?_⟩;have uF:=kindsM_ok _ (kindIn_ok hF);have uT:=kindsM_ok _ (kindIn_ok hT);rw[intS_ok hx];unfold convert;simp only[Sem.run_bind,run_underlying uF,run_underlying uT,Result.andThen_ok];rfl
 ·cases h
def ixaT(T:TypeId)(x y:SV):Option (SV × List Ob):=match ixaA arsT T x y with
 | some r=>some r
 | none=>ixaM T x y
def bldT(T:TypeId)(l:List (Nat × SV)):Option SV:=match bldG T l with
 | some r=>some r
 | none=>bldA arsT T l
def xlR(R0:Rows)(T:TypeId)(g o j z:Nat):Option (SV × List Ob):=match rowIn g R0,tyIn T tysT with
 | some r,some y=>if z=0 then (SV.sub y.m o y.sz r.1).map (·,[])else none
 | _,_=>none
structure RowsOk (R0:Rows) (base:Nat) (γ0:Pl) (w0:World):Prop where
 at_:∀ q∈R0,w0.heap[γ0 q.1]?=some (.cells (q.2.1.cells γ0).toArray q.2.2 (0,0))/\q.2.1.ok/\q.2.1.lt base=true/\q.1<base
theorem xlR_ok{R0:Rows}{base:Nat}{γ0:Pl}{w0:World}(h0:RowsOk R0 base γ0 w0):∀ T g o j z r p,xlR R0 T g o j z=some (r,p)->All p->r.ok/\r.lt base=true/\g<base/\∀ γ,(∀ k,k<base->γ k=γ0 k)->∀ wx,Below w0.heap.size w0 wx->(Instr.loadAt T (.pointer (some ⟨γ g,o+j*z,none⟩))).run Tryz.prog wx=.ok (r.val γ) wx:=fun T g o j z r p h hp=>by
 unfold xlR at h
 split at h
 ·rename_i q y hq hy
  split at h
  ·rename_i hz
   obtain⟨r',hr,e⟩:=Option.map_eq_some_iff.1 h;cases e;subst hz;have hm:=h0.at_ _ (rowIn_ok hq);obtain⟨hy',rfl⟩:=tyIn_ok hy;have gy:=tyAll_mem tysT_ok y hy';have s:=SV.sub_ok (fun _=>0) hr;refine⟨s.ok hm.2.1,s.lt _ hm.2.2.1,hm.2.2.2,fun γ hγ wx hw=>?_⟩;have hlt:=(Array.getElem?_eq_some_iff.1 hm.1).1;have hg:=(hw.block _ hlt).trans hm.1;rw[<- (SV.lt_same (γ:=γ) (δ:=γ0) (n:=base) hγ hm.2.2.1).2.1,<- hγ g hm.2.2.2]at hg;rw[Nat.mul_zero,Nat.add_zero];exact load_ok hg gy.d gy.sz hr
  ·cases h
 ·cases h
noncomputable def ET (base:Nat) (more:List Con) (R0:Rows):Env:=⟨Tryz.prog,tysT,base,fun f n M l=>conIn f more n M l,bopG,bldT,xlR R0,ixaT,[],[],slcM,idxA arsT,cnvT,rldT,slkM,fun _ _ _ _=>none⟩
theorem ET_ok{base:Nat}{w0:World}{more:List Con}{γ0:Pl}{R0:Rows}(hm:conAll Tryz.prog base γ0 w0 more)(h0:RowsOk R0 base γ0 w0):(ET base more R0).Good γ0 w0:=by
 refine⟨tyAll_mem tysT_ok,fun f n M l r p R h hp hn hok hM=>?_,fun op T x y r p h hp hx hy=>bopG_ok h hp hx hy,fun T l r h ho=>?_,xlR_ok h0,fun T x y r p n h hp hx _ hy=>?_,fun _ h=>(by cases h),fun _ h=>(by cases h),fun T x lo hi r n h hx=>slcM_ok h hx,fun T x y r n h hx ho hy=>idxA_ok arsT_ok h hx ho hy,fun _ _ _ _ _ h _ _=>cnvT_ok h,fun _ _ _ _ _ _ _ _ h hp hx ho=>rldT_ok h hp hx ho,slkM_ok,fun _ _ _ _ _ _ _ h=>(by cases h)⟩
 ·obtain⟨c,h1,rfl,h3⟩:=conIn_ok (conAll_mem hm) h
  have:=h1.all n M l r p R h3 hp hn hok hM;exact⟨this.1,this.2.1,this.2.2.1,h1.call,this.2.2.2⟩
 ·replace h:bldT T l=some r:=h
  unfold bldT at h
  split at h
  ·rename_i hb
   cases h;exact bldG_ok hb
  ·exact bldA_ok arsT_ok h ho
 ·replace h:ixaT T x y=some (r,p):=h
  unfold ixaT at h
  split at h
  ·rename_i hb
   cases h;exact ixaA_ok arsT_ok hb hx hy
  ·exact ixaM_ok h hp hx hy
theorem noRows{base:Nat}{γ0:Pl}{w0:World}:RowsOk [] base γ0 w0:=⟨fun _ h=>by cases h⟩
noncomputable def E1 (more:List Con):Env:=ET 1 more []
theorem E1_ok{w0:World}{more:List Con}{γ0:Pl}(hm:conAll Tryz.prog 1 γ0 w0 more):(E1 more).Good γ0 w0:=ET_ok hm noRows
def sG:SV:=.ap (.p 0 0 0 0) .e
def conV(f:FuncId)(g:List SV->Option (SV × List Ob)):Con:=⟨f,fun _ _ l=>(g l).map fun q=>(q.1,q.2,[])⟩
theorem conV_ok{P:Program}{base:Nat}{γ0:Pl}{w0:World}{f:FuncId}{g:List SV->Option (SV × List Ob)}(hc:∀ as_ wx,(callFunc f as_).run P wx=.ok (.enter f as_) wx)
  (h:∀ us r q,g us=some (r,q)->All q->(∀ x∈us,x.ok)->r.ok/\r.lt 0=true/\∀ γ w,Calls P f (us.map (·.val γ)).toArray w fun e w'=>e=.returned (r.val γ)/\Below w.heap.size w w'):ConOk P base γ0 w0 (conV f g) :=
 .of hc fun n M l r p R hr hp hok=>by
  obtain⟨q,hq,e⟩:=Option.map_eq_some_iff.1 hr;cases e;have:=h l q.1 q.2 hq hp hok;exact⟨rfl,this.1,this.2.1,fun γ _ wx _ _=>this.2.2 γ wx⟩
theorem agg_ptr{x:SV}{γ:Pl}{F:Nat}{ext:Bool}{m:Nat}{M:Rows}{p:List Ob}(hx:isF ext m M x=some p)(h:x.val γ=.pointer (some ⟨F,0,none⟩)):(SV.ap x .e).val γ=.agg #[.pointer (some ⟨F,0,none⟩)]:=by
 cases x <;> first | (cases hx;done) | skip
 simpa[SV.val,SV.cells,SV.sc]using h
def conG(ext:Bool)(m:Nat)(f:FuncId)(g:List SV->Option (SV × List Ob)):Con:=⟨f,fun _ M l=>match l with
 | .ap x .e::us=>match isF ext m M x,g us with
  | some p,some (r,q)=>some (r,q++p,[])
  | _,_=>none
 | _=>none⟩
theorem conG_ok{P:Program}{ext:Bool}{m:Nat}{γ0:Pl}{w0:World}{f:FuncId}{g:List SV->Option (SV × List Ob)}(hf:FOk ext m γ0 w0)(hc:∀ as_ wx,(callFunc f as_).run P wx=.ok (.enter f as_) wx)
  (h:∀ us r q,g us=some (r,q)->All q->(∀ x∈us,x.ok)->r.ok/\r.lt 0=true/\∀ γ F w,FldAt w F m->Calls P f (.agg #[.pointer (some ⟨F,0,none⟩)]::us.map (·.val γ)).toArray w fun e w'=>e=.returned (r.val γ)/\Below w.heap.size w w'):ConOk P 1 γ0 w0 (conG ext m f g) :=
 .of hc fun n M l r p R hr hp hok=>by
  unfold conG at hr;dsimp only at hr
  split at hr
  ·rename_i x us
   split at hr
   ·rename_i p' r' q hx hq
    cases hr;obtain⟨g1,g2,g3⟩:=h us r q hq (fun a ha=>hp a (List.mem_append_left _ ha)) fun x hx=>hok x (.tail _ hx);refine⟨rfl,g1,g2,?_⟩;intro γ hγ wx hw hL;obtain⟨F,h1,h2⟩:=isF_at hx (fun a ha=>hp a (List.mem_append_right _ ha)) hf hγ hw hL;have g4:=g3 γ F wx h2;rw[<- agg_ptr hx h1]at g4;exact g4
   ·cases hr
  ·cases hr
structure Shp (α:Type) where
 enc:α->SV
 dec:SV->Option α
 dec_ok:∀ x a,dec x=some a->x=enc a
 lt:∀ a,(enc a).lt 0=true
def d2:SV->Option N2
 | .ap (.w a) (.ap (.w b) .e)=>some (a,b)
 | _=>none
theorem d2_ok(x:SV)(a:N2)(h:d2 x=some a):x=F2s a:=by
 unfold d2 at h
 split at h
 ·cases h;rfl
 ·cases h
def sh2:Shp N2:=⟨F2s,d2,d2_ok,fun _=>rfl⟩
def o0:Pl:=fun _=>0
section
variable {α β ρ:Type}
def cT1(ext:Bool)(m:Nat)(f:FuncId)(A:Shp α)(op:α->SV):Con:=conG ext m f fun l=>match l with
 | [x]=>(A.dec x).map fun a=>(op a,[])
 | _=>none
def cT2(ext:Bool)(m:Nat)(f:FuncId)(A:Shp α)(B:Shp β)(op:α->β->SV):Con:=conG ext m f fun l=>match l with
 | [x,y]=>match A.dec x,B.dec y with
  | some a,some b=>some (op a b,[])
  | _,_=>none
 | _=>none
theorem cT1_ok{P:Program}{ext:Bool}{m:Nat}{γ0:Pl}{w0:World}{f:FuncId}{A:Shp α}{op:α->SV}(hf:FOk ext m γ0 w0)(hc:∀ as_ wx,(callFunc f as_).run P wx=.ok (.enter f as_) wx)(hg:∀ a,(A.enc a).ok->(op a).ok/\(op a).lt 0=true)
  (h:∀ F a,(A.enc a).ok->∀ w,FldAt w F m->Calls P f #[.agg #[.pointer (some ⟨F,0,none⟩)],(A.enc a).val o0] w fun e w'=>e=.returned ((op a).val o0)/\Below w.heap.size w w'):ConOk P 1 γ0 w0 (cT1 ext m f A op) :=
 conG_ok hf hc fun us r q hr hq hok=>by
  split at hr
  ·rename_i x
   obtain⟨a,ha,e⟩:=Option.map_eq_some_iff.1 hr;cases e;have hx:=A.dec_ok _ _ ha;subst hx;have oa:=hok (A.enc a) (by simp);refine⟨(hg a oa).1,(hg a oa).2,fun γ F w hF=>?_⟩;show Calls P f #[.agg #[.pointer (some ⟨F,0,none⟩)],(A.enc a).val γ] w _;rw[val0 (hg a oa).2,val0 (A.lt a)];exact h F a oa w hF
  ·cases hr
theorem cT2_ok{P:Program}{ext:Bool}{m:Nat}{γ0:Pl}{w0:World}{f:FuncId}{A:Shp α}{B:Shp β}{op:α->β->SV}(hf:FOk ext m γ0 w0)(hc:∀ as_ wx,(callFunc f as_).run P wx=.ok (.enter f as_) wx)(hg:∀ a b,(A.enc a).ok->(B.enc b).ok->(op a b).ok/\(op a b).lt 0=true)
  (h:∀ F a b,(A.enc a).ok->(B.enc b).ok->∀ w,FldAt w F m->Calls P f #[.agg #[.pointer (some ⟨F,0,none⟩)],(A.enc a).val o0,(B.enc b).val o0] w fun e w'=>e=.returned ((op a b).val o0)/\Below w.heap.size w w'):ConOk P 1 γ0 w0 (cT2 ext m f A B op) :=
 conG_ok hf hc fun us r q hr hq hok=>by
  split at hr
  ·rename_i x y
   split at hr
   ·rename_i a b ha hb
    cases hr;have hx:=A.dec_ok _ _ ha;have hy:=B.dec_ok _ _ hb;subst hx hy;have oa:=hok (A.enc a) (by simp);have ob:=hok (B.enc b) (by simp);have g:=hg a b oa ob;refine⟨g.1,g.2,fun γ F w hF=>?_⟩;show Calls P f #[.agg #[.pointer (some ⟨F,0,none⟩)],(A.enc a).val γ,(B.enc b).val γ] w _;rw[val0 g.2,val0 (A.lt a),val0 (B.lt b)];exact h F a b oa ob w hF
   ·cases hr
  ·cases hr
def cV1(f:FuncId)(A:Shp α)(op:α->SV):Con:=conV f fun l=>match l with
 | [x]=>(A.dec x).map fun a=>(op a,[])
 | _=>none
def cV2(f:FuncId)(A:Shp α)(B:Shp β)(op:α->β->SV):Con:=conV f fun l=>match l with
 | [x,y]=>match A.dec x,B.dec y with
  | some a,some b=>some (op a b,[])
  | _,_=>none
 | _=>none
theorem cV1_ok{P:Program}{base:Nat}{γ0:Pl}{w0:World}{f:FuncId}{A:Shp α}{op:α->SV}(hc:∀ as_ wx,(callFunc f as_).run P wx=.ok (.enter f as_) wx)(hg:∀ a,(A.enc a).ok->(op a).ok/\(op a).lt 0=true)
  (h:∀ a,(A.enc a).ok->∀ w,Calls P f #[(A.enc a).val o0] w fun e w'=>e=.returned ((op a).val o0)/\Below w.heap.size w w'):ConOk P base γ0 w0 (cV1 f A op) :=
 conV_ok hc fun us r q hr hq hok=>by
  split at hr
  ·rename_i x
   obtain⟨a,ha,e⟩:=Option.map_eq_some_iff.1 hr;cases e;have hx:=A.dec_ok _ _ ha;subst hx;have oa:=hok (A.enc a) (by simp);refine⟨(hg a oa).1,(hg a oa).2,fun γ w=>?_⟩;show Calls P f #[(A.enc a).val γ] w _;rw[val0 (hg a oa).2,val0 (A.lt a)];exact h a oa w
  ·cases hr
theorem cV2_ok{P:Program}{base:Nat}{γ0:Pl}{w0:World}{f:FuncId}{A:Shp α}{B:Shp β}{op:α->β->SV}(hc:∀ as_ wx,(callFunc f as_).run P wx=.ok (.enter f as_) wx)(hg:∀ a b,(A.enc a).ok->(B.enc b).ok->(op a b).ok/\(op a b).lt 0=true)
  (h:∀ a b,(A.enc a).ok->(B.enc b).ok->∀ w,Calls P f #[(A.enc a).val o0,(B.enc b).val o0] w fun e w'=>e=.returned ((op a b).val o0)/\Below w.heap.size w w'):ConOk P base γ0 w0 (cV2 f A B op) :=
 conV_ok hc fun us r q hr hq hok=>by
  split at hr
  ·rename_i x y
   split at hr
   ·rename_i a b ha hb
    cases hr;have hx:=A.dec_ok _ _ ha;have hy:=B.dec_ok _ _ hb;subst hx hy;have oa:=hok (A.enc a) (by simp);have ob:=hok (B.enc b) (by simp);have g:=hg a b oa ob;refine⟨g.1,g.2,fun γ w=>?_⟩;show Calls P f #[(A.enc a).val γ,(B.enc b).val γ] w _;rw[val0 g.2,val0 (A.lt a),val0 (B.lt b)];exact h a b oa ob w
   ·cases hr
  ·cases hr
end
def Is1{α:Type}(m:Nat)(f:FuncId)(A:Shp α)(op:α->SV):Prop:=∀ ext γ0 w0,FOk ext m γ0 w0->ConOk Tryz.prog 1 γ0 w0 (cT1 ext m f A op)
def Is2{α β:Type}(m:Nat)(f:FuncId)(A:Shp α)(B:Shp β)(op:α->β->SV):Prop:=∀ ext γ0 w0,FOk ext m γ0 w0->ConOk Tryz.prog 1 γ0 w0 (cT2 ext m f A B op)
def Is0{α:Type}(f:FuncId)(A:Shp α)(op:α->SV):Prop:=∀ base γ0 w0,ConOk Tryz.prog base γ0 w0 (cV1 f A op)
def Is00{α β:Type}(f:FuncId)(A:Shp α)(B:Shp β)(op:α->β->SV):Prop:=∀ base γ0 w0,ConOk Tryz.prog base γ0 w0 (cV2 f A B op)
end Go.Proofs.YtadfjjfklihaaaaGreat.Sy
