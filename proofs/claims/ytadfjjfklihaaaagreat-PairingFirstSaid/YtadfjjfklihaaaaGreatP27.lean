/- The pairing's fields as numbers: below a prime, two of them (i i = -1), six (a third root of 9 and i), twelve (a root of that). What the program reckons by words is told by them. (Cut to what is reached, written closely: EcMul · EcOrd · Prm · FInvN · EcFp · TwP.) -/
import Derived.Test.YtadfjjfklihaaaaGreatP26
import Derived.Laws.Bits64b
import Derived.Test.YtadfjjfklihaaaaGreatP25
set_option linter.all false
set_option maxRecDepth 100000
set_option maxHeartbeats 8000000
namespace Go.Proofs.YtadfjjfklihaaaaGreat
structure Curve {K:Type} (F:CField K) (b:K):Prop where
 root:∀ x,cub F.ops x b≠F.zero
 two:∀ a:K,a≠F.zero->F.add a a≠F.zero
def nmul{K:Type}(F:CField K)[DecidableEq K]:Nat->Pt K->Pt K
 | 0,_=>.none
 | n+1,p=>psum F (nmul F n p) p
def pneg{K:Type}(F:CField K):Pt K->Pt K
 | .none=>.none
 | .some x y=>.some x (F.neg y)
theorem neg_mul_neg{K:Type}(C:CRing K)(y:K):C.mul (C.neg y) (C.neg y)=C.mul y y:=by
 rw[C.mul_neg,C.mul_comm,C.mul_neg];apply C.add_cancel (c:=C.neg (C.mul y y));rw[C.add_neg,C.add_comm,C.add_neg]
theorem neg_neg{K:Type}(C:CRing K)(y:K):C.neg (C.neg y)=y:=by
 apply C.add_cancel (c:=C.neg y);rw[C.add_neg,C.add_comm,C.add_neg]
section
variable {K:Type} {F:CField K} {b:K}
theorem psum_none_r[DecidableEq K](p:Pt K):psum F p .none=p:=by cases p <;> rfl
theorem on_psum[DecidableEq K](h:Curve F b){p q:Pt K}(hp:p.On F b)(hq:q.On F b):(psum F p q).On F b:=(rep_std h.root h.two hp hq).2
theorem on_nmul[DecidableEq K](h:Curve F b){p:Pt K}(hp:p.On F b):∀ n,(nmul F n p).On F b
 | 0=>trivial
 | n+1=>on_psum h (on_nmul h hp n) hp
theorem nmul_add[DecidableEq K](h:Curve F b){p:Pt K}(hp:p.On F b)(m:Nat):∀ n,nmul F (m+n) p=psum F (nmul F m p) (nmul F n p)
 | 0=>(psum_none_r _).symm
 | n+1=>by rw[<- Nat.add_assoc,nmul,nmul_add h hp m n,nmul,psum_assoc h.root h.two (on_nmul h hp m) (on_nmul h hp n) hp]
theorem nmul_none[DecidableEq K]:∀ n,nmul F n (.none:Pt K)=.none
 | 0=>rfl
 | n+1=>by rw[nmul,nmul_none n];rfl
theorem nmul_mul[DecidableEq K](h:Curve F b){p:Pt K}(hp:p.On F b)(n:Nat):∀ m,nmul F (m*n) p=nmul F m (nmul F n p)
 | 0=>by rw[Nat.zero_mul];rfl
 | m+1=>by rw[Nat.succ_mul,nmul_add h hp,nmul_mul h hp n m];rfl
theorem swap_psum[DecidableEq K](h:Curve F b){p q r s:Pt K}(hp:p.On F b)(hq:q.On F b)(hr:r.On F b)(hs:s.On F b):psum F (psum F p q) (psum F r s)=psum F (psum F p r) (psum F q s):=by
 rw[psum_assoc h.root h.two hp hq (on_psum h hr hs),<- psum_assoc h.root h.two hq hr hs,psum_comm h.root h.two hq hr,psum_assoc h.root h.two hr hq hs,<- psum_assoc h.root h.two hp hr (on_psum h hq hs)]
theorem nmul_psum[DecidableEq K](h:Curve F b){p q:Pt K}(hp:p.On F b)(hq:q.On F b):∀ n,nmul F n (psum F p q)=psum F (nmul F n p) (nmul F n q)
 | 0=>rfl
 | n+1=>by rw[nmul,nmul_psum h hp hq n,swap_psum h (on_nmul h hp n) (on_nmul h hq n) hp hq];rfl
theorem on_neg{p:Pt K}(hp:p.On F b):(pneg F p).On F b:=by
 cases p with
 | none=>trivial
 | some x y=>exact(neg_mul_neg F.toCRing y).trans hp
theorem psum_neg[DecidableEq K](h:Curve F b){p:Pt K}(hp:p.On F b):psum F p (pneg F p)=.none:=by
 cases p with
 | none=>rfl
 | some x y =>
  have hy:=y_ne h.root hp;show(if x=x then _ else _)=_;rw[if_pos rfl,if_pos];refine .inl fun e=>?_;have e2:F.add y y=F.zero:=by
   have:=F.add_neg y;rwa [<- e]at this
  exact h.two y hy e2
theorem psum_back[DecidableEq K](h:Curve F b){p q:Pt K}(hp:p.On F b)(hq:q.On F b):psum F (psum F p q) (pneg F q)=p:=by
 rw[psum_assoc h.root h.two hp hq (on_neg hq),psum_neg h hq,psum_none_r]
theorem psum_cancel[DecidableEq K](h:Curve F b){p q r:Pt K}(hp:p.On F b)(hq:q.On F b)(hr:r.On F b)(e:psum F p r=psum F q r):p=q:=by
 rw[<- psum_back h hp hr,e,psum_back h hq hr]
theorem nmul_mod[DecidableEq K](h:Curve F b){p:Pt K}(hp:p.On F b){n:Nat}(hn:nmul F n p=.none)(k:Nat):nmul F (k%n) p=nmul F k p:=by
 have e:nmul F k p=nmul F (n*(k / n)+k%n) p:=by rw[Nat.div_add_mod]
 rw[e,nmul_add h hp,Nat.mul_comm,nmul_mul h hp,hn,nmul_none];rfl
end
theorem pigeon:∀(n m:Nat) (f:Nat->Nat),(∀ i,i<m->f i<n)->(∀ i j,i<m->j<m->f i=f j->i=j)->m<=n:=by
 intro n
 induction n with
 | zero =>
  intro m f h _;rcases Nat.eq_zero_or_pos m with rfl | hm
  ·exact Nat.le_refl _
  ·exact absurd (h 0 hm) (Nat.not_lt_zero _)
 | succ n ih =>
  intro m f h inj;by_cases hx:∃ i0,i0<m/\f i0=n
  ·obtain⟨i0,h0,e0⟩:=hx
   have key:=ih (m - 1) (fun j=>f (if j<i0 then j else j+1)) (fun i hi=>?_) fun i j hi hj e=>?_
   ·omega
   ·have hlt:(if i<i0 then i else i+1)<m:=by split <;> omega
    have hne:(if i<i0 then i else i+1)≠i0:=by split <;> omega
    have h1:=h _ hlt;have h2:f (if i<i0 then i else i+1)≠n:=fun e=>hne (inj _ _ hlt h0 (e.trans e0.symm));omega
   ·have hi':(if i<i0 then i else i+1)<m:=by split <;> omega
    have hj':(if j<i0 then j else j+1)<m:=by split <;> omega
    have h1:=inj _ _ hi' hj' e
    split at h1 <;> split at h1 <;> omega
  ·refine Nat.le_succ_of_le (ih m f (fun i hi=>?_) inj)
   have h1:=h i hi;have h2:f i≠n:=fun e=>hx ⟨i,hi,e⟩;omega
section
variable {K:Type} {F:CField K} {b:K}
def sbit(F:CField K)(e:K->Nat)(y:K):Nat:=if e y<e (F.neg y)then 0 else 1
theorem sbit_le(e:K->Nat)(y:K):sbit F e y<=1:=by unfold sbit;split <;> omega
def pcode(F:CField K)(e:K->Nat)(p:Nat):Pt K->Nat
 | .none=>2*p
 | .some x y=>2*e x+sbit F e y
theorem pcode_lt{e:K->Nat}{p:Nat}(he:∀ a,e a<p)(P:Pt K):pcode F e p P<2*p+1:=by
 cases P with
 | none=>exact Nat.lt_succ_self _
 | some x y =>
  have h1:=he x;have h2:=sbit_le (F:=F) e y;show 2*e x+sbit F e y<2*p+1;omega
theorem pcode_inj{e:K->Nat}{p:Nat}(he:∀ a,e a<p)(hi:∀ a c,e a=e c->a=c){P Q:Pt K}(hP:P.On F b)(hQ:Q.On F b)(h:pcode F e p P=pcode F e p Q):P=Q:=by
 cases P with
 | none =>
  cases Q with
  | none=>rfl
  | some x y =>
   have h1:=he x;have h2:=sbit_le (F:=F) e y;have h3:2*p=2*e x+sbit F e y:=h;omega
 | some x y =>
  cases Q with
  | none =>
   have h1:=he x;have h2:=sbit_le (F:=F) e y;have h3:2*e x+sbit F e y=2*p:=h;omega
  | some x' y' =>
   have h1:=sbit_le (F:=F) e y;have h2:=sbit_le (F:=F) e y';have h3:2*e x+sbit F e y=2*e x'+sbit F e y':=h;have hx':=hi x x' (by omega);subst hx';have h4:sbit F e y=sbit F e y':=by omega
   by_cases ey:y=y'
   ·rw[ey]
   ·exfalso
    have h5:=same_x hP hQ ey;rw[F.sub_self]at h5;have h6:y'=F.neg y:=by rw[h5];unfold CRing.sub;rw[F.zero_add]
    have h7:e y≠e y':=fun q=>ey (hi _ _ q);have h8:F.neg y'=y:=by rw[h6];exact neg_neg F.toCRing y
    unfold sbit at h4;rw[h8,<- h6]at h4;by_cases h9:e y<e y'
    ·rw[if_pos h9,if_neg (by omega)]at h4;omega
    ·rw[if_neg h9,if_pos (by omega)]at h4;omega
theorem no_two[DecidableEq K](h:Curve F b){P:Pt K}(hP:P.On F b)(e:psum F P P=.none):P=.none:=by
 cases P with
 | none=>rfl
 | some x y =>
  exfalso;have hy:=y_ne h.root hP;have e2:(if x=x then (if y≠y\/y=F.zero then .none else lineTo F x y x (F.mul (F.add (F.mul x x) (F.add (F.mul x x) (F.mul x x))) (F.inv (F.add y y))))else lineTo F x y x (F.mul (F.sub y y) (F.inv (F.sub x x))))=(.none:Pt K):=e;rw[if_pos rfl,if_neg (fun q=>q.elim (fun q=>q rfl) hy)]at e2;cases e2
theorem nmul_diff[DecidableEq K](h:Curve F b){G:Pt K}(hG:G.On F b){n i j:Nat}(hij:i<=j)(hjn:j<n)(e:nmul F i G=nmul F j G)(prime:∀ d,0<d->d<n->nmul F d G≠.none):i=j:=by
 rcases Nat.eq_or_lt_of_le hij with h1 | h1
 ·exact h1
 ·exfalso
  have e2:nmul F (j - i) G=.none:=by
   refine psum_cancel (q:=.none) h (on_nmul h hG _) trivial (on_nmul h hG i) ?_;rw[<- nmul_add h hG,show j - i+i=j by omega,<- e];rfl
  exact prime (j - i) (by omega) (by omega) e2
theorem least[DecidableEq K](h:Curve F b){G:Pt K}(hG:G.On F b)(hne:G≠.none){n:Nat}(hn:nmul F n G=.none)(hp:∀ d,0<d->d<n->Nat.gcd d n=1):∀ d,0<d->d<n->nmul F d G≠.none:=by
 intro d h0 hd e
 -- d has an inverse modulo n
 have hg:∀ a c:Nat,nmul F a G=.none->nmul F c G=.none->nmul F (Nat.gcd a c) G=.none:=by
  intro a
  induction a using Nat.strongRecOn with
  | _ a ih =>
   intro c ha hc;rcases Nat.eq_zero_or_pos a with rfl | hpos
   ·rw[Nat.gcd_zero_left];exact hc
   ·rw[Nat.gcd_rec]
    refine ih (c%a) (Nat.mod_lt _ hpos) a ?_ ha;rw[nmul_mod h hG ha];exact hc
 have h1:=hg d n e hn;rw[hp d h0 hd]at h1;exact hne h1
theorem order_all[DecidableEq K](h:Curve F b){e:K->Nat}{p:Nat}(he:∀ a,e a<p)(hi:∀ a c,e a=e c->a=c){G:Pt K}(hG:G.On F b)(hne:G≠.none){n:Nat}(hn:nmul F n G=.none)(hprime:∀ d,0<d->d<n->Nat.gcd d n=1)(hbig:2*p+1<3*n){P:Pt K}(hP:P.On F b):nmul F n P=.none:=by
 refine Classical.byContradiction fun hc=>?_;have hl:=least h hG hne hn hprime;have n0:0<n:=by omega
 let f:Nat->Pt K:=fun k=>psum F (nmul F (k%n) G) (nmul F (k / n) P)
 have onf:∀ k,(f k).On F b:=fun k=>on_psum h (on_nmul h hG _) (on_nmul h hP _);have nG:∀ k,nmul F n (nmul F k G)=.none:=fun k=>by rw[<- nmul_mul h hG,Nat.mul_comm,nmul_mul h hG,hn,nmul_none]
 -- two of these points are one only if they are told alike
 have key:∀ i j,i / n<=j / n->j<3*n->f i=f j->i=j:=by
  intro i j hij hj ee;have hi1:=Nat.mod_lt i n0;have hj1:=Nat.mod_lt j n0;have hj3:j / n<3:=(Nat.div_lt_iff_lt_mul n0).2 hj;obtain⟨d,hd⟩:∃ d,j / n=i / n+d:=⟨j / n - i / n,by omega⟩
  -- so many times d the point is a multiple of G
  have e1:nmul F (i%n) G=psum F (nmul F (j%n) G) (nmul F d P):=by
   apply psum_cancel h (on_nmul h hG _) (on_psum h (on_nmul h hG _) (on_nmul h hP _)) (on_nmul h hP (i / n));rw[psum_assoc h.root h.two (on_nmul h hG _) (on_nmul h hP _) (on_nmul h hP _),<- nmul_add h hP,Nat.add_comm d,<- hd];exact ee
  have e2:=congrArg (nmul F n) e1;rw[nG,nmul_psum h (on_nmul h hG _) (on_nmul h hP _),nG]at e2;have e3:nmul F d (nmul F n P)=.none:=by
   rw[<- nmul_mul h hP,Nat.mul_comm,nmul_mul h hP];exact e2.symm
  have hd3:d<3:=Nat.lt_of_le_of_lt (Nat.le_add_left d (i / n)) (by rw[<- hd];exact hj3);have hd0:d=0:=by
   rcases Nat.eq_zero_or_pos d with h0 | h0
   ·exact h0
   ·exfalso
    rcases Nat.lt_or_ge d 2 with h1 | h1
    ·obtain rfl:d=1:=by omega
     exact hc e3
    ·obtain rfl:d=2:=by omega
     exact hc (no_two h (on_nmul h hP n) e3)
  subst hd0;have e4:nmul F (i%n) G=nmul F (j%n) G:=by rw[e1];exact psum_none_r _
  have e5:i%n=j%n:=by
   rcases Nat.le_total (i%n) (j%n)with hle | hle
   ·exact nmul_diff h hG hle hj1 e4 hl
   ·exact(nmul_diff h hG hle hi1 e4.symm hl).symm
  have h6:=Nat.div_add_mod i n;have h7:=Nat.div_add_mod j n;rw[hd,Nat.add_zero,<- e5]at h7;omega
 have hcount:=pigeon (2*p+1) (3*n) (fun k=>pcode F e p (f k)) (fun k _=>pcode_lt he _) fun i j hi' hj' ee=>by
  have ef:=pcode_inj he hi (onf i) (onf j) ee;rcases Nat.le_total (i / n) (j / n)with hle | hle
  ·exact key i j hle hj' ef
  ·exact(key j i hle hi' ef.symm).symm
 omega
end
def Pr(p:Nat):Prop:=2<=p/\∀ d,d∣p->d=1\/d=p
theorem Pr.coprime{p a:Nat}(h:Pr p)(ha:¬p∣a):Nat.Coprime p a:=by
 rcases h.2 _ (Nat.gcd_dvd_left p a)with h1 | h1
 ·exact h1
 ·exact absurd (h1 ▸ Nat.gcd_dvd_right p a) ha
theorem Pr.dvd_mul{p a b:Nat}(h:Pr p)(hd:p∣a*b):p∣a\/p∣b:=by
 by_cases ha:p∣a
 ·exact .inl ha
 ·exact .inr ((h.coprime ha).dvd_of_dvd_mul_left hd)
theorem has_prime(n:Nat):2<=n->∃ p,Pr p/\p∣n:=by
 induction n using Nat.strongRecOn with
 | _ n ih =>
  intro hn;by_cases h:∃ d,d∣n/\d≠1/\d≠n
  ·obtain⟨d,hd,h1,h2⟩:=h
   have h3:d<=n:=Nat.le_of_dvd (by omega) hd;have h4:d≠0:=by rintro rfl;have:=Nat.eq_zero_of_zero_dvd hd;omega
   obtain⟨p,hp,hpd⟩:=ih d (by omega) (by omega);exact⟨p,hp,Nat.dvd_trans hpd hd⟩
  ·refine⟨n,⟨hn,fun d hd=>?_⟩,Nat.dvd_refl n⟩
   by_cases h1:d=1
   ·exact .inl h1
   ·by_cases h2:d=n
    ·exact .inr h2
    ·exact absurd ⟨d,hd,h1,h2⟩ h
theorem small_prime{n:Nat}(hn:2<=n)(h:∀ p,Pr p->p∣n->n<p*p):Pr n:=by
 refine⟨hn,fun d hd=>?_⟩;by_cases h1:d=1
 ·exact .inl h1
 ·right
  obtain⟨e,rfl⟩:=hd;have hd0:d≠0:=by rintro rfl;simp at hn
  have he0:e≠0:=by rintro rfl;simp at hn
  obtain⟨p,hp,hpd⟩:=has_prime d (by omega);have hp1:=h p hp (Nat.dvd_trans hpd (Nat.dvd_mul_right _ _));have hpl:=Nat.le_of_dvd (by omega) hpd;by_cases e1:e=1
  ·rw[e1,Nat.mul_one]
  ·obtain⟨q,hq,hqe⟩:=has_prime e (by omega)
   have hq1:=h q hq (Nat.dvd_trans hqe (Nat.dvd_mul_left _ _));have hql:=Nat.le_of_dvd (by omega) hqe;exfalso;have h2:p*q<=d*e:=Nat.mul_le_mul hpl hql;rcases Nat.le_total p q with hpq | hpq
   ·have:=Nat.mul_le_mul_left p hpq;omega
   ·have:=Nat.mul_le_mul_right q hpq;omega
-- BINOMIALS
def cho:Nat->Nat->Nat
 | _,0=>1
 | 0,_+1=>0
 | n+1,k+1=>cho n k+cho n (k+1)
theorem cho_zero(n:Nat):cho n 0=1:=by cases n <;> rfl
theorem cho_above:∀ n k,n<k->cho n k=0
 | 0,0,h=>by omega
 | 0,_+1,_=>rfl
 | _+1,0,h=>by omega
 | n+1,k+1,h=>by rw[cho,cho_above n k (by omega),cho_above n (k+1) (by omega)]
theorem cho_self:∀ n,cho n n=1
 | 0=>rfl
 | n+1=>by rw[cho,cho_self n,cho_above n (n+1) (by omega)]
theorem cho_mul:∀ n k,(k+1)*cho (n+1) (k+1)=(n+1)*cho n k
 | 0,0=>rfl
 | 0,k+1=>by rw[cho_above (0+1) (k+1+1) (by omega),cho_above 0 (k+1) (by omega)];simp
 | n+1,0=>by
  have h:=cho_mul n 0;rw[cho_zero]at h;rw[show cho (n+1+1) (0+1)=cho (n+1) 0+cho (n+1) (0+1) from rfl,cho_zero];omega
 | n+1,k+1=>by
  have h1:=cho_mul n k;have h2:=cho_mul n (k+1);have e:cho (n+1) (k+1)=cho n k+cho n (k+1):=by rw[cho]
  rw[show cho (n+1+1) (k+1+1)=cho (n+1) (k+1)+cho (n+1) (k+1+1) by rw[cho]];generalize cho (n+1) (k+1+1)=u at *;generalize cho (n+1) (k+1)=v at *;generalize cho n (k+1)=x at *;generalize cho n k=y at *;have e1:(k+1+1)*(v+u)=(k+1)*v+v+(k+1+1)*u:=by rw[Nat.mul_add,Nat.succ_mul (k+1) v]
  rw[e1,h1,h2,e,Nat.succ_mul (n+1),Nat.mul_add];omega
theorem cho_prime{p k:Nat}(hp:Pr p)(h0:0<k)(hk:k<p):p∣cho p k:=by
 obtain⟨n,rfl⟩:∃ n,p=n+1:=⟨p - 1,by have:=hp.1;omega⟩
 obtain⟨j,rfl⟩:∃ j,k=j+1:=⟨k - 1,by omega⟩
 have h:=cho_mul n j;have hd:n+1∣(j+1)*cho (n+1) (j+1):=by rw[h];exact Nat.dvd_mul_right _ _
 rcases hp.dvd_mul hd with h1 | h1
 ·exact absurd (Nat.le_of_dvd (by omega) h1) (by omega)
 ·exact h1
def bsum(n a:Nat):Nat->Nat
 | 0=>0
 | j+1=>bsum n a j+cho n j*a^j
theorem bsum_next(n a:Nat):∀ j,bsum (n+1) a (j+1)+cho n j*a^(j+1)=(a+1)*bsum n a j+cho n j*a^(j+1)+cho n j*a^j
 | 0=>by simp[bsum,cho_zero];omega
 | j+1=>by
  have h:=bsum_next n a j;have e:cho (n+1) (j+1)=cho n j+cho n (j+1):=by rw[cho]
  have e2:bsum (n+1) a (j+1+1)=bsum (n+1) a (j+1)+cho (n+1) (j+1)*a^(j+1):=rfl;have e3:bsum n a (j+1)=bsum n a j+cho n j*a^j:=rfl;rw[e2,e3,e,Nat.add_mul,Nat.mul_add];have e4:(a+1)*(cho n j*a^j)=cho n j*a^(j+1)+cho n j*a^j:=by
   rw[Nat.add_mul,Nat.one_mul,Nat.pow_succ,Nat.mul_left_comm,Nat.mul_comm a]
  rw[e4];omega
theorem binom(n a:Nat):bsum n a (n+1)=(a+1)^n:=by
 induction n with
 | zero=>simp[bsum,cho]
 | succ n ih =>
  have h:=bsum_next n a (n+1);rw[cho_above n (n+1) (by omega),ih]at h;simp only[Nat.zero_mul,Nat.add_zero]at h;rw[h,Nat.pow_succ,Nat.mul_comm]
theorem bsum_prime{p:Nat}(hp:Pr p)(a:Nat):∀ j,0<j->j<=p->bsum p a j%p=1%p:=by
 intro j
 induction j with
 | zero=>intro h;omega
 | succ j ih =>
  intro _ hj;by_cases h0:j=0
  ·subst h0;simp[bsum,cho_zero]
  ·have h:=ih (by omega) (by omega)
   obtain⟨q,hq⟩:=cho_prime hp (k:=j) (by omega) (by omega);show(bsum p a j+cho p j*a^j)%p=_;rw[hq,Nat.mul_assoc,Nat.add_mul_mod_self_left,h]
-- FERMAT
theorem fermat{p:Nat}(hp:Pr p)(a:Nat):a^p%p=a%p:=by
 induction a with
 | zero=>rw[Nat.zero_pow (by have:=hp.1;omega)]
 | succ a ih =>
  rw[<- binom];show(bsum p a p+cho p p*a^p)%p=_;rw[cho_self,Nat.one_mul,Nat.add_mod,bsum_prime hp a p (by have:=hp.1;omega) (Nat.le_refl _),ih,<- Nat.add_mod,Nat.add_comm]
theorem fermat1{p:Nat}(hp:Pr p)(a:Nat)(ha:¬p∣a):a^(p - 1)%p=1:=by
 have h:=fermat hp a;have h2:=hp.1;obtain⟨n,rfl⟩:∃ n,p=n+1:=⟨p - 1,by omega⟩
 have hge:1<=a^n:=Nat.pow_pos (Nat.pos_of_ne_zero (by rintro rfl;simp at ha));have hd:n+1∣a*(a^n - 1):=by
  have:=Nat.sub_mod_eq_zero_of_mod_eq h;rw[Nat.mul_sub,Nat.mul_one,<- Nat.pow_succ'];exact Nat.dvd_of_mod_eq_zero this
 have h3:=(hp.coprime ha).dvd_of_dvd_mul_left hd;obtain⟨q,hq⟩:=h3;show a^n%(n+1)=1;have:a^n=1+(n+1)*q:=by omega
 rw[this,Nat.add_mul_mod_self_left,Nat.mod_eq_of_lt (by omega)]
theorem one_gcd{p b:Nat}(hp:1<p)(m n:Nat):b^m%p=1->b^n%p=1->b^Nat.gcd m n%p=1:=by
 induction m,n using Nat.gcd.induction with
 | H0 n=>intro _ h;rw[Nat.gcd_zero_left];exact h
 | H1 m n hm ih =>
  intro h1 h2;rw[Nat.gcd_rec];refine ih ?_ h1;have e:b^n=(b^m)^(n / m)*b^(n%m):=by rw[<- Nat.pow_mul,<- Nat.pow_add,Nat.div_add_mod]
  rw[e,Nat.mul_mod,Nat.pow_mod,h1,Nat.one_pow,Nat.mod_eq_of_lt hp,Nat.one_mul,Nat.mod_mod]at h2;exact h2
-- POCKLINGTON
def pwrm(m:Nat):Nat->Nat->Nat->Nat->Nat
 | 0,_,_,r=>r
 | f+1,b,e,r=>if e=0 then r else pwrm m f (b*b%m) (e / 2) (if e%2=1 then r*b%m else r)
theorem pwrm_eq(m:Nat):∀ f b e r,e<2^f->r%m=r->pwrm m f b e r=r*b^e%m
 | 0,b,e,r,h,hr=>by
  obtain rfl:e=0:=by simpa using h
  simp[pwrm,hr]
 | f+1,b,e,r,h,hr=>by
  unfold pwrm;by_cases h0:e=0
  ·simp[h0,hr]
  ·rw[if_neg h0,pwrm_eq m f _ _ _ (by rw[Nat.pow_succ]at h;omega) (by split;exact Nat.mod_mod _ _;exact hr)]
   have e1:(b*b%m)^(e / 2)%m=b^(2*(e / 2))%m:=by rw[<- Nat.pow_mod,Nat.pow_mul,Nat.pow_two]
   rw[Nat.mul_mod,e1];by_cases h1:e%2=1
   ·rw[if_pos h1,Nat.mod_mod,<- Nat.mul_mod,Nat.mul_assoc,<- Nat.pow_succ',show(2*(e / 2)).succ=e by omega]
   ·rw[if_neg h1,<- Nat.mul_mod,show 2*(e / 2)=e by omega]
def pwr(m b e:Nat):Nat:=pwrm m 260 b e (1%m)
theorem pwr_eq(m b e:Nat)(h:e<2^260):pwr m b e=b^e%m:=by
 unfold pwr;rw[pwrm_eq m _ _ _ _ h (Nat.mod_mod _ _),Nat.mul_mod,Nat.mod_mod,<- Nat.mul_mod,Nat.one_mul]
def prodL:List Nat->Nat
 | []=>1
 | q::l=>q*prodL l
def pock(n a:Nat)(qs:List Nat):Bool:=(2<=n)&&(n<2^260)&&(pwr n a (n - 1) == 1)&&qs.all (fun q=>(n - 1)%q == 0&&Nat.gcd (pwr n a ((n - 1) / q)+(n - 1)) n == 1)&&(n<(prodL qs+1)*(prodL qs+1))&&decide qs.Nodup
theorem pock_step{n a q p:Nat}(h2:2<=n)(h3:n<2^260)(h1:pwr n a (n - 1)=1)(hq:Pr q)(hqd:(n - 1)%q=0)(hg:Nat.gcd (pwr n a ((n - 1) / q)+(n - 1)) n=1)(hp:Pr p)(hpn:p∣n):q∣p - 1:=by
 rw[pwr_eq _ _ _ (by omega)]at h1;have hle:(n - 1) / q<=n - 1:=Nat.div_le_self _ _;rw[pwr_eq _ _ _ (by omega)]at hg;obtain⟨b,hb⟩:∃ b,a^((n - 1) / q)=b:=⟨_,rfl⟩
 rw[hb]at hg;have hbq:b^q=a^(n - 1):=by rw[<- hb,<- Nat.pow_mul,Nat.div_mul_cancel (Nat.dvd_of_mod_eq_zero hqd)]
 have hp2:=hp.1;have hmm:∀ x,x%n%p=x%p:=fun x=>Nat.mod_mod_of_dvd x hpn;have hbq1:b^q%p=1:=by rw[hbq,<- hmm,h1,Nat.mod_eq_of_lt (by omega)]
 have hpb:¬p∣b:=fun h=>by
  have h4:p∣b^q:=Nat.dvd_trans h (by obtain⟨k,rfl⟩:∃ k,q=k+1:=⟨q - 1,by have:=hq.1;omega⟩;rw[Nat.pow_succ];exact Nat.dvd_mul_left _ _);have:=Nat.mod_eq_zero_of_dvd h4;omega
 have hbp:=fermat1 hp b hpb;by_cases hd:q∣p - 1
 ·exact hd
 ·exfalso
  have hc:=one_gcd (by omega) q (p - 1) hbq1 hbp;rw[show Nat.gcd q (p - 1)=1 from hq.coprime hd,Nat.pow_one]at hc;have h5:p∣b%n+(n - 1):=by
   apply Nat.dvd_of_mod_eq_zero;obtain⟨k,hk⟩:=hpn;rw[Nat.add_mod,hmm,hc];have e:n - 1=(p - 1)+p*(k - 1):=by
    have hk0:k≠0:=by rintro rfl;simp at hk;omega
    obtain⟨j,rfl⟩:∃ j,k=j+1:=⟨k - 1,by omega⟩
    rw[hk,Nat.mul_add,Nat.add_sub_cancel];omega
   rw[e,Nat.add_mul_mod_self_left,Nat.mod_eq_of_lt (show p - 1<p by omega),show 1+(p - 1)=p by omega,Nat.mod_self]
  have h6:=Nat.dvd_gcd h5 hpn;rw[hg]at h6;have:=Nat.le_of_dvd (by omega) h6;omega
theorem prodL_dvd{m:Nat}:∀ l:List Nat,l.Nodup->(∀ q∈l,Pr q)->(∀ q∈l,q∣m)->prodL l∣m/\∀ x,Pr x->x ∉ l->Nat.Coprime x (prodL l)
 | [],_,_,_=>⟨Nat.one_dvd _,fun x _ _=>Nat.coprime_one_right x⟩
 | q::l,hn,hp,hd=>by
  rw[List.nodup_cons]at hn;obtain⟨h1,h2⟩:=prodL_dvd l hn.2 (fun q h=>hp q (.tail _ h)) (fun q h=>hd q (.tail _ h));have hq:=hp q (.head _);refine⟨Nat.Coprime.mul_dvd_of_dvd_of_dvd (h2 q hq hn.1) (hd q (.head _)) h1,fun x hx hxl=>?_⟩;refine Nat.Coprime.mul_right (hx.coprime fun h=>?_) (h2 x hx fun h=>hxl (.tail _ h));rcases hq.2 x h with h3 | h3
  ·have:=hx.1;omega
  ·exact hxl (h3 ▸ .head _)
theorem pocklington(n a:Nat)(qs:List Nat)(h:pock n a qs=true)(hqs:∀ q∈qs,Pr q):Pr n:=by
 unfold pock at h;simp only[Bool.and_eq_true,decide_eq_true_eq,beq_iff_eq,List.all_eq_true]at h;obtain⟨⟨⟨⟨⟨h2,h3⟩,h1⟩,hq⟩,hs⟩,hn⟩:=h;refine small_prime h2 fun p hp hpn=>?_;have hd:=(prodL_dvd (m:=p - 1) qs hn hqs (fun q hm=>pock_step h2 h3 h1 (hqs q hm) (hq q hm).1 (hq q hm).2 hp hpn)).1;have hp2:=hp.1;have hle:=Nat.le_of_dvd (by omega) hd;have:=Nat.mul_le_mul (show prodL qs+1<=p by omega) (show prodL qs+1<=p by omega);omega
def trial(n:Nat):Nat->Bool
 | 0=>true
 | k+1=>(k<2||n%k != 0)&&trial n k
theorem trial_at(n:Nat):∀ k,trial n k=true->∀ d,2<=d->d<k->n%d≠0
 | 0,_,d,_,h=>by omega
 | k+1,h,d,h2,hd=>by
  unfold trial at h;simp only[Bool.and_eq_true,Bool.or_eq_true,decide_eq_true_eq,bne_iff_ne]at h;by_cases e:d=k
  ·subst e
   rcases h.1 with h1 | h1
   ·omega
   ·exact h1
  ·exact trial_at n k h.2 d h2 (by omega)
theorem tried(n k:Nat)(h2:2<=n)(hk:n<k*k)(h:trial n k=true):Pr n:=by
 refine small_prime h2 fun p hp hpn=>?_;have hp2:=hp.1;by_cases e:p<k
 ·exact absurd (Nat.mod_eq_zero_of_dvd hpn) (trial_at n k h p hp2 e)
 ·have:=Nat.mul_le_mul (show k<=p by omega) (show k<=p by omega)
  omega
theorem prm_29:Pr 29:=tried 29 6 (by decide) (by decide) (by decide +kernel)
theorem prm_7:Pr 7:=tried 7 3 (by decide) (by decide) (by decide +kernel)
theorem prm_41:Pr 41:=tried 41 7 (by decide) (by decide) (by decide +kernel)
theorem prm_127:Pr 127:=tried 127 12 (by decide) (by decide) (by decide +kernel)
theorem prm_3557:Pr 3557:=pocklington 3557 2 [127] (by decide +kernel) (by intro q hq;simp only[List.mem_cons,List.not_mem_nil,or_false]at hq;rcases hq with rfl <;> first | exact prm_127)
theorem prm_911:Pr 911:=tried 911 31 (by decide) (by decide) (by decide +kernel)
theorem prm_1263766531:Pr 1263766531:=pocklington 1263766531 2 [3557,911] (by decide +kernel) (by intro q hq;simp only[List.mem_cons,List.not_mem_nil,or_false]at hq;rcases hq with rfl | rfl <;> first | exact prm_3557 | exact prm_911)
theorem prm_35385462869:Pr 35385462869:=pocklington 35385462869 2 [1263766531] (by decide +kernel) (by intro q hq;simp only[List.mem_cons,List.not_mem_nil,or_false]at hq;rcases hq with rfl <;> first | exact prm_1263766531)
theorem prm_2480874801745591:Pr 2480874801745591:=pocklington 2480874801745591 2 [35385462869] (by decide +kernel) (by intro q hq;simp only[List.mem_cons,List.not_mem_nil,or_false]at hq;rcases hq with rfl <;> first | exact prm_35385462869)
theorem prm_37:Pr 37:=tried 37 7 (by decide) (by decide) (by decide +kernel)
theorem prm_5:Pr 5:=tried 5 3 (by decide) (by decide) (by decide +kernel)
theorem prm_2221:Pr 2221:=pocklington 2221 2 [37,5] (by decide +kernel) (by intro q hq;simp only[List.mem_cons,List.not_mem_nil,or_false]at hq;rcases hq with rfl | rfl <;> first | exact prm_37 | exact prm_5)
theorem prm_13327:Pr 13327:=pocklington 13327 2 [2221] (by decide +kernel) (by intro q hq;simp only[List.mem_cons,List.not_mem_nil,or_false]at hq;rcases hq with rfl <;> first | exact prm_2221)
theorem prm_173171039:Pr 173171039:=pocklington 173171039 2 [13327] (by decide +kernel) (by intro q hq;simp only[List.mem_cons,List.not_mem_nil,or_false]at hq;rcases hq with rfl <;> first | exact prm_13327)
theorem prm_13427688667394608761327070753331941386769:Pr 13427688667394608761327070753331941386769:=pocklington 13427688667394608761327070753331941386769 2 [2480874801745591,173171039] (by decide +kernel) (by intro q hq;simp only[List.mem_cons,List.not_mem_nil,or_false]at hq;rcases hq with rfl | rfl <;> first | exact prm_2480874801745591 | exact prm_173171039)
theorem prm_21888242871839275222246405745257275088696311157297823662689037894645226208583:Pr 21888242871839275222246405745257275088696311157297823662689037894645226208583:=pocklington 21888242871839275222246405745257275088696311157297823662689037894645226208583 2 [13427688667394608761327070753331941386769] (by decide +kernel) (by intro q hq;simp only[List.mem_cons,List.not_mem_nil,or_false]at hq;rcases hq with rfl <;> first | exact prm_13427688667394608761327070753331941386769)
def invN(p n:Nat):Nat:=n^(p - 2)%p
theorem invN_lt{p:Nat}(hp:Pr p)(n:Nat):invN p n<p:=Nat.mod_lt _ (by have:=hp.1;omega)
theorem invN_ok{p n:Nat}(hp:Pr p)(h:¬p∣n):n*invN p n%p=1:=by
 unfold invN;have h2:=hp.1;rw[Nat.mul_mod,Nat.mod_mod,<- Nat.mul_mod,<- Nat.pow_succ',show(p - 2).succ=p - 1 by omega];exact fermat1 hp n h
theorem invN_not{p n:Nat}(hp:Pr p)(h:p∣n):n*invN p n%p≠1:=by
 have h2:=hp.1;rw[Nat.mul_mod,Nat.mod_eq_zero_of_dvd h,Nat.zero_mul,Nat.zero_mod];omega
theorem invN_iff{p n:Nat}(hp:Pr p):n*invN p n%p=1↔¬p∣n:=⟨fun h hd=>invN_not hp hd h,invN_ok hp⟩
abbrev Zp(p:Nat):={ a:Nat // a<p }
theorem zp_ext{p:Nat}{a b:Zp p}(h:a.1=b.1):a=b:=Subtype.ext h
section
variable {p:Nat} (hp:Pr p)
theorem Pr.pos{p:Nat}(hp:Pr p):0<p:=by have:=hp.1;omega
def zpField:CField (Zp p) where
 add a b:=⟨(a.1+b.1)%p,Nat.mod_lt _ hp.pos⟩
 mul a b:=⟨a.1*b.1%p,Nat.mod_lt _ hp.pos⟩
 neg a:=⟨(p - a.1)%p,Nat.mod_lt _ hp.pos⟩
 zero:=⟨0,hp.pos⟩
 one:=⟨1,hp.1⟩
 inv a:=⟨invN p a.1,invN_lt hp a.1⟩
 add_assoc a b c:=zp_ext (by show((a.1+b.1)%p+c.1)%p=(a.1+(b.1+c.1)%p)%p;rw[Nat.mod_add_mod,Nat.add_mod_mod,Nat.add_assoc])
 add_comm a b:=zp_ext (by show(a.1+b.1)%p=(b.1+a.1)%p;rw[Nat.add_comm])
 add_zero a:=zp_ext (by show(a.1+0)%p=a.1;rw[Nat.add_zero,Nat.mod_eq_of_lt a.2])
 add_neg a:=zp_ext (by show(a.1+(p - a.1)%p)%p=0;have:=a.2;rw[Nat.add_mod_mod,show a.1+(p - a.1)=p by omega,Nat.mod_self])
 mul_assoc a b c:=zp_ext (by show(a.1*b.1%p)*c.1%p=a.1*(b.1*c.1%p)%p;rw[Nat.mod_mul_mod,Nat.mul_mod_mod,Nat.mul_assoc])
 mul_comm a b:=zp_ext (by show a.1*b.1%p=b.1*a.1%p;rw[Nat.mul_comm])
 mul_one a:=zp_ext (by show a.1*1%p=a.1;rw[Nat.mul_one,Nat.mod_eq_of_lt a.2])
 mul_add a b c:=zp_ext (by show a.1*((b.1+c.1)%p)%p=(a.1*b.1%p+a.1*c.1%p)%p;rw[Nat.mul_mod_mod,Nat.mul_add,Nat.mod_add_mod,Nat.add_mod_mod])
 mul_inv a ha:=zp_ext (by
  show a.1*invN p a.1%p=1;refine invN_ok hp fun hd=>ha (zp_ext ?_);show a.1=0;exact Nat.eq_zero_of_dvd_of_lt hd a.2)
 one_ne h:=by
  have:=congrArg Subtype.val h;exact absurd this (by show ¬(1=0);omega)
theorem zp_two(h2:p%2=1)(a:Zp p)(ha:a≠(zpField hp).zero):(zpField hp).add a a≠(zpField hp).zero:=fun h=>by
 have h1:(a.1+a.1)%p=0:=congrArg Subtype.val h;have hd:p∣2*a.1:=by rw[show 2*a.1=a.1+a.1 by omega];exact Nat.dvd_of_mod_eq_zero h1
 rcases hp.dvd_mul hd with h3 | h3
 ·have:=Nat.le_of_dvd (by decide) h3
  have:=hp.1;omega
 ·exact ha (zp_ext (Nat.eq_zero_of_dvd_of_lt h3 a.2))
def natOps(p:Nat):Ops Nat:=⟨fun a b=>(a+b)%p,fun a b=>a*b%p,fun a b=>(a+(p - b))%p⟩
theorem hom_val:Hom (zpField hp).ops (natOps p) Subtype.val:=by
 refine⟨fun _ _=>rfl,fun _ _=>rfl,fun a b=>?_⟩;show(a.1+(p - b.1)%p)%p=(a.1+(p - b.1))%p;rw[Nat.add_mod_mod]
theorem on_zp(b x y:Zp p)(h:y.1*y.1%p=(x.1*x.1%p*x.1%p+b.1)%p):OnC (zpField hp).toCRing b x y:=zp_ext h
theorem no_root{b:Zp p}(h3:(p - 1)%3=0)(hb:b.1≠0)(he:(p - 1) / 3<2^260)(hn:pwr p (p - b.1) ((p - 1) / 3)≠1)(x:Zp p):cub (zpField hp).ops x b≠(zpField hp).zero:=fun h=>by
 have h1:(x.1*x.1%p*x.1%p+b.1)%p=0:=congrArg Subtype.val h;rw[Nat.mod_mul_mod,Nat.mod_add_mod]at h1;have hbl:=b.2;have hx:¬p∣x.1:=fun hd=>by
  rw[Nat.eq_zero_of_dvd_of_lt hd x.2,Nat.mul_zero,Nat.zero_add,Nat.mod_eq_of_lt hbl]at h1;exact hb h1
 have h2:(x.1*x.1*x.1)%p=(p - b.1)%p:=by
  have e:(x.1*x.1*x.1+b.1+(p - b.1))%p=(0+(p - b.1))%p:=by rw[Nat.add_mod,h1,Nat.zero_add,Nat.zero_add,Nat.mod_mod]
  rw[show x.1*x.1*x.1+b.1+(p - b.1)=x.1*x.1*x.1+p by omega,Nat.add_mod_right,Nat.zero_add]at e;exact e
 apply hn;rw[pwr_eq p _ _ he,Nat.pow_mod,<- h2,<- Nat.pow_mod,show x.1*x.1*x.1=x.1^3 by rw[Nat.pow_succ,Nat.pow_two],<- Nat.pow_mul,Nat.mul_div_cancel' (Nat.dvd_of_mod_eq_zero h3)];exact fermat1 hp x.1 hx
def walkT{R:Type}(O:Ops R)(t:R)(P:R × R × R):List Bool->R × R × R->R × R × R
 | [],T=>T
 | b::l,T=>walkT O t P l (if b then cadd O t (cadd O t T T) P else cadd O t T T)
def bitsN:List Bool->Nat->Nat
 | [],m=>m
 | b::l,m=>bitsN l (2*m+if b then 1 else 0)
theorem walk_map{R S:Type}{O:Ops R}{Q:Ops S}{f:R->S}(h:Hom O Q f)(t:R)(P:R × R × R):∀(l:List Bool) (T:R × R × R),map3 f (walkT O t P l T)=walkT Q (f t) (map3 f P) l (map3 f T)
 | [],_=>rfl
 | b::l,T=>by
  rw[walkT,walkT,walk_map h t P l];congr 1;cases b
  ·exact cadd_map h t T T
  ·show map3 f (cadd O t (cadd O t T T) P)=_
   rw[cadd_map h,cadd_map h];rfl
theorem walk_rep{K:Type}{F:CField K}{b:K}[DecidableEq K](h:Curve F b){P:Pt K}(hP:P.On F b):∀(l:List Bool) (T:K × K × K) (m:Nat),Rep F T (nmul F m P)->Rep F (walkT F.ops (F.add (F.add b b) b) (P.emb F) l T) (nmul F (bitsN l m) P)
 | [],_,_,hT=>hT
 | c::l,T,m,hT=>by
  refine walk_rep h hP l _ _ ?_;have h2:Rep F (cadd F.ops (F.add (F.add b b) b) T T) (nmul F (m+m) P):=by
   rw[nmul_add h hP];exact rep_sum h.root h.two (on_nmul h hP m) (on_nmul h hP m) hT hT
  cases c
  ·show Rep F (cadd F.ops (F.add (F.add b b) b) T T) (nmul F (2*m+0) P)
   rw[Nat.add_zero,Nat.two_mul];exact h2
  ·show Rep F (cadd F.ops (F.add (F.add b b) b) (cadd F.ops (F.add (F.add b b) b) T T) (P.emb F)) (nmul F (2*m+1) P)
   rw[Nat.two_mul];exact rep_sum h.root h.two (on_nmul h hP _) hP h2 (rep_emb P)
theorem order_of_walk{K:Type}{F:CField K}{b:K}[DecidableEq K](h:Curve F b){P:Pt K}(hP:P.On F b)(l:List Bool)(n:Nat)(hl:bitsN l 0=n)(hz:(walkT F.ops (F.add (F.add b b) b) (P.emb F) l (F.zero,F.one,F.zero)).2.2=F.zero):nmul F n P=.none:=by
 have h1:=walk_rep h hP l (F.zero,F.one,F.zero) 0 ⟨rfl,rfl,F.one_ne⟩;rw[hl]at h1;cases hq:nmul F n P with
 | none=>rfl
 | some x y =>
  rw[hq]at h1;exact absurd hz h1.1
theorem zp_order{b:Zp p}{gx gy:Zp p}(h:Curve (zpField hp) b)(hP:(Pt.some gx gy).On (zpField hp) b)(l:List Bool)(n:Nat)(hl:bitsN l 0=n){t x y:Nat}(ht:((zpField hp).add ((zpField hp).add b b) b).1=t)(hx:gx.1=x)(hy:gy.1=y)(hw:(walkT (natOps p) t (x,y,1) l (0,1,0)).2.2=0):nmul (zpField hp) n (.some gx gy)=.none:=by
 refine order_of_walk h hP l n hl (zp_ext ?_);have e:=walk_map (hom_val hp) ((zpField hp).add ((zpField hp).add b b) b) ((Pt.some gx gy).emb (zpField hp)) l ((zpField hp).zero,(zpField hp).one,(zpField hp).zero);have a2:map3 Subtype.val ((Pt.some gx gy).emb (zpField hp))=(x,y,1):=by
  show(gx.1,gy.1,1)=_;rw[hx,hy]
 rw[ht,a2]at e;exact(congrArg (fun x=>x.2.2) e).trans hw
end
abbrev N2:=Nat × Nat
namespace CRing
variable {K:Type} (C:CRing K)
theorem mul_m1(a:K):C.mul (C.neg C.one) a=C.neg a:=by rw[C.neg_mul,C.one_mul]
end CRing
section
variable {m:Nat} (hp:Pr m)
def ph(n:Nat):Zp m:=⟨n%m,Nat.mod_lt _ hp.pos⟩
theorem ph_v(z:Zp m):ph hp z.1=z:=zp_ext (Nat.mod_eq_of_lt z.2)
def K1:CRing (Zp m):=(zpField hp).toCRing
def K2:CRing (Zp m × Zp m):=(K1 hp).ext2 ((K1 hp).neg (K1 hp).one)
theorem ph_add(a b:Nat):(a+b)%m=((K1 hp).add (ph hp a) (ph hp b)).1:=Nat.add_mod a b m
theorem ph_mul(a b:Nat):a*b%m=((K1 hp).mul (ph hp a) (ph hp b)).1:=Nat.mul_mod a b m
theorem ph_sub(a b:Nat):(a%m+(m - b%m))%m=((K1 hp).sub (ph hp a) (ph hp b)).1:=by
 show _=(a%m+(m - b%m)%m)%m;rw[Nat.add_mod_mod]
theorem ph_neg(a:Nat):(0%m+(m - a%m))%m=((K1 hp).neg (ph hp a)).1:=by
 show _=(m - a%m)%m;rw[Nat.zero_mod,Nat.zero_add]
def ph2(a:N2):Zp m × Zp m:=(ph hp a.1,ph hp a.2)
end
def v2{m:Nat}(z:Zp m × Zp m):N2:=(z.1.1,z.2.1)
section
variable {m:Nat} (hp:Pr m)
theorem ph2_v(z:Zp m × Zp m):ph2 hp (v2 z)=z:=Prod.ext (ph_v hp _) (ph_v hp _)
/-! Two numbers. -/
def m2(a b:N2):N2:=v2 ((K2 hp).mul (ph2 hp a) (ph2 hp b))
theorem m2_eq(a b:N2):((a.1*b.1%m%m+(m - a.2*b.2%m%m))%m,(a.1*b.2%m+a.2*b.1%m)%m)=m2 hp a b:=by
 refine Prod.ext ?_ ?_
 ·show(a.1*b.1%m%m+(m - a.2*b.2%m%m))%m=((K1 hp).add ((K1 hp).mul (ph hp a.1) (ph hp b.1)) ((K1 hp).mul ((K1 hp).neg (K1 hp).one) ((K1 hp).mul (ph hp a.2) (ph hp b.2)))).1
  rw[ph_sub hp,ph_mul hp,ph_mul hp,ph_v,ph_v,CRing.mul_m1];rfl
 ·show(a.1*b.2%m+a.2*b.1%m)%m=((K1 hp).add ((K1 hp).mul (ph hp a.1) (ph hp b.2)) ((K1 hp).mul (ph hp a.2) (ph hp b.1))).1
  rw[ph_add hp,ph_mul hp,ph_mul hp,ph_v,ph_v]
/-! Six,by letters of two. -/
/-! Twelve,by letters of six. -/
end
end Go.Proofs.YtadfjjfklihaaaaGreat
