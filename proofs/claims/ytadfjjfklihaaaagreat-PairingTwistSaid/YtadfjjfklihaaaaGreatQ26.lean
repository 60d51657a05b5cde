/- The identities over any commutative ring, for points of the curve. (Cut to what is reached, written closely: Kron · TwR · EcId · EcK.) -/
set_option linter.all false
set_option maxRecDepth 100000
set_option maxHeartbeats 8000000
namespace Go.Proofs.YtadfjjfklihaaaaGreat
structure CRing (K:Type) where
 add:K->K->K
 mul:K->K->K
 neg:K->K
 zero:K
 one:K
 add_assoc:∀ a b c,add (add a b) c=add a (add b c)
 add_comm:∀ a b,add a b=add b a
 add_zero:∀ a,add a zero=a
 add_neg:∀ a,add a (neg a)=zero
 mul_assoc:∀ a b c,mul (mul a b) c=mul a (mul b c)
 mul_comm:∀ a b,mul a b=mul b a
 mul_one:∀ a,mul a one=a
 mul_add:∀ a b c,mul a (add b c)=add (mul a b) (mul a c)
structure Ops (R:Type) where
 add:R->R->R
 mul:R->R->R
 sub:R->R->R
namespace CRing
variable {K:Type} (C:CRing K)
def sub(a b:K):K:=C.add a (C.neg b)
def ops:Ops K:=⟨C.add,C.mul,C.sub⟩
theorem zero_add(a:K):C.add C.zero a=a:=by rw[C.add_comm,C.add_zero]
theorem one_mul(a:K):C.mul C.one a=a:=by rw[C.mul_comm,C.mul_one]
theorem add_mul(a b c:K):C.mul (C.add a b) c=C.add (C.mul a c) (C.mul b c):=by rw[C.mul_comm,C.mul_add,C.mul_comm c a,C.mul_comm c b]
theorem add_left(a b c:K):C.add a (C.add b c)=C.add b (C.add a c):=by rw[<- C.add_assoc,C.add_comm a b,C.add_assoc]
theorem add_cancel{a b c:K}(h:C.add a c=C.add b c):a=b:=by
 have h2:=congrArg (fun x=>C.add x (C.neg c)) h;simp only[C.add_assoc,C.add_neg,C.add_zero]at h2;exact h2
theorem mul_zero(a:K):C.mul a C.zero=C.zero:=by
 apply C.add_cancel (c:=C.mul a C.zero);rw[<- C.mul_add,C.add_zero,C.zero_add]
theorem zero_mul(a:K):C.mul C.zero a=C.zero:=by rw[C.mul_comm,C.mul_zero]
theorem swap4(a b c d:K):C.add (C.add a b) (C.add c d)=C.add (C.add a c) (C.add b d):=by
 rw[C.add_assoc,C.add_assoc,C.add_left b c d]
theorem sub_self(a:K):C.sub a a=C.zero:=C.add_neg a
theorem sub_add(a b:K):C.add (C.sub a b) b=a:=by
 unfold sub;rw[C.add_assoc,C.add_comm (C.neg b) b,C.add_neg,C.add_zero]
theorem eq_of_sub{a b:K}(h:C.sub a b=C.zero):a=b:=by rw[<- C.sub_add a b,h,C.zero_add]
theorem neg_zero:C.neg C.zero=C.zero:=by
 have h:=C.add_neg C.zero;rwa [C.zero_add]at h
theorem sub_zero(a:K):C.sub a C.zero=a:=by unfold sub;rw[C.neg_zero,C.add_zero]
theorem mul_neg(a b:K):C.mul a (C.neg b)=C.neg (C.mul a b):=by
 apply C.add_cancel (c:=C.mul a b);rw[<- C.mul_add,C.add_comm (C.neg b) b,C.add_neg,C.mul_zero,C.add_comm,C.add_neg]
theorem mul_sub(a b c:K):C.mul a (C.sub b c)=C.sub (C.mul a b) (C.mul a c):=by unfold sub;rw[C.mul_add,C.mul_neg]
def nat:Nat->K
 | 0=>C.zero
 | n+1=>C.add (nat n) C.one
def pow(a:K):Nat->K
 | 0=>C.one
 | n+1=>C.mul (pow a n) a
theorem pow_add(a:K)(m:Nat):∀ n,C.pow a (m+n)=C.mul (C.pow a m) (C.pow a n)
 | 0=>(C.mul_one _).symm
 | n+1=>by rw[<- Nat.add_assoc,pow,pow,pow_add a m n,C.mul_assoc]
theorem mul4(a b c d:K):C.mul (C.mul a b) (C.mul c d)=C.mul (C.mul a c) (C.mul b d):=by
 rw[C.mul_assoc,C.mul_assoc,<- C.mul_assoc b c d,C.mul_comm b c,C.mul_assoc c b d]
end CRing
abbrev Mn:=Nat × Nat × Nat × Nat
def Mn.mul(m n:Mn):Mn:=(m.1+n.1,m.2.1+n.2.1,m.2.2.1+n.2.2.1,m.2.2.2+n.2.2.2)
def Mn.var:Nat->Mn
 | 0=>(1,0,0,0)
 | 1=>(0,1,0,0)
 | 2=>(0,0,1,0)
 | _=>(0,0,0,1)
inductive Ex
 | v (i:Nat)
 | k (n:Nat)
 | add (a b:Ex)
 | mul (a b:Ex)
 | sub (a b:Ex)
def Ex.ops:Ops Ex:=⟨.add,.mul,.sub⟩
def mulL(p q:List Mn):List Mn:=p.flatMap fun m=>q.map (Mn.mul m)
def degMax(a b:Mn):Mn:=(max a.1 b.1,max a.2.1 b.2.1,max a.2.2.1 b.2.2.1,max a.2.2.2 b.2.2.2)
def ndAdd(p q:Nat × Mn):Nat × Mn:=if p.1=0 then q else if q.1=0 then p else (p.1+q.1,degMax p.2 q.2)
def ndMul(p q:Nat × Mn):Nat × Mn:=if p.1=0 then p else if q.1=0 then q else (p.1*q.1,p.2.mul q.2)
namespace Ex
def pm:Ex->List Mn × List Mn
 | .v i=>([Mn.var i],[])
 | .k n=>(List.replicate n (0,0,0,0),[])
 | .add a b=>(a.pm.1++b.pm.1,a.pm.2++b.pm.2)
 | .sub a b=>(a.pm.1++b.pm.2,a.pm.2++b.pm.1)
 | .mul a b=>(mulL a.pm.1 b.pm.1++mulL a.pm.2 b.pm.2,mulL a.pm.1 b.pm.2++mulL a.pm.2 b.pm.1)
def norm:Ex->Nat
 | .v _=>1
 | .k n=>n
 | .add a b=>a.norm+b.norm
 | .sub a b=>a.norm+b.norm
 | .mul a b=>a.norm*b.norm
def nd:Ex->Nat × Mn
 | .v i=>(1,Mn.var i)
 | .k n=>(n,(0,0,0,0))
 | .add a b=>ndAdd a.nd b.nd
 | .sub a b=>ndAdd a.nd b.nd
 | .mul a b=>ndMul a.nd b.nd
section
variable {K:Type} (C:CRing K) (r:Nat->K)
def eval:Ex->K
 | .v 0=>r 0
 | .v 1=>r 1
 | .v 2=>r 2
 | .v _=>r 3
 | .k n=>C.nat n
 | .add a b=>C.add a.eval b.eval
 | .sub a b=>C.sub a.eval b.eval
 | .mul a b=>C.mul a.eval b.eval
end
end Ex
section
variable {K:Type} (C:CRing K) (r:Nat->K)
def Mn.val(m:Mn):K:=C.mul (C.mul (C.pow (r 0) m.1) (C.pow (r 1) m.2.1)) (C.mul (C.pow (r 2) m.2.2.1) (C.pow (r 3) m.2.2.2))
def sumL:List Mn->K
 | []=>C.zero
 | m::l=>C.add (m.val C r) (sumL l)
theorem val_mul(m n:Mn):(m.mul n).val C r=C.mul (m.val C r) (n.val C r):=by
 unfold Mn.val Mn.mul;simp only[C.pow_add];rw[C.mul4 (C.pow (r 0) m.1),C.mul4 (C.pow (r 2) m.2.2.1),C.mul4 (C.mul (C.pow (r 0) m.1) (C.pow (r 1) m.2.1))]
theorem sumL_append(p q:List Mn):sumL C r (p++q)=C.add (sumL C r p) (sumL C r q):=by
 induction p with
 | nil=>exact(C.zero_add _).symm
 | cons m p ih=>rw[List.cons_append,sumL,sumL,ih,C.add_assoc]
theorem sumL_map(m:Mn)(q:List Mn):sumL C r (q.map (Mn.mul m))=C.mul (m.val C r) (sumL C r q):=by
 induction q with
 | nil=>exact(C.mul_zero _).symm
 | cons n q ih=>rw[List.map_cons,sumL,sumL,ih,val_mul,C.mul_add]
theorem sumL_mul(p q:List Mn):sumL C r (mulL p q)=C.mul (sumL C r p) (sumL C r q):=by
 induction p with
 | nil=>exact(C.zero_mul _).symm
 | cons m p ih =>
  show sumL C r (q.map (Mn.mul m)++mulL p q)=_;rw[sumL_append,sumL_map,ih,sumL,C.add_mul]
theorem sumL_perm{p q:List Mn}(h:p.Perm q):sumL C r p=sumL C r q:=by
 induction h with
 | nil=>rfl
 | cons m _ ih=>rw[sumL,sumL,ih]
 | swap m n l=>rw[sumL,sumL,sumL,sumL,C.add_left]
 | trans _ _ h1 h2=>rw[h1,h2]
theorem kval_one:Mn.val C r (0,0,0,0)=C.one:=by
 unfold Mn.val CRing.pow;rw[C.mul_one,C.mul_one]
theorem sum_nat(n:Nat):sumL C r (List.replicate n (0,0,0,0))=C.nat n:=by
 induction n with
 | zero=>rfl
 | succ n ih=>rw[List.replicate_succ,sumL,ih,kval_one,CRing.nat,C.add_comm]
theorem val_var(i:Nat):sumL C r [Mn.var i]=(Ex.v i).eval C r:=by
 rw[sumL,sumL,C.add_zero]
 match i with
 | 0=>unfold Mn.val Mn.var Ex.eval;simp only[CRing.pow,C.mul_one,C.one_mul]
 | 1=>unfold Mn.val Mn.var Ex.eval;simp only[CRing.pow,C.mul_one,C.one_mul]
 | 2=>unfold Mn.val Mn.var Ex.eval;simp only[CRing.pow,C.mul_one,C.one_mul]
 | _+3=>unfold Mn.val Mn.var Ex.eval;simp only[CRing.pow,C.mul_one,C.one_mul]
theorem eval_pm(e:Ex):C.add (e.eval C r) (sumL C r e.pm.2)=sumL C r e.pm.1:=by
 induction e with
 | v i=>rw[Ex.pm,val_var];exact C.add_zero _
 | k n=>rw[Ex.pm,sum_nat];exact C.add_zero _
 | add a b iha ihb=>rw[Ex.pm,Ex.eval,sumL_append,sumL_append,C.swap4,iha,ihb]
 | sub a b iha ihb =>
  rw[Ex.pm,Ex.eval,sumL_append,sumL_append];rw[<- iha,<- ihb,<- C.add_assoc,<- C.add_assoc];congr 1;rw[C.add_assoc,C.add_comm (sumL C r a.pm.2) (b.eval C r),<- C.add_assoc,C.sub_add]
 | mul a b iha ihb =>
  rw[Ex.pm,Ex.eval,sumL_append,sumL_append,sumL_mul,sumL_mul,sumL_mul,sumL_mul];rw[<- iha,<- ihb];generalize a.eval C r=x;generalize b.eval C r=y;generalize sumL C r a.pm.2=s;generalize sumL C r b.pm.2=t;simp only[C.mul_add,C.add_mul,C.add_assoc];congr 1;rw[C.add_comm (C.mul s t) (C.add (C.mul s y) (C.mul s t)),C.add_assoc,C.add_left]
end
def powL(B:Nat):List Nat->Nat
 | []=>0
 | c::l=>B^c+powL B l
theorem powL_split(B:Nat)(l:List Nat):powL B l=l.count 0+B*powL B ((l.filter (·≠0)).map Nat.pred):=by
 induction l with
 | nil=>rfl
 | cons c l ih =>
  cases c with
  | zero =>
   rw[powL,ih,List.count_cons_self,List.filter_cons_of_neg (by simp)];simp only[Nat.pow_zero];omega
  | succ c =>
   rw[powL,ih,List.count_cons_of_ne (by simp),List.filter_cons_of_pos (by simp),List.map_cons,powL,Nat.pow_succ,Nat.pred_succ,Nat.mul_add,Nat.mul_comm (B^c) B];omega
theorem count_succ(l:List Nat)(c:Nat):l.count (c+1)=((l.filter (·≠0)).map Nat.pred).count c:=by
 induction l with
 | nil=>rfl
 | cons d l ih =>
  cases d with
  | zero=>rw[List.count_cons_of_ne (by simp),List.filter_cons_of_neg (by simp),ih]
  | succ d =>
   rw[List.filter_cons_of_pos (by simp),List.map_cons,Nat.pred_succ];by_cases e:d=c
   ·subst e
    rw[List.count_cons_self,List.count_cons_self,ih]
   ·rw[List.count_cons_of_ne (by omega),List.count_cons_of_ne (by omega),ih]
theorem len_le(l:List Nat):((l.filter (·≠0)).map Nat.pred).length<=l.length:=by
 rw[List.length_map];exact List.length_filter_le _ _
theorem powL_inj{B:Nat}:∀(c:Nat) (p q:List Nat),p.length<B->q.length<B->powL B p=powL B q->p.count c=q.count c:=by
 intro c
 induction c with
 | zero =>
  intro p q hp hq h;rw[powL_split B p,powL_split B q]at h;have h1:=congrArg (·%B) h;simp only[Nat.add_mul_mod_self_left]at h1;rwa [Nat.mod_eq_of_lt (Nat.lt_of_le_of_lt List.count_le_length hp),Nat.mod_eq_of_lt (Nat.lt_of_le_of_lt List.count_le_length hq)]at h1
 | succ c ih =>
  intro p q hp hq h;have h0:p.count 0=q.count 0:=by
   have h2:=h;rw[powL_split B p,powL_split B q]at h2;have h1:=congrArg (·%B) h2;simp only[Nat.add_mul_mod_self_left]at h1;rwa [Nat.mod_eq_of_lt (Nat.lt_of_le_of_lt List.count_le_length hp),Nat.mod_eq_of_lt (Nat.lt_of_le_of_lt List.count_le_length hq)]at h1
  rw[count_succ,count_succ];refine ih _ _ (Nat.lt_of_le_of_lt (len_le p) hp) (Nat.lt_of_le_of_lt (len_le q) hq) ?_;rw[powL_split B p,powL_split B q,h0]at h;exact Nat.eq_of_mul_eq_mul_left (by omega) (Nat.add_left_cancel h)
def Mn.code(d:Mn)(m:Mn):Nat:=m.1+(d.1+1)*(m.2.1+(d.2.1+1)*(m.2.2.1+(d.2.2.1+1)*m.2.2.2))
def Mn.back(d:Mn)(c:Nat):Mn:=(c%(d.1+1),c / (d.1+1)%(d.2.1+1),c / (d.1+1) / (d.2.1+1)%(d.2.2.1+1),c / (d.1+1) / (d.2.1+1) / (d.2.2.1+1))
def Mn.le(m d:Mn):Prop:=m.1<=d.1/\m.2.1<=d.2.1/\m.2.2.1<=d.2.2.1/\m.2.2.2<=d.2.2.2
theorem back_code{m d:Mn}(h:m.le d):Mn.back d (Mn.code d m)=m:=by
 obtain⟨h1,h2,h3,-⟩:=h;have dm:∀ a n q:Nat,a<=n->(a+(n+1)*q)%(n+1)=a/\(a+(n+1)*q) / (n+1)=q:=fun a n q ha=>⟨by rw[Nat.add_mul_mod_self_left,Nat.mod_eq_of_lt (by omega)],by rw[Nat.add_mul_div_left _ _ (by omega),Nat.div_eq_of_lt (by omega),Nat.zero_add]⟩
 unfold Mn.back Mn.code;rw[(dm _ _ _ h1).1,(dm _ _ _ h1).2,(dm _ _ _ h2).1,(dm _ _ _ h2).2,(dm _ _ _ h3).1,(dm _ _ _ h3).2]
theorem perm_of_codes{B:Nat}{d:Mn}{p q:List Mn}(hp:∀ m∈p,m.le d)(hq:∀ m∈q,m.le d)(lp:p.length<B)(lq:q.length<B)(h:powL B (p.map (Mn.code d))=powL B (q.map (Mn.code d))):p.Perm q:=by
 have hc:(p.map (Mn.code d)).Perm (q.map (Mn.code d)):=List.perm_iff_count.2 fun c=>powL_inj c _ _ (by rw[List.length_map];exact lp) (by rw[List.length_map];exact lq) h;have h2:=hc.map (Mn.back d);have key:∀ l:List Mn,(∀ m∈l,m.le d)->(l.map (Mn.code d)).map (Mn.back d)=l:=fun l hl=>by
  rw[List.map_map]
  conv=>rhs;rw[<- List.map_id l]
  exact List.map_congr_left fun m hm=>back_code (hl m hm)
 rwa [key p hp,key q hq]at h2
theorem mem_mulL{p q:List Mn}{m:Mn}(h:m∈mulL p q):∃ x∈p,∃ y∈q,m=x.mul y:=by
 unfold mulL at h;rw[List.mem_flatMap]at h;obtain⟨x,hx,h⟩:=h;rw[List.mem_map]at h;obtain⟨y,hy,h⟩:=h;exact⟨x,hx,y,hy,h.symm⟩
theorem len_mulL(p q:List Mn):(mulL p q).length=p.length*q.length:=by
 unfold mulL
 induction p with
 | nil=>simp
 | cons m p ih=>rw[List.flatMap_cons,List.length_append,ih,List.length_map,List.length_cons,Nat.succ_mul,Nat.add_comm]
theorem le_mul{x y d e:Mn}(h1:x.le d)(h2:y.le e):(x.mul y).le (d.mul e):=⟨Nat.add_le_add h1.1 h2.1,Nat.add_le_add h1.2.1 h2.2.1,Nat.add_le_add h1.2.2.1 h2.2.2.1,Nat.add_le_add h1.2.2.2 h2.2.2.2⟩
theorem pm_len(e:Ex):e.pm.1.length+e.pm.2.length=e.norm:=by
 induction e with
 | v i=>rfl
 | k n=>simp[Ex.pm,Ex.norm]
 | add a b iha ihb=>simp only[Ex.pm,Ex.norm,List.length_append];omega
 | sub a b iha ihb=>simp only[Ex.pm,Ex.norm,List.length_append];omega
 | mul a b iha ihb =>
  simp only[Ex.pm,Ex.norm,List.length_append,len_mulL];rw[<- iha,<- ihb,Nat.add_mul,Nat.mul_add,Nat.mul_add];omega
theorem nd_add(p q:Nat × Mn):(ndAdd p q).1=p.1+q.1:=by
 unfold ndAdd;by_cases h:p.1=0
 ·rw[if_pos h,h,Nat.zero_add]
 ·rw[if_neg h]
  by_cases h2:q.1=0
  ·rw[if_pos h2,h2,Nat.add_zero]
  ·rw[if_neg h2]
theorem nd_mul(p q:Nat × Mn):(ndMul p q).1=p.1*q.1:=by
 unfold ndMul;by_cases h:p.1=0
 ·rw[if_pos h,h,Nat.zero_mul]
 ·rw[if_neg h]
  by_cases h2:q.1=0
  ·rw[if_pos h2,h2,Nat.mul_zero]
  ·rw[if_neg h2]
theorem nd_norm(e:Ex):e.nd.1=e.norm:=by
 induction e with
 | v i=>rfl
 | k n=>rfl
 | add a b iha ihb=>rw[Ex.nd,nd_add,iha,ihb];rfl
 | sub a b iha ihb=>rw[Ex.nd,nd_add,iha,ihb];rfl
 | mul a b iha ihb=>rw[Ex.nd,nd_mul,iha,ihb];rfl
theorem pm_none{e:Ex}(h:e.nd.1=0):e.pm.1=[]/\e.pm.2=[]:=by
 have h1:=pm_len e;rw[<- nd_norm,h]at h1;exact⟨List.length_eq_zero_iff.1 (by omega),List.length_eq_zero_iff.1 (by omega)⟩
theorem le_left{a b m:Mn}(h:m.le a):m.le (degMax a b):=⟨Nat.le_trans h.1 (Nat.le_max_left _ _),Nat.le_trans h.2.1 (Nat.le_max_left _ _),Nat.le_trans h.2.2.1 (Nat.le_max_left _ _),Nat.le_trans h.2.2.2 (Nat.le_max_left _ _)⟩
theorem le_right{a b m:Mn}(h:m.le b):m.le (degMax a b):=⟨Nat.le_trans h.1 (Nat.le_max_right _ _),Nat.le_trans h.2.1 (Nat.le_max_right _ _),Nat.le_trans h.2.2.1 (Nat.le_max_right _ _),Nat.le_trans h.2.2.2 (Nat.le_max_right _ _)⟩
theorem nd_le{a b:Ex}{m:Mn}(ha:(∀ m∈a.pm.1,m.le a.nd.2)/\∀ m∈a.pm.2,m.le a.nd.2)(hb:(∀ m∈b.pm.1,m.le b.nd.2)/\∀ m∈b.pm.2,m.le b.nd.2)(h:(m∈a.pm.1\/m∈a.pm.2)\/(m∈b.pm.1\/m∈b.pm.2)):m.le (ndAdd a.nd b.nd).2:=by
 unfold ndAdd;by_cases h1:a.nd.1=0
 ·rw[if_pos h1]
  rw[(pm_none h1).1,(pm_none h1).2]at h;rcases h with(h | h) | h | h
  ·cases h
  ·cases h
  ·exact hb.1 m h
  ·exact hb.2 m h
 ·rw[if_neg h1]
  by_cases h2:b.nd.1=0
  ·rw[if_pos h2]
   rw[(pm_none h2).1,(pm_none h2).2]at h;rcases h with(h | h) | h | h
   ·exact ha.1 m h
   ·exact ha.2 m h
   ·cases h
   ·cases h
  ·rw[if_neg h2]
   rcases h with(h | h) | h | h
   ·exact le_left (ha.1 m h)
   ·exact le_left (ha.2 m h)
   ·exact le_right (hb.1 m h)
   ·exact le_right (hb.2 m h)
theorem pm_deg(e:Ex):(∀ m∈e.pm.1,m.le e.nd.2)/\∀ m∈e.pm.2,m.le e.nd.2:=by
 induction e with
 | v i =>
  refine⟨fun m hm=>?_,fun m hm=>by cases hm⟩;have:m=Mn.var i:=by simpa[Ex.pm]using hm
  subst this;exact⟨Nat.le_refl _,Nat.le_refl _,Nat.le_refl _,Nat.le_refl _⟩
 | k n =>
  refine⟨fun m hm=>?_,fun m hm=>by cases hm⟩;have:m=(0,0,0,0):=List.eq_of_mem_replicate hm;subst this;exact⟨Nat.le_refl _,Nat.le_refl _,Nat.le_refl _,Nat.le_refl _⟩
 | add a b iha ihb =>
  exact⟨fun m hm=>nd_le iha ihb ((List.mem_append.1 hm).imp .inl .inl),fun m hm=>nd_le iha ihb ((List.mem_append.1 hm).imp .inr .inr)⟩
 | sub a b iha ihb =>
  exact⟨fun m hm=>nd_le iha ihb ((List.mem_append.1 hm).imp .inl .inr),fun m hm=>nd_le iha ihb ((List.mem_append.1 hm).imp .inr .inl)⟩
 | mul a b iha ihb =>
  have M:∀ {p q:List Mn} {m:Mn},(p=a.pm.1\/p=a.pm.2)->(q=b.pm.1\/q=b.pm.2)->m∈mulL p q->m.le (Ex.mul a b).nd.2:=fun {p q m} hp hq h=>by
   obtain⟨x,hx,y,hy,rfl⟩:=mem_mulL h;have n1:¬a.nd.1=0:=fun e=>by
    rcases hp with rfl | rfl
    ·rw[(pm_none e).1]at hx;cases hx
    ·rw[(pm_none e).2]at hx;cases hx
   have n2:¬b.nd.1=0:=fun e=>by
    rcases hq with rfl | rfl
    ·rw[(pm_none e).1]at hy;cases hy
    ·rw[(pm_none e).2]at hy;cases hy
   show(x.mul y).le (ndMul a.nd b.nd).2;unfold ndMul;rw[if_neg n1,if_neg n2];refine le_mul ?_ ?_
   ·rcases hp with rfl | rfl
    ·exact iha.1 x hx
    ·exact iha.2 x hx
   ·rcases hq with rfl | rfl
    ·exact ihb.1 y hy
    ·exact ihb.2 y hy
  exact⟨fun m hm=>(List.mem_append.1 hm).elim (M (.inl rfl) (.inl rfl)) (M (.inr rfl) (.inr rfl)),fun m hm=>(List.mem_append.1 hm).elim (M (.inl rfl) (.inr rfl)) (M (.inr rfl) (.inl rfl))⟩
def intRing:CRing Int:=⟨(·+·),(·*·),(- ·),0,1,Int.add_assoc,Int.add_comm,Int.add_zero,Int.add_right_neg,Int.mul_assoc,Int.mul_comm,Int.mul_one,Int.mul_add⟩
theorem int_pow(a n:Nat):intRing.pow (a:Int) n=((a^n:Nat):Int):=by
 induction n with
 | zero=>rfl
 | succ n ih=>rw[CRing.pow,ih,Nat.pow_succ,Int.natCast_mul];rfl
def kp(B:Nat)(d:Mn):Nat->Int
 | 0=>(B:Nat)
 | 1=>((B^(d.1+1):Nat):Int)
 | 2=>((B^((d.1+1)*(d.2.1+1)):Nat):Int)
 | _=>((B^((d.1+1)*((d.2.1+1)*(d.2.2.1+1))):Nat):Int)
theorem val_kp(B:Nat)(d m:Mn):m.val intRing (kp B d)=((B^Mn.code d m:Nat):Int):=by
 show intRing.mul (intRing.mul (intRing.pow ((B:Nat):Int) m.1) (intRing.pow ((B^(d.1+1):Nat):Int) m.2.1)) (intRing.mul (intRing.pow ((B^((d.1+1)*(d.2.1+1)):Nat):Int) m.2.2.1) (intRing.pow ((B^((d.1+1)*((d.2.1+1)*(d.2.2.1+1))):Nat):Int) m.2.2.2))=_;rw[int_pow,int_pow,int_pow,int_pow];show((_:Nat):Int)*((_:Nat):Int)*(((_:Nat):Int)*((_:Nat):Int))=_;rw[<- Int.natCast_mul,<- Int.natCast_mul,<- Int.natCast_mul,<- Nat.pow_mul,<- Nat.pow_mul,<- Nat.pow_mul,<- Nat.pow_add,<- Nat.pow_add,<- Nat.pow_add];congr 2;unfold Mn.code;generalize d.1+1=x;generalize d.2.1+1=y;generalize d.2.2.1+1=z;simp only[Nat.mul_add,Nat.mul_assoc,Nat.add_assoc]
theorem sum_kp(B:Nat)(d:Mn)(l:List Mn):sumL intRing (kp B d) l=((powL B (l.map (Mn.code d)):Nat):Int):=by
 induction l with
 | nil=>rfl
 | cons m l ih=>rw[sumL,ih,val_kp,List.map_cons,powL,Int.natCast_add];rfl
theorem kron{K:Type}(C:CRing K)(r:Nat->K)(B:Nat)(d:Mn)(e:Ex)(hd:e.nd.2.le d)(hn:e.nd.1<B)(h0:e.eval intRing (kp B d)=0):e.eval C r=C.zero:=by
 have h1:=eval_pm intRing (kp B d) e;rw[h0,sum_kp,sum_kp]at h1;have h2:powL B (e.pm.1.map (Mn.code d))=powL B (e.pm.2.map (Mn.code d)):=by
  have h3:(0:Int)+_=_:=h1;rw[Int.zero_add]at h3;exact(Int.ofNat.inj h3).symm
 have hl:=pm_len e;rw[<- nd_norm]at hl;have tr:∀ {m:Mn},m.le e.nd.2->m.le d:=fun h=>⟨Nat.le_trans h.1 hd.1,Nat.le_trans h.2.1 hd.2.1,Nat.le_trans h.2.2.1 hd.2.2.1,Nat.le_trans h.2.2.2 hd.2.2.2⟩
 have hp:=perm_of_codes (fun m hm=>tr ((pm_deg e).1 m hm)) (fun m hm=>tr ((pm_deg e).2 m hm)) (by omega) (by omega) h2;have h4:=eval_pm C r e;rw[sumL_perm C r hp]at h4;exact C.add_cancel (h4.trans (C.zero_add _).symm)
namespace CRing
variable {K:Type} (C:CRing K)
instance addA:Std.Associative C.add:=⟨C.add_assoc⟩
instance addC:Std.Commutative C.add:=⟨C.add_comm⟩
instance mulA:Std.Associative C.mul:=⟨C.mul_assoc⟩
instance mulC:Std.Commutative C.mul:=⟨C.mul_comm⟩
theorem neg_mul(a b:K):C.mul (C.neg a) b=C.neg (C.mul a b):=by rw[C.mul_comm,C.mul_neg,C.mul_comm]
theorem neg_neg(a:K):C.neg (C.neg a)=a:=by
 apply C.add_cancel (c:=C.neg a);rw[C.add_comm,C.add_neg,C.add_neg]
def ext2(d:K):CRing (K × K) where
 add a b:=(C.add a.1 b.1,C.add a.2 b.2)
 mul a b:=(C.add (C.mul a.1 b.1) (C.mul d (C.mul a.2 b.2)),C.add (C.mul a.1 b.2) (C.mul a.2 b.1))
 neg a:=(C.neg a.1,C.neg a.2)
 zero:=(C.zero,C.zero)
 one:=(C.one,C.zero)
 add_assoc a b c:=Prod.ext (C.add_assoc _ _ _) (C.add_assoc _ _ _)
 add_comm a b:=Prod.ext (C.add_comm _ _) (C.add_comm _ _)
 add_zero a:=Prod.ext (C.add_zero _) (C.add_zero _)
 add_neg a:=Prod.ext (C.add_neg _) (C.add_neg _)
 mul_assoc a b c:=Prod.ext (by dsimp only;simp only[C.mul_add,C.add_mul];ac_rfl) (by dsimp only;simp only[C.mul_add,C.add_mul];ac_rfl)
 mul_comm a b:=Prod.ext (by dsimp only;ac_rfl) (by dsimp only;ac_rfl)
 mul_one a:=Prod.ext (by dsimp only;simp only[C.mul_zero,C.mul_one,C.add_zero]) (by dsimp only;simp only[C.mul_zero,C.mul_one,C.zero_add])
 mul_add a b c:=Prod.ext (by dsimp only;simp only[C.mul_add];ac_rfl) (by dsimp only;simp only[C.mul_add];ac_rfl)
end CRing
def qops{R:Type}(O:Ops R)(c:R):Ops (R × R) :=
 ⟨fun p q=>(O.add p.1 q.1,O.add p.2 q.2),fun p q=>(O.add (O.mul p.1 q.1) (O.mul (O.mul p.2 q.2) c),O.add (O.mul p.1 q.2) (O.mul p.2 q.1)),fun p q=>(O.sub p.1 q.1,O.sub p.2 q.2)⟩
abbrev T8(R:Type):=((R × R) × (R × R)) × ((R × R) × (R × R))
def tops{R:Type}(O:Ops R)(z c1 c2 c3:R):Ops (T8 R):=qops (qops (qops O c1) (c2,z)) ((c3,z),(z,z))
def emb{R:Type}(z x:R):T8 R:=(((x,z),(z,z)),((z,z),(z,z)))
def yy1{R:Type}(z o:R):T8 R:=(((z,o),(z,z)),((z,z),(z,z)))
def yy2{R:Type}(z o:R):T8 R:=(((z,z),(o,z)),((z,z),(z,z)))
def yy3{R:Type}(z o:R):T8 R:=(((z,z),(z,z)),((o,z),(z,z)))
def cadd{R:Type}(O:Ops R)(t:R)(p q:R × R × R):R × R × R :=
 let a:=O.mul p.1 q.1
 let b:=O.mul p.2.1 q.2.1
 let c:=O.mul t (O.mul p.2.2 q.2.2)
 let d:=O.add (O.mul p.1 q.2.1) (O.mul q.1 p.2.1)
 let e:=O.add (O.mul p.2.1 q.2.2) (O.mul q.2.1 p.2.2)
 let f:=O.mul t (O.add (O.mul p.1 q.2.2) (O.mul q.1 p.2.2))
 let g:=O.add a (O.add a a)
 let m:=O.sub b c
 let n:=O.add b c
 (O.sub (O.mul d m) (O.mul e f),O.add (O.mul n m) (O.mul g f),O.add (O.mul e n) (O.mul g d))
structure Hom {R S:Type} (O:Ops R) (P:Ops S) (f:R->S):Prop where
 add:∀ a b,f (O.add a b)=P.add (f a) (f b)
 mul:∀ a b,f (O.mul a b)=P.mul (f a) (f b)
 sub:∀ a b,f (O.sub a b)=P.sub (f a) (f b)
def map3{R S:Type}(f:R->S)(p:R × R × R):S × S × S:=(f p.1,f p.2.1,f p.2.2)
theorem cadd_map{R S:Type}{O:Ops R}{P:Ops S}{f:R->S}(h:Hom O P f)(t:R)(p q:R × R × R):map3 f (cadd O t p q)=cadd P (f t) (map3 f p) (map3 f q):=by
 simp only[cadd,map3,h.add,h.mul,h.sub]
def map2{R S:Type}(f:R->S)(p:R × R):S × S:=(f p.1,f p.2)
theorem qops_map{R S:Type}{O:Ops R}{P:Ops S}{f:R->S}(h:Hom O P f)(c:R):Hom (qops O c) (qops P (f c)) (map2 f):=by
 constructor <;> intro a b <;> simp only[qops,map2,h.add,h.mul,h.sub]
def map8{R S:Type}(f:R->S):T8 R->T8 S:=map2 (map2 (map2 f))
theorem tops_map{R S:Type}{O:Ops R}{P:Ops S}{f:R->S}(h:Hom O P f)(z c1 c2 c3:R):Hom (tops O z c1 c2 c3) (tops P (f z) (f c1) (f c2) (f c3)) (map8 f) :=
 qops_map (qops_map (qops_map h c1) (c2,z)) ((c3,z),(z,z))
def cub{R:Type}(O:Ops R)(x b:R):R:=O.add (O.mul (O.mul x x) x) b
def topsC{R:Type}(O:Ops R)(z x1 x2 x3 b:R):Ops (T8 R):=tops O z (cub O x1 b) (cub O x2 b) (cub O x3 b)
def cross{R:Type}(O:Ops R)(l r:R × R × R):R × R:=(O.sub (O.mul l.1 r.2.2) (O.mul r.1 l.2.2),O.sub (O.mul l.2.1 r.2.2) (O.mul r.2.1 l.2.2))
theorem cross_map{R S:Type}{O:Ops R}{P:Ops S}{f:R->S}(h:Hom O P f)(l r:R × R × R):map2 f (cross O l r)=cross P (map3 f l) (map3 f r):=by
 simp only[cross,map2,map3,h.mul,h.sub]
def assocD{R:Type}(O:Ops R)(t:R)(p q r:R × R × R):R × R:=cross O (cadd O t (cadd O t p q) r) (cadd O t p (cadd O t q r))
theorem assocD_map{R S:Type}{O:Ops R}{P:Ops S}{f:R->S}(h:Hom O P f)(t:R)(p q r:R × R × R):map2 f (assocD O t p q r)=assocD P (f t) (map3 f p) (map3 f q) (map3 f r):=by
 unfold assocD;rw[cross_map h,cadd_map h,cadd_map h,cadd_map h,cadd_map h]
def assocT{R:Type}(O:Ops R)(z o x1 x2 x3 b:R):T8 R × T8 R :=
 assocD (topsC O z x1 x2 x3 b) (emb z (O.add b (O.add b b))) (emb z x1,yy1 z o,emb z o) (emb z x2,yy2 z o,emb z o) (emb z x3,yy3 z o,emb z o)
theorem assocT_map{R S:Type}{O:Ops R}{P:Ops S}{f:R->S}(h:Hom O P f)(z o x1 x2 x3 b:R):map2 (map8 f) (assocT O z o x1 x2 x3 b)=assocT P (f z) (f o) (f x1) (f x2) (f x3) (f b):=by
 unfold assocT topsC;have hc:∀ x,f (cub O x b)=cub P (f x) (f b):=fun x=>by simp only[cub,h.add,h.mul]
 rw[assocD_map (tops_map h _ _ _ _),hc,hc,hc];simp only[map3,emb,yy1,yy2,yy3,map8,map2,h.add]
def all8{R:Type}(p:R->Prop)(t:T8 R):Prop:=p t.1.1.1/\p t.1.1.2/\p t.1.2.1/\p t.1.2.2/\p t.2.1.1/\p t.2.1.2/\p t.2.2.1/\p t.2.2.2
def exD:T8 Ex × T8 Ex:=assocT Ex.ops (.k 0) (.k 1) (.v 0) (.v 1) (.v 2) (.v 3)
def ndOps:Ops (Nat × Mn):=⟨ndAdd,ndMul,ndAdd⟩
theorem hom_nd:Hom Ex.ops ndOps Ex.nd:=⟨fun _ _=>rfl,fun _ _=>rfl,fun _ _=>rfl⟩
theorem hom_eval{K:Type}(C:CRing K)(r:Nat->K):Hom Ex.ops C.ops (Ex.eval C r):=⟨fun _ _=>rfl,fun _ _=>rfl,fun _ _=>rfl⟩
def small(d:Mn)(B:Nat)(x:Nat × Mn):Prop:=x.1=0\/(x.1<B/\x.2.le d)
instance (d:Mn) (B:Nat) (x:Nat × Mn):Decidable (small d B x):=by unfold small Mn.le;exact inferInstance
instance {R:Type} (p:R->Prop) [DecidablePred p] (t:T8 R):Decidable (all8 p t):=by unfold all8;exact inferInstance
def dA:Mn:=(9,12,9,9)
theorem assoc_small:let t:=assocT ndOps (0,0,0,0,0) (1,0,0,0,0) (1,Mn.var 0) (1,Mn.var 1) (1,Mn.var 2) (1,Mn.var 3)
  all8 (small dA (2^28)) t.1/\all8 (small dA (2^28)) t.2:=by decide +kernel
theorem assoc_nought:let t:=assocT intRing.ops 0 1 (kp (2^28) dA 0) (kp (2^28) dA 1) (kp (2^28) dA 2) (kp (2^28) dA 3)
  all8 (fun x=>x=0) t.1/\all8 (fun x=>x=0) t.2:=by decide +kernel
theorem kron_small{K:Type}(C:CRing K)(r:Nat->K)(B:Nat)(d:Mn)(e:Ex)(h:small d B e.nd)(h0:e.eval intRing (kp B d)=0):e.eval C r=C.zero:=by
 rcases h with h | h
 ·have h1:=eval_pm C r e
  rw[(pm_none h).1,(pm_none h).2]at h1;exact(C.add_zero _).symm.trans h1
 ·exact kron C r B d e h.2 h.1 h0
theorem Hom.comp{R S T:Type}{O:Ops R}{P:Ops S}{Q:Ops T}{f:R->S}{g:S->T}(hg:Hom P Q g)(hf:Hom O P f):Hom O Q fun x=>g (f x) :=
 ⟨fun a b=>by rw[hf.add,hg.add],fun a b=>by rw[hf.mul,hg.mul],fun a b=>by rw[hf.sub,hg.sub]⟩
section
variable {K:Type} (C:CRing K)
def ev2(y:K)(p:K × K):K:=C.add p.1 (C.mul p.2 y)
theorem neg_add(a b:K):C.neg (C.add a b)=C.add (C.neg a) (C.neg b):=by
 apply C.add_cancel (c:=C.add a b);rw[C.add_comm (C.neg (C.add a b)),C.add_neg,C.swap4,C.add_comm (C.neg a),C.add_neg,C.add_comm (C.neg b),C.add_neg,C.add_zero]
theorem sub_mul(a b c:K):C.mul (C.sub a b) c=C.sub (C.mul a c) (C.mul b c):=by rw[C.mul_comm,C.mul_sub,C.mul_comm c a,C.mul_comm c b]
theorem ev2_hom{y c:K}(h:C.mul y y=c):Hom (qops C.ops c) C.ops (ev2 C y):=by
 constructor
 ·intro a b
  show C.add (C.add a.1 b.1) (C.mul (C.add a.2 b.2) y)=C.add (C.add a.1 (C.mul a.2 y)) (C.add b.1 (C.mul b.2 y));rw[C.add_mul,C.swap4]
 ·intro a b
  show C.add (C.add (C.mul a.1 b.1) (C.mul (C.mul a.2 b.2) c)) (C.mul (C.add (C.mul a.1 b.2) (C.mul a.2 b.1)) y)=C.mul (C.add a.1 (C.mul a.2 y)) (C.add b.1 (C.mul b.2 y));rw[<- h,C.mul_add,C.add_mul,C.add_mul,C.add_mul,<- C.mul4,C.mul_assoc a.1 b.2 y,C.mul_assoc a.2 b.1 y,C.mul_assoc a.2 y b.1,C.mul_comm y b.1];rw[C.add_comm (C.mul a.1 (C.mul b.2 y)),C.swap4,C.add_comm (C.mul (C.mul a.2 y) (C.mul b.2 y))]
 ·intro a b
  show C.add (C.sub a.1 b.1) (C.mul (C.sub a.2 b.2) y)=C.sub (C.add a.1 (C.mul a.2 y)) (C.add b.1 (C.mul b.2 y));rw[sub_mul];unfold CRing.sub;rw[neg_add,C.swap4]
def ev8(y1 y2 y3:K)(t:T8 K):K:=ev2 C y3 (map2 (ev2 C y2) (map2 (map2 (ev2 C y1)) t))
theorem ev2_const(y x:K):ev2 C y (x,C.zero)=x:=by unfold ev2;rw[C.zero_mul,C.add_zero]
theorem ev8_hom{y1 y2 y3 c1 c2 c3:K}(h1:C.mul y1 y1=c1)(h2:C.mul y2 y2=c2)(h3:C.mul y3 y3=c3):Hom (tops C.ops C.zero c1 c2 c3) C.ops (ev8 C y1 y2 y3):=by
 have H1:=ev2_hom C h1;have H2:=ev2_hom C h2;have H3:=ev2_hom C h3;have A:=qops_map (qops_map H1 (c2,C.zero)) ((c3,C.zero),(C.zero,C.zero));have e2:ev2 C y1 (c2,C.zero)=c2:=ev2_const C y1 c2;have e3:map2 (ev2 C y1) ((c3,C.zero),(C.zero,C.zero))=(c3,C.zero):=by
  unfold map2;rw[ev2_const,ev2_const]
 rw[e2,e3]at A;have B:=qops_map H2 (c3,C.zero);rw[ev2_const]at B;exact(H3.comp B).comp A
theorem ev8_emb(y1 y2 y3 x:K):ev8 C y1 y2 y3 (emb C.zero x)=x:=by
 unfold ev8 emb map2;simp only[ev2_const]
theorem one_mul'(a:K):C.add C.zero (C.mul C.one a)=a:=by rw[C.one_mul,C.zero_add]
theorem ev8_y1(y1 y2 y3:K):ev8 C y1 y2 y3 (yy1 C.zero C.one)=y1:=by
 unfold ev8 yy1;simp only[map2,ev2,C.zero_mul,C.add_zero,one_mul']
theorem ev8_y2(y1 y2 y3:K):ev8 C y1 y2 y3 (yy2 C.zero C.one)=y2:=by
 unfold ev8 yy2;simp only[map2,ev2,C.zero_mul,C.add_zero,one_mul']
theorem ev8_y3(y1 y2 y3:K):ev8 C y1 y2 y3 (yy3 C.zero C.one)=y3:=by
 unfold ev8 yy3;simp only[map2,ev2,C.zero_mul,C.add_zero,one_mul']
def lets(x1 x2 x3 b:K):Nat->K
 | 0=>x1
 | 1=>x2
 | 2=>x3
 | _=>b
theorem eval_one(r:Nat->K):(Ex.k 1).eval C r=C.one:=C.zero_add _
theorem ev8_nought{d:Mn}{B:Nat}{t:T8 Ex}(r:Nat->K)(y1 y2 y3:K)(hs:all8 (fun e:Ex=>small d B e.nd) t)(h0:all8 (fun e:Ex=>e.eval intRing (kp B d)=0) t):ev8 C y1 y2 y3 (map8 (Ex.eval C r) t)=C.zero:=by
 have k:=fun e h1 h2=>kron_small C r B d e h1 h2;obtain⟨s1,s2,s3,s4,s5,s6,s7,s8⟩:=hs;obtain⟨z1,z2,z3,z4,z5,z6,z7,z8⟩:=h0;unfold ev8 map8;simp only[map2,ev2];rw[k _ s1 z1,k _ s2 z2,k _ s3 z3,k _ s4 z4,k _ s5 z5,k _ s6 z6,k _ s7 z7,k _ s8 z8];simp only[C.zero_mul,C.add_zero]
def OnC(b x y:K):Prop:=C.mul y y=cub C.ops x b
theorem assoc_K{b x1 y1 x2 y2 x3 y3:K}(h1:OnC C b x1 y1)(h2:OnC C b x2 y2)(h3:OnC C b x3 y3) :
  assocD C.ops (C.add b (C.add b b)) (x1,y1,C.one) (x2,y2,C.one) (x3,y3,C.one)=(C.zero,C.zero):=by
 have hE:=ev8_hom C h1 h2 h3;have e:=assocT_map (hom_eval C (lets x1 x2 x3 b)) (.k 0) (.k 1) (.v 0) (.v 1) (.v 2) (.v 3);rw[eval_one]at e;have e':map2 (map8 (Ex.eval C (lets x1 x2 x3 b))) exD=assocT C.ops C.zero C.one x1 x2 x3 b:=e;have f:map2 (ev8 C y1 y2 y3) (assocT C.ops C.zero C.one x1 x2 x3 b)=assocD C.ops (C.add b (C.add b b)) (x1,y1,C.one) (x2,y2,C.one) (x3,y3,C.one):=by
  unfold assocT topsC;rw[assocD_map hE];simp only[map3,ev8_emb,ev8_y1,ev8_y2,ev8_y3];rfl
 rw[<- f,<- e'];have hs:=assoc_small;have hn:=assoc_nought;have es:=assocT_map hom_nd (.k 0) (.k 1) (.v 0) (.v 1) (.v 2) (.v 3);have en:=assocT_map (hom_eval intRing (kp (2^28) dA)) (.k 0) (.k 1) (.v 0) (.v 1) (.v 2) (.v 3);have es':map2 (map8 Ex.nd) exD=assocT ndOps (0,0,0,0,0) (1,0,0,0,0) (1,Mn.var 0) (1,Mn.var 1) (1,Mn.var 2) (1,Mn.var 3):=es;have en':map2 (map8 (Ex.eval intRing (kp (2^28) dA))) exD=assocT intRing.ops 0 1 (kp (2^28) dA 0) (kp (2^28) dA 1) (kp (2^28) dA 2) (kp (2^28) dA 3):=en;simp only at hs hn;rw[<- es']at hs;rw[<- en']at hn;have k:=fun t hs h0=>ev8_nought C (d:=dA) (B:=2^28) (t:=t) (lets x1 x2 x3 b) y1 y2 y3 hs h0;exact Prod.ext (k exD.1 hs.1 hn.1) (k exD.2 hs.2 hn.2)
end
end Go.Proofs.YtadfjjfklihaaaaGreat
