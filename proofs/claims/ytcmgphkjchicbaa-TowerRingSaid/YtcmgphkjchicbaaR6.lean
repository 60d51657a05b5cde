/- Words that lie in blocks: they read as they did behind every call that makes memory; a whole word loaded. (Cut to what is reached, written closely: FMnt · Tie1 · Pw · Eq · Small · Steps · Cells.) -/
import Derived.Laws.Bits64b
import Derived.Test.YtcmgphkjchicbaaR1
import Derived.Test.YtcmgphkjchicbaaR4
import Derived.Laws.Rows
import Derived.Deep.QuietTactic
import Derived.BigQuiet
import Derived.Test.YtcmgphkjchicbaaProg
import Derived.Test.YtcmgphkjchicbaaR3
import Derived.Test.YtcmgphkjchicbaaR2
import Derived.WalkKit
import Derived.WalkSpells
import Derived.WalkLawsBesides
import Derived.LoopN
import Derived.Handy
import Derived.Outline
import Derived.RegionTactic
import Derived.BigRegion
import Derived.Lib.Hide
set_option linter.all false
set_option maxRecDepth 100000
set_option maxHeartbeats 8000000
namespace Go.Proofs.Ytcmgphkjchicbaa
def rinv(m:Nat):Nat:=((m+1) / 2)^256%m
theorem rinv_eq{m:Nat}(ho:m%2=1)(h1:1<m):(2^256)*rinv m%m=1:=by
 unfold rinv;have e:(2^256:Nat)=2^256:=by decide
 rw[e,Nat.mul_mod,Nat.mod_mod,<- Nat.mul_mod,<- Nat.mul_pow,show 2*((m+1) / 2)=m+1 by omega,Nat.pow_mod,Nat.add_mod_left,Nat.mod_eq_of_lt h1,Nat.one_pow,Nat.mod_eq_of_lt h1]
def mnt(m a b:Nat):Nat:=a*b*rinv m%m
theorem mul_mod_l(a b m:Nat):a%m*b%m=a*b%m:=by rw[Nat.mul_mod,Nat.mod_mod,<- Nat.mul_mod]
theorem mul_mod_r(a b m:Nat):a*(b%m)%m=a*b%m:=by rw[Nat.mul_mod,Nat.mod_mod,<- Nat.mul_mod]
theorem mnt_uniq{m r a b:Nat}(ho:m%2=1)(h1:1<m)(hr:r<m)(h:r*2^256%m=a*b%m):r=mnt m a b:=by
 unfold mnt;rw[<- mul_mod_l,<- h,mul_mod_l,Nat.mul_assoc,<- mul_mod_r,rinv_eq ho h1,Nat.mul_one,Nat.mod_eq_of_lt hr]
theorem mnt_back{m:Nat}(ho:m%2=1)(h1:1<m)(a b:Nat):mnt m (a*2^256%m) b=a*b%m:=by
 refine(mnt_uniq ho h1 (Nat.mod_lt _ (by omega)) ?_).symm;rw[mul_mod_l,mul_mod_l,Nat.mul_right_comm]
theorem mnt_scaled{m:Nat}(ho:m%2=1)(h1:1<m)(a:Nat):mnt m a (2^256*2^256%m)=a*2^256%m:=by
 refine(mnt_uniq ho h1 (Nat.mod_lt _ (by omega)) ?_).symm;rw[mul_mod_l,mul_mod_r,Nat.mul_assoc]
theorem mnt_both{m:Nat}(ho:m%2=1)(h1:1<m)(a b:Nat):mnt m (a*2^256%m) (b*2^256%m)=a*b*2^256%m:=by
 rw[mnt_back ho h1,mul_mod_r,Nat.mul_assoc]
/-! What times an odd part is 1 modulo 2^64. -/
def nst(p x:Nat):Nat:=x*((18446744073709551616+2 - p*x%18446744073709551616)%18446744073709551616)%18446744073709551616
def pin(p:Nat):Nat->Nat
 | 0=>p
 | k+1=>nst p (pin p k)
theorem newton{k:Nat}{p x:Int}(h:(2:Int)^k∣1 - p*x):(2:Int)^(k+k)∣1 - p*(x*(2 - p*x)):=by
 obtain⟨t,ht⟩:=h;refine⟨t*t,?_⟩;have e:1 - p*(x*(2 - p*x))=(1 - p*x)*(1 - p*x):=by
  rw[<- Int.mul_assoc];generalize p*x=q;simp only[Int.mul_sub,Int.sub_mul,Int.one_mul,Int.mul_one];omega
 rw[e,ht,Int.pow_add,Int.mul_assoc,Int.mul_left_comm t,<- Int.mul_assoc]
theorem dvd_same{k:Nat}{p x y:Int}(hk:k<=64)(hxy:(2:Int)^64∣x - y)(h:(2:Int)^k∣1 - p*x):(2:Int)^k∣1 - p*y:=by
 have h1:(2:Int)^k∣x - y:=Int.dvd_trans (by obtain⟨j,hj⟩:=Nat.exists_eq_add_of_le hk;rw[hj,Int.pow_add];exact Int.dvd_mul_right _ _) hxy;have h2:1 - p*y=(1 - p*x)+p*(x - y):=by rw[Int.mul_sub];omega
 rw[h2];exact Int.dvd_add h (Int.dvd_trans h1 (Int.dvd_mul_left _ _))
theorem nst_dvd(p x:Nat):(2:Int)^64∣(x:Int)*(2 - p*x) - ((nst p x:Nat):Int):=by
 unfold nst;obtain⟨q,hq⟩:∃ q,p*x=q:=⟨_,rfl⟩
 have hqi:(p:Int)*(x:Int)=(q:Int):=by rw[<- hq];simp
 rw[hq,hqi];obtain⟨u,hu⟩:∃ u,(18446744073709551616+2 - q%18446744073709551616)%18446744073709551616=u:=⟨_,rfl⟩
 rw[hu];have h1:(18446744073709551616:Int)∣(2 - (q:Int)) - (u:Int):=by omega
 have h2:(18446744073709551616:Int)∣((x*u:Nat):Int) - ((x*u%18446744073709551616:Nat):Int):=by omega
 have e:(x:Int)*(2 - (q:Int)) - ((x*u%18446744073709551616:Nat):Int)=(x:Int)*((2 - (q:Int)) - (u:Int))+(((x*u:Nat):Int) - ((x*u%18446744073709551616:Nat):Int)):=by
  rw[Int.mul_sub (x:Int) (2 - (q:Int)) (u:Int)];have:((x*u:Nat):Int)=(x:Int)*(u:Int):=by simp
  omega
 rw[e];exact Int.dvd_add (Int.dvd_trans h1 (Int.dvd_mul_left _ _)) h2
theorem pin_step{k j p:Nat}(n:Nat)(hj:j<=64)(hjk:j<=k+k)(h:(2:Int)^k∣1 - p*(pin p n:Nat)):(2:Int)^j∣1 - (p:Int)*((pin p (n+1):Nat):Int):=by
 refine dvd_same hj (nst_dvd p (pin p n)) ?_;refine Int.dvd_trans ?_ (newton h);obtain⟨i,hi⟩:=Nat.exists_eq_add_of_le hjk;rw[hi,Int.pow_add];exact Int.dvd_mul_right _ _
theorem pin_ok{p:Nat}(ho:p%2=1):(2:Int)^64∣1 - (p:Int)*((pin p 5:Nat):Int):=by
 have h0:(2:Int)^3∣1 - (p:Int)*((pin p 0:Nat):Int):=by
  show(8:Int)∣1 - (p:Int)*(p:Int);have h1:p*p%8=1:=by
   rw[Nat.mul_mod];have:p%8=1\/p%8=3\/p%8=5\/p%8=7:=by omega
   rcases this with e | e | e | e <;> rw[e]
  have h2:(p:Int)*(p:Int)=((p*p:Nat):Int):=by simp
  rw[h2];omega
 have h1:=pin_step (j:=6) 0 (by omega) (by omega) h0;have h2:=pin_step (j:=12) 1 (by omega) (by omega) h1;have h3:=pin_step (j:=24) 2 (by omega) (by omega) h2;have h4:=pin_step (j:=48) 3 (by omega) (by omega) h3;exact pin_step (j:=64) 4 (by omega) (by omega) h4
def nin(m:Nat):Nat:=(18446744073709551616 - pin (m%18446744073709551616) 5)%18446744073709551616
theorem pin_lt(p n:Nat)(hp:p<18446744073709551616):pin p n<18446744073709551616:=by
 cases n with
 | zero=>exact hp
 | succ n=>exact Nat.mod_lt _ (by omega)
theorem nin_ok{m:Nat}(ho:m%2=1)(s:Nat):(s+s*nin m%18446744073709551616*(m%18446744073709551616))%18446744073709551616=0:=by
 have h:=pin_ok (p:=m%18446744073709551616) (by omega);have hlt:=pin_lt (m%18446744073709551616) 5 (Nat.mod_lt _ (by omega));unfold nin;obtain⟨p,hp⟩:∃ p,m%18446744073709551616=p:=⟨_,rfl⟩
 rw[hp]at h hlt |-
 obtain⟨x,hx⟩:∃ x,pin p 5=x:=⟨_,rfl⟩
 rw[hx]at h hlt |-
 have h1:p*x%18446744073709551616=1:=by
  have e:(p:Int)*(x:Int)=((p*x:Nat):Int):=by simp
  rw[e]at h;have h2:(18446744073709551616:Int)∣1 - ((p*x:Nat):Int):=h;omega
 obtain⟨y,hy⟩:∃ y,(18446744073709551616 - x)%18446744073709551616=y:=⟨_,rfl⟩
 rw[hy];have h3:(p*y+1)%18446744073709551616=0:=by
  have hx0:x≠0:=by rintro rfl;simp at h1
  have e:y=18446744073709551616 - x:=by omega
  have h4:p*y+p*x=p*18446744073709551616:=by rw[e,<- Nat.mul_add];congr 1;omega
  omega
 have h4:(s*y%18446744073709551616*p)%18446744073709551616=s*(p*y)%18446744073709551616:=by rw[mul_mod_l,Nat.mul_assoc,Nat.mul_comm y]
 have h5:s*(p*y)+s=s*(p*y+1):=by rw[Nat.mul_add,Nat.mul_one]
 have h6:s*(p*y+1)%18446744073709551616=0:=by rw[Nat.mul_mod,h3,Nat.mul_zero,Nat.zero_mod]
 omega
open Go.RowKit
section
variable {P:Program} {ops:Array Oper} {Q:Exit->Act->World->Prop} {C:(Nat->Value)->World->Prop} {φ:Nat->(Nat->Value)->World->Prop} {R:(Nat->Value)->World->World->Prop} {a0:Act}
def StepU(P:Program)(ops:Array Oper)(Q:Exit->Act->World->Prop)(C:(Nat->Value)->World->Prop)(φ:Nat->(Nat->Value)->World->Prop)(R:(Nat->Value)->World->World->Prop)(k:Nat)(o:Oper)(a:Act)(w:World):Prop :=
 if Region.wanted o (yielded ops a.tmps)then o.wp P a w (fun a' w'=>∃ v,a'=a.put o.dst v/\C (slots (a.put o.dst v)) w'/\φ k (slots (a.put o.dst v)) w'/\R (slots a) w w') Q else (C (slots (a.put o.dst undef)) w/\φ k (slots (a.put o.dst undef)) w)
def StepsU(P:Program)(ops:Array Oper)(Q:Exit->Act->World->Prop)(C:(Nat->Value)->World->Prop)(φ:Nat->(Nat->Value)->World->Prop)(R:(Nat->Value)->World->World->Prop)(a0:Act):Nat->List Oper->Prop
 | _,[]=>True
 | k,o::l=>(∀ a w,C (slots a) w->a.tmps.size=a0.tmps.size->KnownT ops φ a0 o a w->StepU P ops Q C φ R k o a w)/\StepsU P ops Q C φ R a0 (k+1) l
theorem StepsU.at_:∀ {l:List Oper} {k:Nat},StepsU P ops Q C φ R a0 k l->∀(i:Nat) (o:Oper),l[i]?=some o->∀ a w,C (slots a) w->a.tmps.size=a0.tmps.size->KnownT ops φ a0 o a w->StepU P ops Q C φ R (k+i) o a w
 | [],_,_,i,o,hi=>by simp at hi
 | o::l,k,h,0,o',hi=>by simp at hi;subst hi;exact h.1
 | o::l,k,h,i+1,o',hi=>by
  have:=StepsU.at_ h.2 i o' (by simpa using hi);rwa [show k+1+i=k+(i+1) by omega]at this
theorem wpAny_tie2(rd:Nat->List Nat)(rk:Nat->Nat)(hdist:distinctB ops.toList=true)(hlex:rankB ops rk=true)(hon:∀(i:Nat) (o:Oper),ops[i]?=some o->∀ e∈o.after,e.on<ops.size)(hown:ownB ops rd=true)
  (hrd:∀ i s s' w,(∀ t∈rd i,s t=s' t)->φ i s w->φ i s' w)
  (hφ:∀ i s w w',C s w->R s w w'->φ i s w->φ i s w') (hst:StepsU P ops Q C φ R a0 0 ops.toList)
  (hQ:∀(f:Oper->Value) w,C (slots (putAll f ops.toList a0)) w->(∀ i o,ops[i]?=some o->φ i (slots (putAll f ops.toList a0)) w)->Q .normal (putAll f ops.toList a0) w) :
  ∀(fuel:Nat) (listed:Array Bool) (a:Act) (w:World),listed.size=ops.size->listed.toList.count false<=fuel->C (slots a) w->a.tmps.size=a0.tmps.size->a.defers=a0.defers ->
   (∀ t,isDst ops.toList t=false->a.tmps.getD t undef=a0.tmps.getD t undef)->(∀ i o,listed.getD i false=true->ops[i]?=some o->φ i (slots a) w/\∀ e∈o.after,Region.binds .any e=true->listed.getD e.on false=true)->wpAny P .any ops Q fuel listed a w:=by
 have done:∀(listed:Array Bool) (a:Act) (w:World),(∀ i,i<ops.size->listed.getD i false=true)->C (slots a) w->a.tmps.size=a0.tmps.size->a.defers=a0.defers ->
   (∀ t,isDst ops.toList t=false->a.tmps.getD t undef=a0.tmps.getD t undef)->(∀ i o,listed.getD i false=true->ops[i]?=some o->φ i (slots a) w/\∀ e∈o.after,Region.binds .any e=true->listed.getD e.on false=true)->Q .normal a w:=by
  intro listed a w hall hC hs hd hk hp;have hb:=put_back hs hd hk;rw[hb];exact hQ _ w (by rw[<- hb];exact hC) (fun i o ho=>by rw[<- hb];exact(hp i o (hall i (Array.getElem?_eq_some_iff.1 ho).1) ho).1)
 intro fuel
 induction fuel with
 | zero =>
  intro listed a w hsz hc hC hs hd hk hp;have hno:false ∉ listed.toList:=List.count_eq_zero.1 (by omega);have hall:∀ i,i<ops.size->listed.getD i false=true:=fun i hi=>by
   have hlt:i<listed.size:=by omega
   have hm:listed[i]∈listed.toList:=by simp
   simp only[Array.getD_eq_getD_getElem?,hlt,Array.getElem?_eq_getElem,Option.getD_some];cases h:listed[i]with
   | true=>rfl
   | false=>rw[h]at hm;exact absurd hm hno
  refine⟨?_,done listed a w hall hC hs hd hk hp⟩;rw[List.eq_nil_iff_forall_not_mem];intro j hj;obtain⟨h0,o,ho,-⟩:=mem_ready.1 hj;have hlt:=(Array.getElem?_eq_some_iff.1 ho).1;have h1:=hall j hlt;simp[show j<listed.size by omega]at h0 h1;rw[h0]at h1;cases h1
 | succ fuel ih =>
  intro listed a w hsz hc hC hs hd hk hp;refine⟨fun hr=>?_,fun i hi=>?_⟩
  ·refine done listed a w ?_ hC hs hd hk hp
   -- the least that isn't listed would be ready
   have key:∀ r i,rk i<r->i<ops.size->listed.getD i false=true:=by
    intro r
    induction r with
    | zero=>intro i h;omega
    | succ r ihr =>
     intro i hri hi;cases h:listed.getD i false with
     | true=>rfl
     | false =>
      have ho:ops[i]?=some ops[i]:=Array.getElem?_eq_getElem hi;have:i∈Region.ready .any ops listed:=mem_ready.2 ⟨by simpa[show i<listed.size by omega]using h,ops[i],ho,fun e he hb=>by
       have hl:=hlex;unfold rankB at hl;rw[List.all_eq_true]at hl;have:=hl i (by simpa using hi);rw[ho]at this;simp only[Array.all_eq_true_iff_forall_mem]at this;have hlt:=this e he;rw[hb]at hlt;simp at hlt;exact ihr e.on (by omega) (hon i _ ho e he)⟩
      rw[hr]at this;cases this
   exact fun i hi=>key (rk i+1) i (by omega) hi
  ·obtain⟨h0,o,ho,hall⟩:=mem_ready.1 hi
   have hlt:i<ops.size:=(Array.getElem?_eq_some_iff.1 ho).1;have hl':ops.toList[i]?=some o:=by simpa using ho
   have hstep:=hst.at_ i o hl' a w hC hs ⟨hk,fun e he hb oj hj=>(hp e.on oj (by have:=hall e he hb;simpa using this) hj).1⟩;rw[Nat.zero_add]at hstep;have go:∀(v:Value) (w':World),C (slots (a.put o.dst v)) w'->φ i (slots (a.put o.dst v)) w'->(∀ j,φ j (slots a) w->φ j (slots a) w')->wpAny P .any ops Q fuel (listed.setIfInBounds i true) (a.put o.dst v) w':=by
    intro v w' hC' hv hm;refine ih _ _ _ (by simpa using hsz) ?_ hC' (by rw[put_size];exact hs) (by rw[put_defers];exact hd) ?_ ?_
    ·have hil:i<listed.size:=by omega
     have e0:listed[i]=false:=by simpa[hil]using h0
     rw[Array.toList_setIfInBounds,List.count_set (by simpa using hil)];have:listed.toList[i]'(by simpa using hil)=false:=by simpa using e0
     simp only[this];simp;have hpos:0<listed.toList.count false:=List.count_pos_iff.2 (by rw[<- e0];simp);simp at hpos;simp at hc;omega
    ·intro t ht
     have hne:o.dst≠some t:=fun e=>by
      simp only[isDst,List.any_eq_false]at ht;exact ht o (List.mem_of_getElem? hl') (by simp[e])
     rw[put_other _ _ _ _ hne];exact hk t ht
    ·intro j oj hj hoj
     by_cases e:i=j
     ·subst e
      have:oj=o:=Option.some.inj (hoj.symm.trans ho);subst this;refine⟨hv,fun e he hb=>?_⟩;have h1:=hall e he hb;by_cases q:i=e.on
      ·rw[<- q];exact getD_set_same (by omega)
      ·rw[getD_set_ne false q];simpa using h1
     ·rw[getD_set_ne false e]at hj
      obtain⟨h1,h2⟩:=hp j oj hj hoj;refine⟨hrd j _ _ w' (fun t ht=>?_) (hm _ h1),fun e' he hb=>?_⟩
      ·have hne:o.dst≠some t:=fun hd'=>by
        rcases own_spec hown hoj ht with h3 | h3 | ⟨e',he,hb,ok,hok,hkd⟩
        ·exact distinct_spec hdist i j o oj t hl' (by simpa using hoj) e hd' h3
        ·simp only[isDst,List.any_eq_false]at h3
         exact h3 o (List.mem_of_getElem? hl') (by simp[hd'])
        ·have h4:=h2 e' he hb
         have h5:i≠e'.on:=fun q=>by rw[<- q,getD_both h0]at h4;cases h4
         exact distinct_spec hdist i e'.on o ok t hl' (by simpa using hok) h5 hd' hkd
       exact(put_other _ _ _ _ hne).symm
      ·by_cases q:i=e'.on
       ·rw[<- q];exact getD_set_same (by omega)
       ·rw[getD_set_ne false q];exact h2 e' he hb
   unfold wpOp;rw[ho];simp only;unfold StepU at hstep
   split
   ·rename_i hw
    rw[if_pos hw]at hstep;refine .inl (Oper.wp_mono ?_ hstep);rintro a' w' ⟨v,rfl,hC',hv,hR⟩;exact go v w' hC' hv (fun j h=>hφ j _ w w' hC hR h)
   ·rename_i hw
    rw[if_neg hw]at hstep;exact go undef w hstep.1 hstep.2 (fun j h=>h)
theorem region_tie2{id:Nat}{l:List Oper}{w:World}(C:(Nat->Value)->World->Prop)(φ:Nat->(Nat->Value)->World->Prop)(R:(Nat->Value)->World->World->Prop)(rd:Nat->List Nat)(rk:Nat->Nat)(hm:P.follows .mixedOrders=true)
  (hB:(distinctB l&&rankB l.toArray rk&&ownB l.toArray rd&&insideB l.toArray)=true) (hC:C (slots a0) w.drew)
  (hrd:∀ i s s' w,(∀ t∈rd i,s t=s' t)->φ i s w->φ i s' w) (hφ:∀ i s w w',C s w->R s w w'->φ i s w->φ i s w') (hst:StepsU P l.toArray Q C φ R a0 0 l)
  (hQ:∀(f:Oper->Value) w,C (slots (putAll f l a0)) w->(∀ i o,l[i]?=some o->φ i (slots (putAll f l a0)) w)->Q .normal (putAll f l a0) w):(Code.region id l.toArray true).wp P Q a0 w:=by
 simp only[Bool.and_eq_true]at hB;refine wp_region_any hm (wpAny_tie2 (C:=C) (φ:=φ) (R:=R) (a0:=a0) rd rk hB.1.1.1 hB.1.1.2 (inside_spec hB.2) hB.1.2 hrd hφ hst (fun f w hC h=>hQ f w hC (fun i o ho=>h i o (by simpa using ho))) _ _ _ w.drew (by simp) (by simp) hC rfl rfl (fun _ _=>rfl) ?_);intro i o hi;simp at hi;rcases Nat.lt_or_ge i l.length with h | h
 ·simp[h]at hi
 ·simp[Nat.not_lt.2 h]at hi
/-! What each kind of operation must do. -/
theorem uu_val{k:Nat}{o:Oper}{a:Act}{w:World}(v:Value)(hw:Region.wanted o (yielded ops a.tmps)=true)(hr:(execOp a.eval o).run P w=.ok (.value v) w)(hC:C (slots (a.put o.dst v)) w)(hv:φ k (slots (a.put o.dst v)) w)(hR:R (slots a) w w):StepU P ops Q C φ R k o a w:=by
 unfold StepU;rw[if_pos hw];unfold Oper.wp;rw[hr];exact⟨v,rfl,hC,hv,hR⟩
theorem uu_new{k:Nat}{o:Oper}{a:Act}{w w':World}(v:Value)(hw:Region.wanted o (yielded ops a.tmps)=true)(hr:(execOp a.eval o).run P w=.ok (.value v) w')(hC:C (slots (a.put o.dst v)) w')(hv:φ k (slots (a.put o.dst v)) w')(hR:R (slots a) w w'):StepU P ops Q C φ R k o a w:=by
 unfold StepU;rw[if_pos hw];unfold Oper.wp;rw[hr];exact⟨v,rfl,hC,hv,hR⟩
theorem uu_load{k:Nat}{o:Oper}{a:Act}{w:World}(T:TypeId)(x:Operand)(p v:Value)(ho:o.op=.load T x)(hw:Region.wanted o (yielded ops a.tmps)=true)(hp:a.eval x=p)
  (hr:(Instr.loadAt T p).run P w=.ok v w) (hC:C (slots (a.put o.dst v)) w) (hv:φ k (slots (a.put o.dst v)) w) (hR:R (slots a) w w):StepU P ops Q C φ R k o a w :=
 uu_val v hw (by
  unfold execOp;rw[ho];simp only[hp,Sem.run_bind,hr,Result.andThen_ok,Sem.run_pure]) hC hv hR
theorem uu_call{k:Nat}{o:Oper}{a:Act}{w:World}(f:FuncId)(args:Array Value)(hw:Region.wanted o (yielded ops a.tmps)=true)(he:(execOp a.eval o).run P w=.ok (.enter f args) w)
  (hc:Calls P f args w fun e w'=>∃ v,e=.returned v/\C (slots (a.put o.dst v)) w'/\φ k (slots (a.put o.dst v)) w'/\R (slots a) w w'):StepU P ops Q C φ R k o a w:=by
 unfold StepU;rw[if_pos hw];unfold Oper.wp;rw[he];refine Calls.mono hc ?_;rintro e w' ⟨v,rfl,h1,h2,h3⟩;exact⟨v,rfl,h1,h2,h3⟩
theorem uu_store{k:Nat}{o:Oper}{a:Act}{w w':World}(hw:Region.wanted o (yielded ops a.tmps)=true)(hd:o.dst=none)(hr:(execOp a.eval o).run P w=.ok .skip w')(hC:C (slots a) w')(hv:φ k (slots a) w')(hR:R (slots a) w w'):StepU P ops Q C φ R k o a w:=by
 unfold StepU;rw[if_pos hw];unfold Oper.wp;rw[hr];refine⟨undef,by rw[hd],?_,?_,hR⟩
 ·rw[hd];exact hC
 ·rw[hd];exact hv
end
open Go.RowKit
def pw(x:Nat):Array Value:=#[.int .u64 ((x%18446744073709551616:Nat):Int),.int .u64 ((x / 18446744073709551616%18446744073709551616:Nat):Int),.int .u64 ((x / 340282366920938463463374607431768211456%18446744073709551616:Nat):Int),.int .u64 ((x / 6277101735386680763835789423207666416102355444464034512896%18446744073709551616:Nat):Int)]
open Go.RowKit
theorem eqW(a0 a1 a2 a3 b0 b1 b2 b3:Nat)(w:World) :
  (Op.equalIn 10000 24 (.agg #[.int .u64 a0,.int .u64 a1,.int .u64 a2,.int .u64 a3]) (.agg #[.int .u64 b0,.int .u64 b1,.int .u64 b2,.int .u64 b3])).run Try.prog w=.ok ((a0 == b0)&&((a1 == b1)&&((a2 == b2)&&(a3 == b3)))) w:=by
 have u3:=Try.underlying22;have a3':=Try.isAgg22;have z3:=Try.sizeOf22;rw[show(10000:Nat)=9999+1 from rfl,Op.equalIn];simp only[Sem.run_bind,run_underlying Try.underlying24,Result.andThen_ok];simp only[Std.Legacy.Range.forIn_eq_forIn_range',Std.Legacy.Range.size,Nat.sub_zero,Nat.add_sub_cancel,Nat.div_one,List.range'_succ,List.range'_zero,List.forIn_cons,List.forIn_nil]
 go_simp
 simp only[Int.natCast_inj];by_cases h0:a0=b0
 ·by_cases h1:a1=b1
  ·by_cases h2:a2=b2
   ·by_cases h3:a3=b3
    ·simp[h0,h1,h2,h3]
    ·simp[h0,h1,h2,h3]
   ·simp[h0,h1,h2]
  ·simp[h0,h1]
 ·simp[h0]
open Go.RowKit
theorem of_exact(n:Nat)(w:World) :
  Calls Try.prog 34 #[.int .u64 n] w fun e w'=>e=.returned (.agg #[.int .u64 n,.int .u64 0,.int .u64 0,.int .u64 0])/\w.alloc (.cells #[.int .u64 n,.int .u64 0,.int .u64 0,.int .u64 0] 24)=w':=by
 go_enter Try.func34,Try.ntmps34;go_wp2
 go_returns
 exact⟨rfl,rfl⟩
theorem small_yes(a0:Nat)(w:World) :
  Calls Try.prog 112 #[.agg #[.int .u64 a0,.int .u64 0,.int .u64 0,.int .u64 0]] w fun e w'=>e=.returned (.tuple #[.int .u64 a0,.bool true])/\Below w.heap.size w w':=by
 have he:∀ w,(Op.equalIn 10000 24 (.agg #[.int .u64 a0,.int .u64 0,.int .u64 0,.int .u64 0]) (.agg #[.int .u64 a0,.int .u64 0,.int .u64 0,.int .u64 0])).run Try.prog w=.ok true w:=fun w=>by
  have:=eqW a0 0 0 0 a0 0 0 0 w;simpa using this
 go_enter Try.func112,Try.ntmps112;go_wp2
 go_region_with (go_at_call 34;refine(of_exact a0 _).mono ?_;rintro e w' ⟨rfl,rfl⟩)
 all_goals go_wp2
 all_goals (go_ret2;exact⟨rfl,by go_grown⟩)
theorem small_no(a0 a1 a2 a3:Nat)(h:¬(a1=0/\a2=0/\a3=0))(w:World) :
  Calls Try.prog 112 #[.agg #[.int .u64 a0,.int .u64 a1,.int .u64 a2,.int .u64 a3]] w fun e w'=>e=.returned (.tuple #[.int .u64 0,.bool false])/\Below w.heap.size w w':=by
 have he:∀ w,(Op.equalIn 10000 24 (.agg #[.int .u64 a0,.int .u64 a1,.int .u64 a2,.int .u64 a3]) (.agg #[.int .u64 a0,.int .u64 0,.int .u64 0,.int .u64 0])).run Try.prog w=.ok false w:=fun w=>by
  have:=eqW a0 a1 a2 a3 a0 0 0 0 w;have hf:(a0 == a0&&(a1 == 0&&(a2 == 0&&a3 == 0)))=false:=by simpa using h
  rw[hf]at this;exact this
 clear h;go_enter Try.func112,Try.ntmps112;go_wp2
 go_region_with (go_at_call 34;refine(of_exact a0 _).mono ?_;rintro e w' ⟨rfl,rfl⟩)
 all_goals go_wp2
 all_goals (go_ret2;exact⟨rfl,by go_grown⟩)
open Go.RowKit
-- WHAT Small COMES TO.
theorem small_any(x:Nat)(w:World) :
  Calls Try.prog 112 #[wv x] w fun e w'=>e=.returned (.tuple #[.int .u64 ((if x%2^256<18446744073709551616 then x%2^256 else 0:Nat):Int),.bool (decide (x%2^256<18446744073709551616))])/\Below w.heap.size w w':=by
 obtain⟨a0,a1,a2,a3,u0,u1,u2,u3,ea,na⟩:=wv_parts x;rw[ea,<- na];by_cases h:a1=0/\a2=0/\a3=0
 ·obtain⟨rfl,rfl,rfl⟩:=h
  have e:n4 a0 0 0 0=a0:=by unfold n4;omega
  rw[e,if_pos u0,decide_eq_true u0];exact small_yes a0 w
 ·have e:¬n4 a0 a1 a2 a3<18446744073709551616:=by unfold n4;omega
  rw[if_neg e,decide_eq_false e];exact small_no a0 a1 a2 a3 h w
theorem steps_few(a0 a1 a2 a3 n:Nat)(hn:(n:Int)<=256)(w:World)
  (hS:∀ w,Calls Try.prog 112 #[.agg #[.int .u64 a0,.int .u64 a1,.int .u64 a2,.int .u64 a3]] w fun e w'=>e=.returned (.tuple #[.int .u64 n,.bool true])/\Below w.heap.size w w') :
  Calls Try.prog 101 #[.agg #[.int .u64 a0,.int .u64 a1,.int .u64 a2,.int .u64 a3]] w fun e w'=>e=.returned (.tuple #[.int .i64 ((n / 64:Nat):Int),.int .i64 ((n%64:Nat):Int)])/\Below w.heap.size w w':=by
 have hn':¬(256:Int)<n:=by omega
 have h0:(0:Int)<=n:=by omega
 go_enter Try.func101,Try.ntmps101
 go_wp2_with fail
 refine(hS _).mono ?_;rintro e w1 ⟨rfl,hb⟩;have hb':Below w.heap.size w w1:=Below.trans (by go_grown) (hb.mono (by simp));clear hb;go_wp2
 go_outline
 go_ret2
 exact⟨by simp,hb'⟩
theorem steps_many(a0 a1 a2 a3 n:Nat)(b:Bool)(hn:b=true->(256:Int)<n)(w:World)
  (hS:∀ w,Calls Try.prog 112 #[.agg #[.int .u64 a0,.int .u64 a1,.int .u64 a2,.int .u64 a3]] w fun e w'=>e=.returned (.tuple #[.int .u64 n,.bool b])/\Below w.heap.size w w') :
  Calls Try.prog 101 #[.agg #[.int .u64 a0,.int .u64 a1,.int .u64 a2,.int .u64 a3]] w fun e w'=>e=.returned (.tuple #[.int .i64 4,.int .i64 0])/\Below w.heap.size w w':=by
 have h0:(0:Int)<=n:=by omega
 cases b
 all_goals
  try have hn':=hn rfl
  clear hn;go_enter Try.func101,Try.ntmps101
  go_wp2_with fail
  refine(hS _).mono ?_;rintro e w1 ⟨rfl,hb⟩;have hb':Below w.heap.size w w1:=Below.trans (by go_grown) (hb.mono (by simp));clear hb;go_wp2
  go_ret2
  exact⟨by simp,hb'⟩
-- WHAT steps COMES TO.
theorem steps_any(x:Nat)(w:World) :
  Calls Try.prog 101 #[wv x] w fun e w'=>e=.returned (.tuple #[.int .i64 ((min (x%2^256) 256 / 64:Nat):Int),.int .i64 ((min (x%2^256) 256%64:Nat):Int)])/\Below w.heap.size w w':=by
 have hS:=fun w=>small_any x w;obtain⟨a0,a1,a2,a3,u0,u1,u2,u3,ea,na⟩:=wv_parts x;generalize x%2^256=y at *;rw[ea]at hS;rw[ea];by_cases h:y<=256
 ·rw[if_pos (by omega),decide_eq_true (by omega)]at hS
  rw[Nat.min_eq_left h];exact steps_few a0 a1 a2 a3 y (by omega) w hS
 ·rw[Nat.min_eq_right (by omega)]
  exact steps_many a0 a1 a2 a3 _ _ (fun hb=>by rw[if_pos (by simpa using hb)];omega) w hS
open Go.RowKit
def Holds4(B:Nat)(v0 v1 v2 v3:Value)(wx:World):Prop:=wx.cell? ⟨B,0,none⟩=some v0/\wx.cell? ⟨B,1,none⟩=some v1/\wx.cell? ⟨B,2,none⟩=some v2/\wx.cell? ⟨B,3,none⟩=some v3
theorem Holds4.below{B:Nat}{v0 v1 v2 v3:Value}{wx w':World}(h:Holds4 B v0 v1 v2 v3 wx)(hb:Below wx.heap.size wx w')(hB:B<wx.heap.size):Holds4 B v0 v1 v2 v3 w' :=
 ⟨(hb.cell hB).trans h.1,(hb.cell hB).trans h.2.1,(hb.cell hB).trans h.2.2.1,(hb.cell hB).trans h.2.2.2⟩
end Go.Proofs.Ytcmgphkjchicbaa
