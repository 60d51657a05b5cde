/- What (*Field).Add, Sub and Neg come to. (Cut to what is reached, written closely: Byte · Sext · Exp · Pick · ShRef · SarLen · ShiftsAny · FWd · FOf · FAdd.) -/
import Derived.Test.YtphafjbajlcbnaaGreatB5
import Derived.Test.YtphafjbajlcbnaaGreatB2
import Derived.Test.YtphafjbajlcbnaaGreatB6
import Derived.Test.YtphafjbajlcbnaaGreatB7
import Derived.Test.YtphafjbajlcbnaaGreatB14
import Derived.Test.YtphafjbajlcbnaaGreatB12
import Derived.Test.YtphafjbajlcbnaaGreatB8
set_option linter.all false
set_option maxRecDepth 100000
set_option maxHeartbeats 8000000
namespace Go.Proofs.YtphafjbajlcbnaaGreat
open Go.RowKit
def vb(b:Nat->Nat):Nat->Nat
 | 0=>0
 | n+1=>vb b n+2^n*b n
def bpt(b:Nat->Nat)(p:Nat):Nat->Nat
 | 0=>0
 | k+1=>bpt b p k+if k / 64=p then b k*2^(k%64)else 0
def mb(p k:Nat):Nat:=min 64 (k - 64*p)
theorem Pj{b:Nat->Nat}(p:Nat):∀ k,(∀ j,j<k->b j<2)->bpt b p k<2^mb p k
 | 0,_=>by simp[bpt,Nat.two_pow_pos]
 | k+1,h=>by
  have ih:=Pj p k (fun j hj=>h j τ);have hd:=h k τ;unfold bpt;by_cases e:k / 64=p
  ·rw[if_pos e]
   have m0:mb p k=k%64:=by unfold mb;omega
   have m1:mb p (k+1)=k%64+1:=by unfold mb;omega
   rw[m0]at ih;rw[m1,Nat.pow_succ];have h2:b k*2^(k%64)<=1*2^(k%64):=Nat.mul_le_mul_right _ τ;omega
  ·rw[if_neg e,Nat.add_zero]
   exact Nat.lt_of_lt_of_le ih (Nat.pow_le_pow_right τ (by unfold mb;omega))
theorem LH{b:Nat->Nat}(p k:Nat)(h:∀ j,j<k->b j<2):bpt b p k<18446744073709551616:=by
 refine Nat.lt_of_lt_of_le (Pj p k h) ?_;have e:18446744073709551616=2^64:=by rfl
 rw[e];exact Nat.pow_le_pow_right τ (by unfold mb;omega)
theorem A40{b:Nat->Nat}{k p s:Nat}(hp:k / 64=p)(hs:k%64=s)(h:∀ j,j<k->b j<2):bpt b p k<2^s:=by
 have:=Pj (b:=b) p k h;rwa [show mb p k=k%64 by unfold mb;omega,hs]at this
theorem UQ{b:Nat->Nat}:∀ k,k<=256->n4 (bpt b 0 k) (bpt b 1 k) (bpt b 2 k) (bpt b 3 k)=vb b k
 | 0,_=>rfl
 | k+1,h=>by
  have ih:=UQ (b:=b) k τ;have e:2^k*b k=2^(64*(k / 64))*(b k*2^(k%64)):=by
   rw[<- Nat.mul_assoc,Nat.mul_comm (2^(64*(k / 64))),Nat.mul_assoc,<- Nat.pow_add,show 64*(k / 64)+k%64=k by omega,Nat.mul_comm]
  simp only[bpt,vb];rw[e,<- ih];generalize b k*2^(k%64)=y;have c:k / 64=0\/k / 64=1\/k / 64=2\/k / 64=3:=by omega
  rcases c with c | c | c | c
  ·rw[c,show(2:Nat)^(64*0)=1 by rfl];simp only[n4];simp;omega
  ·rw[c,show(2:Nat)^(64*1)=18446744073709551616 by rfl];simp only[n4];simp;omega
  ·rw[c,show(2:Nat)^(64*2)=340282366920938463463374607431768211456 by rfl];simp only[n4];simp;omega
  ·rw[c,show(2:Nat)^(64*3)=6277101735386680763835789423207666416102355444464034512896 by rfl];simp only[n4];simp;omega
theorem or_bit(x y s:Nat)(hx:x<2^s)(hy:y<2)(hs:s<=63):bits .or .u64 (x:Int) (IntKind.u64.wrap ((y:Int)*2^s))=((x+y*2^s:Nat):Int):=by
 have h1:2^s<=2^63:=Nat.pow_le_pow_right τ hs;have h2:y*2^s<=1*2^63:=Nat.mul_le_mul τ h1;have h3:y*2^s<18446744073709551616:=by omega
 have e:IntKind.u64.wrap ((y:Int)*2^s)=((y*2^s:Nat):Int):=by
  rw[IntKind.wrap_u64];have e0:(y:Int)*2^s=((y*2^s:Nat):Int):=by simp
  rw[e0];omega
 rw[e,bits_or_u64_nat x (y*2^s) τ h3];have:=Nat.two_pow_add_eq_or_of_lt hx y;rw[Nat.or_comm,Nat.mul_comm y,<- this,Nat.add_comm]
def rb4(b:Nat->Nat)(k:Nat):Array Value:=#[.int .u64 (bpt b 0 k:Nat),.int .u64 (bpt b 1 k:Nat),.int .u64 (bpt b 2 k:Nat),.int .u64 (bpt b 3 k:Nat)]
theorem Nz(b:Nat->Nat)(k:Nat):(rb4 b k).size=4:=rfl
theorem Pk(b:Nat->Nat)(k p:Nat)(h:p<4):(rb4 b k)[p]?=some (.int .u64 (bpt b p k:Nat)):=by
 have c:p=0\/p=1\/p=2\/p=3:=by omega
 rcases c with rfl | rfl | rfl | rfl <;> rfl
theorem Yi(b:Nat->Nat)(k:Nat):(rb4 b k).all (·.oneCell')=true:=by
 simp[rb4,Value.oneCell']
theorem Yj(b:Nat->Nat)(k p s:Nat)(hk:k<256)(hp:k / 64=p)(hs:k%64=s):(rb4 b k).setIfInBounds p (.int .u64 ((bpt b p k+b k*2^s:Nat):Int))=rb4 b (k+1):=by
 have c:p=0\/p=1\/p=2\/p=3:=by omega
 subst hs;rcases c with rfl | rfl | rfl | rfl <;> simp[rb4,bpt,hp]
theorem A1q(b:Nat->Nat)(h:∀ j,j<256->b j<2):Value.agg (rb4 b 256)=wv (vb b 256):=by
 rw[<- UQ 256 (Nat.le_refl _),Gm (LH _ _ h) (LH _ _ h) (LH _ _ h) (LH _ _ h)];rfl
def Dm(x:Nat)(sh:Int)(fill i:Nat):Nat:=if 0<=(i:Int)+sh/\(i:Int)+sh<256 then x%115792089237316195423570985008687907853269984665640564039457584007913129639936 / 2^((i:Int)+sh).toNat%2 else fill
theorem LJ(x:Nat)(sh:Int)(fill i:Nat)(hf:fill<2):Dm x sh fill i<2:=by
 unfold Dm;split <;> omega
open Go.RowKit
theorem UR(Y:Nat)(b:Nat->Nat):∀ n,(∀ i,i<n->b i=Y / 2^i%2)->vb b n=Y%2^n
 | 0,_=>by simp[vb,Nat.mod_one]
 | n+1,h=>by
  simp only[vb];rw[UR Y b n (fun i hi=>h i τ),h n τ,Nat.pow_succ,Nat.mod_mul]
theorem A1r(x n:Nat):wv (vb (Dm x (n:Int) 0) 256)=wv (x%2^256 / 2^n):=by
 rw[UR (x%2^256 / 2^n) _ 256 (fun i hi=>?_)]
 ·apply BN
  rw[show(2:Nat)^256=2^256 by rfl,Nat.mod_mod]
 ·unfold Dm
  rw[Nat.div_div_eq_div_mul,<- Nat.pow_add,Nat.add_comm n i];by_cases h:i+n<256
  ·rw[if_pos τ,show((i:Int)+(n:Int)).toNat=i+n by omega]
  ·rw[if_neg τ]
   have h1:x%2^256<2^(i+n):=Nat.lt_of_lt_of_le (Nat.mod_lt _ τ) (show(2^256)<=2^(i+n) from Nat.le_trans (show(2^256)<=2^256 by decide) (Nat.pow_le_pow_right τ τ));rw[Nat.div_eq_of_lt h1]
open Go.RowKit
def bl(x:Nat):Nat->Nat
 | 0=>0
 | k+1=>if x%115792089237316195423570985008687907853269984665640564039457584007913129639936 / 2^k%2=1 then k+1 else bl x k
theorem A0w(x:Nat):∀ k,bl x k<=k
 | 0=>Nat.le_refl _
 | k+1=>by have:=A0w x k;unfold bl;split <;> omega
theorem LK(x:Nat):∀ k,x%115792089237316195423570985008687907853269984665640564039457584007913129639936%2^k<2^bl x k/\(bl x k=0\/2^(bl x k - 1)<=x%115792089237316195423570985008687907853269984665640564039457584007913129639936%2^k)
 | 0=>by simp[bl,Nat.mod_one]
 | k+1=>by
  obtain⟨h1,h2⟩:=LK x k;have e:x%115792089237316195423570985008687907853269984665640564039457584007913129639936%2^(k+1)=x%115792089237316195423570985008687907853269984665640564039457584007913129639936%2^k+2^k*(x%115792089237316195423570985008687907853269984665640564039457584007913129639936 / 2^k%2):=by rw[Nat.pow_succ,Nat.mod_mul]
  have hm:x%115792089237316195423570985008687907853269984665640564039457584007913129639936%2^k<2^k:=Nat.mod_lt _ (Nat.two_pow_pos k);rw[e];unfold bl;by_cases hb:x%115792089237316195423570985008687907853269984665640564039457584007913129639936 / 2^k%2=1
  ·rw[if_pos hb,hb,Nat.pow_succ,Nat.add_sub_cancel]
   exact⟨τ,.inr τ⟩
  ·rw[if_neg hb,show x%115792089237316195423570985008687907853269984665640564039457584007913129639936 / 2^k%2=0 by omega,Nat.mul_zero,Nat.add_zero]
   exact⟨h1,h2⟩
theorem EY{X a b:Nat}(h1:X<2^a)(h2:a=0\/2^(a - 1)<=X)(h3:X<2^b)(h4:b=0\/2^(b - 1)<=X):a=b:=by
 rcases Nat.lt_trichotomy a b with h | h | h
 ·rcases h4 with h4 | h4
  ·omega
  ·have:=Nat.pow_le_pow_right (n:=2) τ (show a<=b - 1 by omega)
   omega
 ·exact h
 ·rcases h2 with h2 | h2
  ·omega
  ·have:=Nat.pow_le_pow_right (n:=2) τ (show b<=a - 1 by omega)
   omega
-- WHAT Len COMES TO: just as many bits.
theorem SN(y:Nat)(w:World):Calls Tryz.prog 86 #[wv y] w fun e w'=>e=.returned (.int .i64 (bl y 256:Nat))/\Below w.heap.size w w':=by
 obtain⟨a0,a1,a2,a3,u0,u1,u2,u3,ea,na⟩:=Ai y;obtain⟨s1,s2⟩:=LK y 256;rw[show(2:Nat)^256=115792089237316195423570985008687907853269984665640564039457584007913129639936 by rfl,Nat.mod_mod,<- na]at s1 s2;generalize bl y 256=B at *;rw[ea];clear ea na;by_cases h3:a3=0
 ·subst h3
  by_cases h2:a2=0
  ·subst h2
   by_cases h1:a1=0
   ·subst h1
    by_cases h0:a0=0
    ·subst h0
     have e:B=0:=EY s1 s2 (by decide) (.inl rfl);rw[e];exact A33 w
    ·obtain⟨l0,l1,l2⟩:=AX a0 u0 h0
     have e:B=Lib.bitLen a0:=EY s1 s2 (by unfold n4;omega) (.inr (by unfold n4;omega));rw[e];exact A34 a0 (by rw[bne_iff_ne];omega) τ w
   ·obtain⟨l0,l1,l2⟩:=AX a1 u1 h1
    have e:B=64+Lib.bitLen a1:=EY s1 s2 (by rw[Nat.pow_add,show(2:Nat)^64=18446744073709551616 by rfl];unfold n4;omega) (.inr (by rw[show 64+Lib.bitLen a1 - 1=64+(Lib.bitLen a1 - 1) by omega,Nat.pow_add,show(2:Nat)^64=18446744073709551616 by rfl];unfold n4;omega));rw[e,show((64+Lib.bitLen a1:Nat):Int)=64+(Lib.bitLen a1:Nat) by simp];exact A35 a0 a1 (by rw[bne_iff_ne];omega) τ w
  ·obtain⟨l0,l1,l2⟩:=AX a2 u2 h2
   have e:B=128+Lib.bitLen a2:=EY s1 s2 (by rw[Nat.pow_add,show(2:Nat)^128=340282366920938463463374607431768211456 by rfl];unfold n4;omega) (.inr (by rw[show 128+Lib.bitLen a2 - 1=128+(Lib.bitLen a2 - 1) by omega,Nat.pow_add,show(2:Nat)^128=340282366920938463463374607431768211456 by rfl];unfold n4;omega));rw[e,show((128+Lib.bitLen a2:Nat):Int)=128+(Lib.bitLen a2:Nat) by simp];exact A36 a0 a1 a2 (by rw[bne_iff_ne];omega) τ w
 ·obtain⟨l0,l1,l2⟩:=AX a3 u3 h3
  have e:B=192+Lib.bitLen a3:=EY s1 s2 (by rw[Nat.pow_add,show(2:Nat)^192=6277101735386680763835789423207666416102355444464034512896 by rfl];unfold n4;omega) (.inr (by rw[show 192+Lib.bitLen a3 - 1=192+(Lib.bitLen a3 - 1) by omega,Nat.pow_add,show(2:Nat)^192=6277101735386680763835789423207666416102355444464034512896 by rfl];unfold n4;omega));rw[e,show((192+Lib.bitLen a3:Nat):Int)=192+(Lib.bitLen a3:Nat) by simp];exact A37 a0 a1 a2 a3 (by rw[bne_iff_ne];omega) τ w
open Go.RowKit
theorem JB{y n:Nat}(hy:y<2^256)(hn:256<=n):y / 2^n=0:=by
 refine Nat.div_eq_of_lt (Nat.lt_of_lt_of_le hy ?_);rw[show(2^256)=2^256 by rfl];exact Nat.pow_le_pow_right τ hn
theorem Yk{y n:Nat}(hy:y<2^256):y / 2^min n 256=y / 2^n:=by
 by_cases h:n<=256
 ·rw[Nat.min_eq_left h]
 ·rw[Nat.min_eq_right τ,JB hy (Nat.le_refl _),JB hy τ]
theorem A38(n x:Nat)(hn:n<2^256)(w:World):Calls Tryz.prog 69 #[wv n,wv x] w fun e w'=>e=.returned (wv (x%2^256 / 2^n))/\Below w.heap.size w w':=by
 have h:=Ql n x w;rwa [Nat.mod_eq_of_lt hn,Yk (Nat.mod_lt _ τ)]at h
theorem FL(n:Nat)(hn:n<18446744073709551616)(w:World):Calls Tryz.prog 70 #[.int .u64 n] w fun e w'=>e=.returned (.agg (pw n))/\Below w.heap.size w w':=by
 have h:=XQ n w;rw[<- Jw hn,BR]at h;exact h
open Go.RowKit
theorem LM{x m:Nat}(h1:0<m)(hm:m<2^256):AY x m=x%m:=by
 unfold AY;rw[Nat.mod_eq_of_lt hm,if_neg τ]
theorem Pm(a b:Nat)(ha:a<2^256)(hb:b<2^256)(w:World):Calls Tryz.prog 89 #[.agg (pw a),.agg (pw b)] w fun e w'=>e=.returned (.int .i64 (ord a b))/\Below w.heap.size w w':=by
 have h:=Qn a b w;rw[Nat.mod_eq_of_lt ha,Nat.mod_eq_of_lt hb]at h;exact h
theorem A1s(a m:Nat)(ha:a<2^256)(h0:0<m)(hm:m<2^256)(w:World):Calls Tryz.prog 90 #[.agg (pw a),.agg (pw m)] w fun e w'=>e=.returned (.agg (pw (a%m)))/\Below w.heap.size w w':=by
 have h:=Yd a m w;rw[Nat.mod_eq_of_lt ha,LM h0 hm]at h;exact h
theorem Pn(a b:Nat)(w:World):Calls Tryz.prog 68 #[.agg (pw a),.agg (pw b)] w fun e w'=>e=.returned (.agg (pw (a+b)))/\Below w.heap.size w w':=XP a b w
theorem UT(a b:Nat)(hb:b<2^256)(w:World):Calls Tryz.prog 98 #[.agg (pw a),.agg (pw b)] w fun e w'=>e=.returned (.agg (pw (a+(2^256 - b))))/\Below w.heap.size w w':=by
 have h:=Qh a b w;rw[Nat.mod_eq_of_lt hb]at h;exact h
theorem Dx{x y:Nat}(h:x%2^256=y%2^256):pw x=pw y:=by
 have:=BN h;rw[BR,BR]at this;injection this
theorem A1t(a:Nat)(ha:a<2^256)(w:World):Calls Tryz.prog 94 #[.agg (pw a)] w fun e w'=>e=.returned (.agg (pw (2^256 - 1 - a)))/\Below w.heap.size w w':=by
 have h:=Y5 a w;rw[Nat.mod_eq_of_lt ha]at h;exact h
theorem SQ(a b m:Nat)(ha:a<2^256)(hb:b<2^256)(h0:0<m)(hm:m<2^256)(w:World):Calls Tryz.prog 95 #[.agg (pw a),.agg (pw b),.agg (pw m)] w fun e w'=>e=.returned (.agg (pw ((a+b)%m)))/\Below w.heap.size w w':=by
 have h:=Pi a b m w;rw[Nat.mod_eq_of_lt ha,Nat.mod_eq_of_lt hb,LM h0 hm]at h;exact h
theorem SS(a b m:Nat)(ha:a<2^256)(hb:b<2^256)(h0:0<m)(hm:m<2^256)(w:World):Calls Tryz.prog 97 #[.agg (pw a),.agg (pw b),.agg (pw m)] w fun e w'=>e=.returned (.agg (pw (a*b%m)))/\Below w.heap.size w w':=by
 have h:=Ph a b m w;rw[Nat.mod_eq_of_lt ha,Nat.mod_eq_of_lt hb,LM h0 hm]at h;exact h
theorem A1u(n a:Nat)(hn:n<2^256)(ha:a<2^256)(w:World):Calls Tryz.prog 69 #[.agg (pw n),.agg (pw a)] w fun e w'=>e=.returned (.agg (pw (a / 2^n)))/\Below w.heap.size w w':=by
 have h:=A38 n a hn w;rw[Nat.mod_eq_of_lt ha]at h;exact h
theorem A1v(a:Nat)(w:World):Calls Tryz.prog 86 #[.agg (pw a)] w fun e w'=>e=.returned (.int .i64 (bl a 256:Nat))/\Below w.heap.size w w':=SN a w
/-! Two words compared. -/
open Go.RowKit
-- WHAT Of COMES TO.
theorem GJ(F m a:Nat)(ha:a<115792089237316195423570985008687907853269984665640564039457584007913129639936)(w:World)(hF:FldAt w F m):Calls Tryz.prog 73 #[.pointer (some ⟨F,0,none⟩),.agg (pw a)] w fun e w'=>e=.returned (.agg (pw (a%m)))/\Below w.heap.size w w':=by
 have H0:=Lib.hid (CW.one hF a);have HCM:=Lib.hid (CW.calls (w:=w) (F:=F) (m:=m) (L:=[(w.heap.size+1,#[.int .u64 0,.int .u64 0,.int .u64 0,.int .u64 0]),(w.heap.size,pw a)]) (v:=.int .i64 (ord a m)) (fun wx hf=>Pm a m ha hf.lt wx));have HMD:=Lib.hid (CW.calls (w:=w) (F:=F) (m:=m) (L:=[(w.heap.size+1,#[.int .u64 0,.int .u64 0,.int .u64 0,.int .u64 0]),(w.heap.size,pw a)]) (v:=.agg (pw (a%m))) (fun wx hf=>A1s a m ha (by have:=hf.big;omega) hf.lt wx));have HQ:=Lib.hid (show a<m->a%m=a from fun h=>Nat.mod_eq_of_lt h);clear hF ha;by_cases hlt:a<m
 ·rw[HQ.out hlt]
  clear HMD HQ;go_enter Tryz.func73,Tryz.ntmps73
  go_wp2_with fail
  refine wp_region_quiet (C:=CW w F m [(w.heap.size+1,#[.int .u64 0,.int .u64 0,.int .u64 0,.int .u64 0]),(w.heap.size,pw a)]) ω ω (H0.out.drew) ?_;simp only
  with_reducible refine Ac 24 (.tmp 3) (.pointer (some ⟨w.heap.size,0,none⟩)) (.agg (pw a)) rfl ω ω (fun _ c=>Ad (c.is _ _ υ)) ?_
  with_reducible refine q_val (.pointer (some ⟨F,0,none⟩)) ω (fun _ _=>by kernel_rfl) ?_
  with_reducible refine q_val (.pointer (some ⟨F,0,none⟩)) ω (fun _ _=>Ao (.tmp 6) _ rfl ω) ?_
  with_reducible refine Am (Instr.fieldAt 103 (.pointer (some ⟨F,0,none⟩)) 0) (.pointer (some ⟨F,0,none⟩)) ω ω (fun w' _=>DX F w') ?_
  with_reducible refine Ac 24 (.tmp 8) (.pointer (some ⟨F,0,none⟩)) (.agg (pw m)) rfl ω ω (fun _ c=>Lv c.fld) ?_
  with_reducible refine Ah 89 #[.agg (pw a),.agg (pw m)] (.int .i64 (ord a m)) ω (fun _=>by kernel_rfl) (HCM.out) ?_
  with_reducible refine Ce .lss 3 _ _ 3 (.int .i64 (ord a m)) (.int .i64 0) (.bool true) rfl ω ω ω (fun _=>by kernel_rfl) (fun w'=>(Lx a m w').trans (by rw[decide_eq_true hlt])) ?_
  with_reducible refine wpQuiet_nil ?_
  intro wx hC;have HC:=Lib.hid hC;clear hC H0 HCM;simp only[Act.put,List.setIfInBounds_toArray,List.set_cons_succ,List.set_cons_zero]
  go_wp2_with (first | (refine Ae rfl 24 _ rfl (.pointer (some ⟨w.heap.size,0,none⟩)) (.agg (pw a)) rfl (Ad (by exact HC.out.is _ _ υ)) ?_) | (refine wpList_store_row rfl 24 _ _ rfl (w.heap.size+1) (pw a) rfl rfl 24 (#[.int .u64 0,.int .u64 0,.int .u64 0,.int .u64 0]) (by exact HC.out.is _ _ υ) (by rw[A7];exact Ab) (by first | rfl | (rw[A7];rfl) | (rw[A7,A7])) (Ag _) ?_))
  (try simp only[Act.put])
  refine bodyPost_ret (v:=.agg (pw a)) (results_cell_row (p:=4) rfl _ _ (w.heap.size+1) 24 (pw a) (0,0) _ rfl (setRow_heap _ _ _ _ _ _ (by exact HC.out.is _ (#[.int .u64 0,.int .u64 0,.int .u64 0,.int .u64 0]) υ)) Tryz.underlying24 rfl (by rw[A7];exact Ab)) rfl ⟨rfl,below_setRow HC.out.old τ _⟩
 ·obtain⟨y,hy⟩:∃ y,a%m=y:=⟨_,rfl⟩
  rw[hy]at HMD |-
  clear HQ hy;go_enter Tryz.func73,Tryz.ntmps73
  go_wp2_with fail
  refine wp_region_quiet (C:=CW w F m [(w.heap.size+1,#[.int .u64 0,.int .u64 0,.int .u64 0,.int .u64 0]),(w.heap.size,pw a)]) ω ω (H0.out.drew) ?_;simp only
  with_reducible refine Ac 24 (.tmp 3) (.pointer (some ⟨w.heap.size,0,none⟩)) (.agg (pw a)) rfl ω ω (fun _ c=>Ad (c.is _ _ υ)) ?_
  with_reducible refine q_val (.pointer (some ⟨F,0,none⟩)) ω (fun _ _=>by kernel_rfl) ?_
  with_reducible refine q_val (.pointer (some ⟨F,0,none⟩)) ω (fun _ _=>Ao (.tmp 6) _ rfl ω) ?_
  with_reducible refine Am (Instr.fieldAt 103 (.pointer (some ⟨F,0,none⟩)) 0) (.pointer (some ⟨F,0,none⟩)) ω ω (fun w' _=>DX F w') ?_
  with_reducible refine Ac 24 (.tmp 8) (.pointer (some ⟨F,0,none⟩)) (.agg (pw m)) rfl ω ω (fun _ c=>Lv c.fld) ?_
  with_reducible refine Ah 89 #[.agg (pw a),.agg (pw m)] (.int .i64 (ord a m)) ω (fun _=>by kernel_rfl) (HCM.out) ?_
  with_reducible refine Ce .lss 3 _ _ 3 (.int .i64 (ord a m)) (.int .i64 0) (.bool false) rfl ω ω ω (fun _=>by kernel_rfl) (fun w'=>(Lx a m w').trans (by rw[decide_eq_false hlt])) ?_
  with_reducible refine wpQuiet_nil ?_
  intro wx hC;have HC:=Lib.hid hC;clear hC H0 HCM;simp only[Act.put,List.setIfInBounds_toArray,List.set_cons_succ,List.set_cons_zero]
  go_wp2_with fail
  refine Aa 6 (CW w F m [(w.heap.size+1,#[.int .u64 0,.int .u64 0,.int .u64 0,.int .u64 0]),(w.heap.size,pw a)]) ω ω (HC.out.drew) ?_;simp only[List.take_succ_cons,List.take_zero,List.drop_succ_cons,List.drop_zero]
  with_reducible refine Ac 24 (.tmp 3) (.pointer (some ⟨w.heap.size,0,none⟩)) (.agg (pw a)) rfl ω ω (fun _ c=>Ad (c.is _ _ υ)) ?_
  with_reducible refine q_val (.pointer (some ⟨F,0,none⟩)) ω (fun _ _=>by kernel_rfl) ?_
  with_reducible refine q_val (.pointer (some ⟨F,0,none⟩)) ω (fun _ _=>Ao (.tmp 14) _ rfl ω) ?_
  with_reducible refine Am (Instr.fieldAt 103 (.pointer (some ⟨F,0,none⟩)) 0) (.pointer (some ⟨F,0,none⟩)) ω ω (fun w' _=>DX F w') ?_
  with_reducible refine Ac 24 (.tmp 16) (.pointer (some ⟨F,0,none⟩)) (.agg (pw m)) rfl ω ω (fun _ c=>Lv c.fld) ?_
  with_reducible refine Ah 90 #[.agg (pw a),.agg (pw m)] (.agg (pw y)) ω (fun _=>by kernel_rfl) (HMD.out) ?_
  with_reducible refine wpQuiet_nil ?_
  intro wx hC;have HC2:=Lib.hid hC;clear hC HC HMD;simp only[Act.put,List.setIfInBounds_toArray,List.set_cons_succ,List.set_cons_zero]
  go_wp2_with (refine wpList_store_row rfl 24 _ _ rfl (w.heap.size+1) (pw y) rfl rfl 24 (#[.int .u64 0,.int .u64 0,.int .u64 0,.int .u64 0]) (by exact HC2.out.is _ _ υ) (by rw[A7];exact Ab) (by first | rfl | (rw[A7];rfl) | (rw[A7,A7])) (Ag _) ?_)
  (try simp only[Act.put])
  refine bodyPost_ret (v:=.agg (pw y)) (results_cell_row (p:=4) rfl _ _ (w.heap.size+1) 24 (pw y) (0,0) _ rfl (setRow_heap _ _ _ _ _ _ (by exact HC2.out.is _ (#[.int .u64 0,.int .u64 0,.int .u64 0,.int .u64 0]) υ)) Tryz.underlying24 rfl (by rw[A7];exact Ab)) rfl ⟨rfl,below_setRow HC2.out.old τ _⟩
open Go.RowKit
structure CO (w:World) (F m a b:Nat) (wx:World):Prop where
 old:Below w.heap.size w wx
 fld:FldAt wx F m
 hF:F<w.heap.size
 r0:∃ x,wx.heap[w.heap.size]?=some (.cells (pw x) 24 (0,0))/\x<2^256/\x%m=a%m
 r1:∃ x,wx.heap[w.heap.size+1]?=some (.cells (pw x) 24 (0,0))/\x<2^256/\x%m=b%m
 r2:wx.heap[w.heap.size+1+1]?=some (.cells #[.int .u64 0,.int .u64 0,.int .u64 0,.int .u64 0] 24 (0,0))
theorem CO.below{w wx w':World}{F m a b:Nat}(c:CO w F m a b wx)(hb:Below wx.heap.size wx w'):CO w F m a b w':=by
 obtain⟨x,h1,h2⟩:=c.r0;obtain⟨y,h3,h4⟩:=c.r1;exact⟨c.old.trans (hb.mono c.old.size),c.fld.below hb,c.hF,⟨x,(hb.block _ (Array.getElem?_eq_some_iff.1 h1).1).trans h1,h2⟩,⟨y,(hb.block _ (Array.getElem?_eq_some_iff.1 h3).1).trans h3,h4⟩,(hb.block _ (Array.getElem?_eq_some_iff.1 c.r2).1).trans c.r2⟩
theorem CO.drew{w wx:World}{F m a b:Nat}(c:CO w F m a b wx):CO w F m a b wx.drew:=c.below (Below.drew (Below.refl _ _))
theorem Fu{w:World}{F m g:Nat}{cs:Array Value}(h:FldAt w F m)(hg:F≠g):FldAt (w.setRow g cs) F m:=⟨(setRow_other _ _ _ _ hg).trans h.row,h.odd,h.big,h.lt⟩
theorem CO.set0{w wx:World}{F m a b:Nat}(c:CO w F m a b wx):CO w F m a b (wx.setRow w.heap.size (pw (a%m))):=by
 obtain⟨x,h1,h2⟩:=c.r0;obtain⟨y,h3,h4⟩:=c.r1;have hF:=c.hF;exact⟨below_setRow c.old (Nat.le_refl _) _,Fu c.fld τ,c.hF,⟨a%m,setRow_heap _ _ _ _ _ _ h1,Nat.lt_trans (Nat.mod_lt _ (by have:=c.fld.big;omega)) c.fld.lt,Nat.mod_mod _ _⟩,⟨y,(setRow_other _ _ _ _ τ).trans h3,h4⟩,(setRow_other _ _ _ _ τ).trans c.r2⟩
theorem CO.set1{w wx:World}{F m a b:Nat}(c:CO w F m a b wx):CO w F m a b (wx.setRow (w.heap.size+1) (pw (b%m))):=by
 obtain⟨x,h1,h2⟩:=c.r0;obtain⟨y,h3,h4⟩:=c.r1;have hF:=c.hF;exact⟨below_setRow c.old τ _,Fu c.fld τ,c.hF,⟨x,(setRow_other _ _ _ _ τ).trans h1,h2⟩,⟨b%m,setRow_heap _ _ _ _ _ _ h3,Nat.lt_trans (Nat.mod_lt _ (by have:=c.fld.big;omega)) c.fld.lt,Nat.mod_mod _ _⟩,(setRow_other _ _ _ _ τ).trans c.r2⟩
theorem CO.start{w:World}{F m a b:Nat}(h:FldAt w F m)(ha:a<2^256)(hb:b<2^256):CO w F m a b (((w.alloc (.cells (pw a) 24)).alloc (.cells (pw b) 24)).alloc (.cells #[.int .u64 0,.int .u64 0,.int .u64 0,.int .u64 0] 24)):=by
 have c:=CW.two h a b;exact⟨c.old,c.fld,c.hF,⟨a,c.is _ _ υ,ha,rfl⟩,⟨b,c.is _ _ υ,hb,rfl⟩,c.is _ _ υ⟩
theorem CO.done{w wx:World}{F m a b:Nat}(c:CO w F m a b wx)(h0:wx.heap[w.heap.size]?=some (.cells (pw (a%m)) 24 (0,0)))(h1:wx.heap[w.heap.size+1]?=some (.cells (pw (b%m)) 24 (0,0))):CW w F m [(w.heap.size+1+1,#[.int .u64 0,.int .u64 0,.int .u64 0,.int .u64 0]),(w.heap.size+1,pw (b%m)),(w.heap.size,pw (a%m))] wx :=
 ⟨c.old,c.fld,c.hF,fun p hp=>by
  simp only[List.mem_cons,List.not_mem_nil,or_false]at hp;rcases hp with rfl | rfl | rfl
  ·exact c.r2
  ·exact h1
  ·exact h0⟩
def RO(w:World)(x y:Nat)(wa wb:World):Prop:=(wa.heap[w.heap.size]?=some (.cells (pw x) 24 (0,0))->wb.heap[w.heap.size]?=some (.cells (pw x) 24 (0,0)))/\(wa.heap[w.heap.size+1]?=some (.cells (pw y) 24 (0,0))->wb.heap[w.heap.size+1]?=some (.cells (pw y) 24 (0,0)))
theorem RO.refl(w:World)(x y:Nat)(wa:World):RO w x y wa wa:=⟨id,id⟩
theorem RO.of{w wa wb:World}{x y:Nat}(hb:Below wa.heap.size wa wb):RO w x y wa wb:=⟨fun h=>(hb.block _ (Array.getElem?_eq_some_iff.1 h).1).trans h,fun h=>(hb.block _ (Array.getElem?_eq_some_iff.1 h).1).trans h⟩
theorem BS{g x:Nat}{w:World}{cs:Array Value}(hs:cs.size=4)(hg:w.heap[g]?=some (.cells cs 24 (0,0))):(Instr.storeAt 24 (.pointer (some ⟨g,0,none⟩)) (.agg (pw x))).run Tryz.prog w=.ok () (w.setRow g (pw x)):=Ed hs hg
theorem UU{m x y:Nat}(hx:x<m)(hy:y<m)(hm:m<2^256):pw (Gx m ((x+y)%2^256) (decide ((x+y)%2^256<x)))=pw ((x+y)%m):=by
 apply Dx;unfold Gx;rw[Nat.mod_mod];by_cases h:x+y<m
 ·rw[Nat.mod_eq_of_lt h,Nat.mod_eq_of_lt (show x+y<2^256 by omega),if_neg (by simp;omega)]
  exact Nat.mod_eq_of_lt τ
 ·have e:(x+y)%m=x+y - m:=by rw[Nat.mod_eq_sub_mod τ,Nat.mod_eq_of_lt τ]
  rw[e];by_cases h2:x+y<2^256
  ·rw[Nat.mod_eq_of_lt h2,if_pos (by right;omega),show x+y+(2^256 - m)=x+y - m+2^256 by omega,Nat.add_mod_right]
  ·rw[if_pos (by left;simp;omega)]
   omega
theorem UW{m x y:Nat}(hx:x<m)(hy:y<m)(hm:m<2^256):(x<y->pw ((x+(2^256 - y))%2^256+m)=pw ((x+(m - y))%m))/\(¬x<y->pw ((x+(2^256 - y))%2^256)=pw ((x+(m - y))%m)):=by
 refine⟨fun h=>Dx ?_,fun h=>Dx ?_⟩
 ·rw[Nat.mod_eq_of_lt (show x+(m - y)<m by omega)]
  omega
 ·rw[Nat.mod_eq_sub_mod (show m<=x+(m - y) by omega),Nat.mod_eq_of_lt (show x+(m - y) - m<m by omega)]
  omega
-- WHAT Add COMES TO.
theorem NA(F m a b:Nat)(ha:a<2^256)(hb:b<2^256)(w:World)(hF:FldAt w F m):Calls Tryz.prog 74 #[.pointer (some ⟨F,0,none⟩),.agg (pw a),.agg (pw b)] w fun e w'=>e=.returned (.agg (pw ((a+b)%m)))/\Below w.heap.size w w':=by
 have H0:=Lib.hid (CO.start hF ha hb);have hlt:∀ z,z%m<m:=fun z=>Nat.mod_lt _ (by have:=hF.big;omega);have HE:=Lib.hid (UU (hlt a) (hlt b) hF.lt);have HN:=Lib.hid (show a%m<2^256/\b%m<2^256 from⟨Nat.lt_trans (hlt a) hF.lt,Nat.lt_trans (hlt b) hF.lt⟩);have HR:=Lib.hid (show(a+b)%m=(a%m+b%m)%m from Nat.add_mod _ _ _);clear hF ha hb hlt;go_enter Tryz.func74,Tryz.ntmps74
 go_wp2_with fail
 refine BU (CO w F m a b) (fun i s wx=>match i with | 0=>s 8=.pointer (some ⟨F,0,none⟩) | 1=>∃ x,s 9=.agg (pw x)/\x<2^256/\x%m=a%m | 2=>s 10=.agg (pw (a%m)) | 3=>s 11=.pointer (some ⟨F,0,none⟩) | 4=>∃ x,s 12=.agg (pw x)/\x<2^256/\x%m=b%m | 5=>s 13=.agg (pw (b%m)) | 6=>wx.heap[w.heap.size]?=some (.cells (pw (a%m)) 24 (0,0)) | 7=>wx.heap[w.heap.size+1]?=some (.cells (pw (b%m)) 24 (0,0)) | _=>True) (RO w (a%m) (b%m)) (fun i=>match i with | 0=>[8] | 1=>[9] | 2=>[10] | 3=>[11] | 4=>[12] | 5=>[13] | 6=>[] | 7=>[] | _=>[]) (fun i=>i) ω ω H0.out.drew ?_ ?_ ?_ ?_
 ·intro i s s' wx he hp
  match i,he,hp with
  | 0,he,hp=>exact(he 8 υ).symm.trans hp
  | 1,he,hp=>obtain⟨x,h1,h2⟩:=hp;exact⟨x,(he 9 υ).symm.trans h1,h2⟩
  | 2,he,hp=>exact(he 10 υ).symm.trans hp
  | 3,he,hp=>exact(he 11 υ).symm.trans hp
  | 4,he,hp=>obtain⟨x,h1,h2⟩:=hp;exact⟨x,(he 12 υ).symm.trans h1,h2⟩
  | 5,he,hp=>exact(he 13 υ).symm.trans hp
  | 6,he,hp=>exact hp
  | 7,he,hp=>exact hp
  | _+8,_,_=>trivial
 ·intro i s wa wb hR hp
  match i,hp with
  | 0,hp=>exact hp
  | 1,hp=>exact hp
  | 2,hp=>exact hp
  | 3,hp=>exact hp
  | 4,hp=>exact hp
  | 5,hp=>exact hp
  | 6,hp=>exact hR.1 hp
  | 7,hp=>exact hR.2 hp
  | _+8,_=>trivial
 ·refine⟨?_,?_,?_,?_,?_,?_,?_,?_,trivial⟩
  ·intro a_ wx hC hsz hK
   have h0:a_.tmps.getD 0 undef=(.pointer (some ⟨F,0,none⟩)):=hK.1 0 ω;exact AU (.pointer (some ⟨F,0,none⟩)) ω (by rw[<- h0];kernel_rfl) hC (A8 _ _ _ (by rw[hsz];exact of_decide_eq_true ω)) (RO.refl _ _ _ _)
  ·intro a_ wx hC hsz hK
   have h0:a_.tmps.getD 4 undef=(.pointer (some ⟨w.heap.size,0,none⟩)):=hK.1 4 ω;obtain⟨x,h1,h2⟩:=hC.r0;exact Bj 24 (.tmp 4) (.pointer (some ⟨w.heap.size,0,none⟩)) (.agg (pw x)) rfl ω h0 (Ad h1) hC ⟨x,(A8 _ _ _ (by rw[hsz];exact of_decide_eq_true ω)),h2⟩ (RO.refl _ _ _ _)
  ·intro a_ wx hC hsz hK
   have h0:a_.tmps.getD 8 undef=(.pointer (some ⟨F,0,none⟩)):=hK.2 ⟨0,.data⟩ υ rfl _ rfl;obtain⟨x,h1,h2,h3⟩:=hK.2 ⟨1,.data⟩ υ rfl _ rfl;refine Bf 73 #[a_.tmps.getD 8 undef,a_.tmps.getD 9 undef] ω ω ?_;rw[h0,show a_.tmps.getD 9 undef=_ from h1];exact(GJ F m x h2 wx hC.fld).mono fun e w' hh=>⟨.agg (pw (a%m)),by rw[hh.1,h3],hC.below hh.2,(A8 _ _ _ (by rw[hsz];exact of_decide_eq_true ω)),RO.of hh.2⟩
  ·intro a_ wx hC hsz hK
   have h0:a_.tmps.getD 0 undef=(.pointer (some ⟨F,0,none⟩)):=hK.1 0 ω;exact AU (.pointer (some ⟨F,0,none⟩)) ω (by rw[<- h0];kernel_rfl) hC (A8 _ _ _ (by rw[hsz];exact of_decide_eq_true ω)) (RO.refl _ _ _ _)
  ·intro a_ wx hC hsz hK
   have h0:a_.tmps.getD 5 undef=(.pointer (some ⟨w.heap.size+1,0,none⟩)):=hK.1 5 ω;obtain⟨x,h1,h2⟩:=hC.r1;exact Bj 24 (.tmp 5) (.pointer (some ⟨w.heap.size+1,0,none⟩)) (.agg (pw x)) rfl ω h0 (Ad h1) hC ⟨x,(A8 _ _ _ (by rw[hsz];exact of_decide_eq_true ω)),h2⟩ (RO.refl _ _ _ _)
  ·intro a_ wx hC hsz hK
   have h0:a_.tmps.getD 11 undef=(.pointer (some ⟨F,0,none⟩)):=hK.2 ⟨3,.data⟩ υ rfl _ rfl;obtain⟨x,h1,h2,h3⟩:=hK.2 ⟨4,.data⟩ υ rfl _ rfl;refine Bf 73 #[a_.tmps.getD 11 undef,a_.tmps.getD 12 undef] ω ω ?_;rw[h0,show a_.tmps.getD 12 undef=_ from h1];exact(GJ F m x h2 wx hC.fld).mono fun e w' hh=>⟨.agg (pw (b%m)),by rw[hh.1,h3],hC.below hh.2,(A8 _ _ _ (by rw[hsz];exact of_decide_eq_true ω)),RO.of hh.2⟩
  ·intro a_ wx hC hsz hK
   have h0:a_.tmps.getD 4 undef=(.pointer (some ⟨w.heap.size,0,none⟩)):=hK.1 4 ω;have h1:a_.tmps.getD 10 undef=.agg (pw (a%m)):=hK.2 ⟨2,.data⟩ υ rfl _ rfl;obtain⟨x,h2,h3⟩:=hC.r0;exact BB ω rfl (FX 24 (.tmp 4) (.tmp 10) _ _ rfl h0 h1 (BS (A7 _) h2)) hC.set0 (setRow_heap _ _ _ _ _ _ h2) ⟨fun _=>setRow_heap _ _ _ _ _ _ h2,fun h=>(setRow_other _ _ _ _ τ).trans h⟩
  ·intro a_ wx hC hsz hK
   have h0:a_.tmps.getD 5 undef=(.pointer (some ⟨w.heap.size+1,0,none⟩)):=hK.1 5 ω;have h1:a_.tmps.getD 13 undef=.agg (pw (b%m)):=hK.2 ⟨5,.data⟩ υ rfl _ rfl;obtain⟨x,h2,h3⟩:=hC.r1;exact BB ω rfl (FX 24 (.tmp 5) (.tmp 13) _ _ rfl h0 h1 (BS (A7 _) h2)) hC.set1 (setRow_heap _ _ _ _ _ _ h2) ⟨fun h=>(setRow_other _ _ _ _ τ).trans h,fun _=>setRow_heap _ _ _ _ _ _ h2⟩
 intro f1 wy hCy hf;have k0:=hf 6 _ rfl;have k1:=hf 7 _ rfl;have H1:=Lib.hid (hCy.done k0 k1);clear hf hCy k0 k1 H0;simp only[Aj,Act.put,List.setIfInBounds_toArray,List.set_cons_succ,List.set_cons_zero];obtain⟨x,hx⟩:∃ x,a%m=x:=⟨_,rfl⟩
 obtain⟨y,hy⟩:∃ y,b%m=y:=⟨_,rfl⟩
 rw[hx,hy]at H1 HE HN HR;clear hx hy
 go_wp2_with (first | (refine Ae rfl 24 _ rfl (.pointer (some ⟨w.heap.size,0,none⟩)) (.agg (pw x)) rfl (Ad (by exact H1.out.is _ _ υ)) ?_) | (refine Ae rfl 24 _ rfl (.pointer (some ⟨w.heap.size+1,0,none⟩)) (.agg (pw y)) rfl (Ad (by exact H1.out.is _ _ υ)) ?_))
 refine(Pn x y _).mono ?_;rintro e w5 ⟨rfl,hb5⟩;rw[show pw (x+y)=pw ((x+y)%2^256) from Dx (by rw[Nat.mod_mod])];obtain⟨z,hz⟩:∃ z,(x+y)%2^256=z:=⟨_,rfl⟩
 have HZ:=Lib.hid (show z<2^256 from by rw[<- hz];exact Nat.mod_lt _ τ);rw[hz]at HE |-
 clear hz;obtain⟨g,hg⟩:∃ g,w5.heap.size=g:=⟨_,rfl⟩
 have H5:=Lib.hid (show CW w F m [(g,pw z),(w.heap.size+1+1,#[.int .u64 0,.int .u64 0,.int .u64 0,.int .u64 0]),(w.heap.size,pw x)] ((w5.alloc (.cells #[.int .u64 0,.int .u64 0,.int .u64 0,.int .u64 0] 24)).setRow w5.heap.size (pw z)) from by
  rw[<- hg];have c:=(H1.out.below hb5).new #[.int .u64 0,.int .u64 0,.int .u64 0,.int .u64 0];have h9:=(H1.out.below hb5).old.size;have h8:w.heap.size+1+1<w5.heap.size:=(Array.getElem?_eq_some_iff.1 ((H1.out.below hb5).is (w.heap.size+1+1) #[.int .u64 0,.int .u64 0,.int .u64 0,.int .u64 0] υ)).1;exact c.put w5.heap.size #[.int .u64 0,.int .u64 0,.int .u64 0,.int .u64 0] (pw z) _ h9 υ (fun p hp=>by
   simp only[List.mem_cons,List.not_mem_nil,or_false]at hp;rcases hp with rfl | rfl
   ·exact⟨υ,by show w.heap.size+1+1≠_;omega⟩
   ·exact⟨υ,by show w.heap.size≠_;omega⟩))
 have HG:=Lib.hid (And.intro hg (heap_alloc_new w5 (.cells #[.int .u64 0,.int .u64 0,.int .u64 0,.int .u64 0] 24)));clear hb5 hg
 go_wp2_with (refine wpList_store_row rfl 24 _ _ rfl w5.heap.size (pw z) rfl rfl 24 (#[.int .u64 0,.int .u64 0,.int .u64 0,.int .u64 0]) (by exact HG.out.2) (by rw[A7];exact Ab) (by rw[A7];rfl) (Ag _) ?_)
 obtain⟨w6,hw6⟩:∃ w6,(w5.alloc (.cells #[.int .u64 0,.int .u64 0,.int .u64 0,.int .u64 0] 24)).setRow w5.heap.size (pw z)=w6:=⟨_,rfl⟩
 rw[hw6]at H5 |-
 rw[HG.out.1];clear hw6 HG H1;have HCM:=Lib.hid (CW.calls (w:=w) (F:=F) (m:=m) (L:=[(g,pw z),(w.heap.size+1+1,#[.int .u64 0,.int .u64 0,.int .u64 0,.int .u64 0]),(w.heap.size,pw x)]) (fun wx _=>Pm z x HZ.out HN.out.1 wx));have HLO:=Lib.hid (CW.calls (w:=w) (F:=F) (m:=m) (L:=[(g,pw z),(w.heap.size+1+1,#[.int .u64 0,.int .u64 0,.int .u64 0,.int .u64 0]),(w.heap.size,pw x)]) (fun wx hf=>Gy F m z (decide (z<x)) wx hf));rw[HE.out]at HLO;obtain⟨v,hv⟩:∃ v,(x+y)%m=v:=⟨_,rfl⟩
 rw[hv]at HLO;have HV:=Lib.hid hv;clear hv;refine Aa 7 (CW w F m [(g,pw z),(w.heap.size+1+1,#[.int .u64 0,.int .u64 0,.int .u64 0,.int .u64 0]),(w.heap.size,pw x)]) ω ω (H5.out.drew) ?_;simp only[List.take_succ_cons,List.take_zero,List.drop_succ_cons,List.drop_zero]
 with_reducible refine q_val (.pointer (some ⟨F,0,none⟩)) ω (fun _ _=>by kernel_rfl) ?_
 with_reducible refine Ac 24 (.tmp 7) (.pointer (some ⟨g,0,none⟩)) (.agg (pw z)) rfl ω ω (fun _ c=>Ad (c.is _ _ υ)) ?_
 with_reducible refine Ac 24 (.tmp 7) (.pointer (some ⟨g,0,none⟩)) (.agg (pw z)) rfl ω ω (fun _ c=>Ad (c.is _ _ υ)) ?_
 with_reducible refine Ac 24 (.tmp 4) (.pointer (some ⟨w.heap.size,0,none⟩)) (.agg (pw x)) rfl ω ω (fun _ c=>Ad (c.is _ _ υ)) ?_
 with_reducible refine Ah 89 #[.agg (pw z),.agg (pw x)] (.int .i64 (ord z x)) ω (fun _=>by kernel_rfl) (HCM.out) ?_
 with_reducible refine Ce .lss 3 _ _ 3 (.int .i64 (ord z x)) (.int .i64 0) (.bool (decide (z<x))) rfl ω ω ω (fun _=>by kernel_rfl) (fun w'=>Lx z x w') ?_
 with_reducible refine Ah 91 #[.pointer (some ⟨F,0,none⟩),.agg (pw z),.bool (decide (z<x))] (.agg (pw v)) ω (fun _=>by kernel_rfl) (HLO.out) ?_
 with_reducible refine wpQuiet_nil ?_
 intro wx hC;have HC:=Lib.hid hC;clear hC H5 HCM HLO;simp only[Act.put,List.setIfInBounds_toArray,List.set_cons_succ,List.set_cons_zero]
 go_wp2_with (refine wpList_store_row rfl 24 _ _ rfl (w.heap.size+1+1) (pw v) rfl rfl 24 (#[.int .u64 0,.int .u64 0,.int .u64 0,.int .u64 0]) (by exact HC.out.is _ _ υ) (by rw[A7];exact Ab) (by first | rfl | (rw[A7];rfl) | (rw[A7,A7])) (Ag _) ?_)
 (try simp only[Act.put])
 refine bodyPost_ret (v:=.agg (pw v)) (results_cell_row (p:=6) rfl _ _ (w.heap.size+1+1) 24 (pw v) (0,0) _ rfl (setRow_heap _ _ _ _ _ _ (by exact HC.out.is _ (#[.int .u64 0,.int .u64 0,.int .u64 0,.int .u64 0]) υ)) Tryz.underlying24 rfl (by rw[A7];exact Ab)) rfl ⟨by rw[<- HV.out,HR.out],below_setRow HC.out.old τ _⟩
-- WHAT Sub COMES TO.
theorem NB(F m a b:Nat)(ha:a<2^256)(hb:b<2^256)(w:World)(hF:FldAt w F m):Calls Tryz.prog 77 #[.pointer (some ⟨F,0,none⟩),.agg (pw a),.agg (pw b)] w fun e w'=>e=.returned (.agg (pw ((a%m+(m - b%m))%m)))/\Below w.heap.size w w':=by
 have H0:=Lib.hid (CO.start hF ha hb);have hlt:∀ z,z%m<m:=fun z=>Nat.mod_lt _ (by have:=hF.big;omega);have HE:=Lib.hid (UW (hlt a) (hlt b) hF.lt);have HN:=Lib.hid (show a%m<2^256/\b%m<2^256 from⟨Nat.lt_trans (hlt a) hF.lt,Nat.lt_trans (hlt b) hF.lt⟩);clear hF ha hb hlt;go_enter Tryz.func77,Tryz.ntmps77
 go_wp2_with fail
 refine BU (CO w F m a b) (fun i s wx=>match i with | 0=>s 8=.pointer (some ⟨F,0,none⟩) | 1=>∃ x,s 9=.agg (pw x)/\x<2^256/\x%m=a%m | 2=>s 10=.agg (pw (a%m)) | 3=>s 11=.pointer (some ⟨F,0,none⟩) | 4=>∃ x,s 12=.agg (pw x)/\x<2^256/\x%m=b%m | 5=>s 13=.agg (pw (b%m)) | 6=>wx.heap[w.heap.size]?=some (.cells (pw (a%m)) 24 (0,0)) | 7=>wx.heap[w.heap.size+1]?=some (.cells (pw (b%m)) 24 (0,0)) | _=>True) (RO w (a%m) (b%m)) (fun i=>match i with | 0=>[8] | 1=>[9] | 2=>[10] | 3=>[11] | 4=>[12] | 5=>[13] | 6=>[] | 7=>[] | _=>[]) (fun i=>i) ω ω H0.out.drew ?_ ?_ ?_ ?_
 ·intro i s s' wx he hp
  match i,he,hp with
  | 0,he,hp=>exact(he 8 υ).symm.trans hp
  | 1,he,hp=>obtain⟨x,h1,h2⟩:=hp;exact⟨x,(he 9 υ).symm.trans h1,h2⟩
  | 2,he,hp=>exact(he 10 υ).symm.trans hp
  | 3,he,hp=>exact(he 11 υ).symm.trans hp
  | 4,he,hp=>obtain⟨x,h1,h2⟩:=hp;exact⟨x,(he 12 υ).symm.trans h1,h2⟩
  | 5,he,hp=>exact(he 13 υ).symm.trans hp
  | 6,he,hp=>exact hp
  | 7,he,hp=>exact hp
  | _+8,_,_=>trivial
 ·intro i s wa wb hR hp
  match i,hp with
  | 0,hp=>exact hp
  | 1,hp=>exact hp
  | 2,hp=>exact hp
  | 3,hp=>exact hp
  | 4,hp=>exact hp
  | 5,hp=>exact hp
  | 6,hp=>exact hR.1 hp
  | 7,hp=>exact hR.2 hp
  | _+8,_=>trivial
 ·refine⟨?_,?_,?_,?_,?_,?_,?_,?_,trivial⟩
  ·intro a_ wx hC hsz hK
   have h0:a_.tmps.getD 0 undef=(.pointer (some ⟨F,0,none⟩)):=hK.1 0 ω;exact AU (.pointer (some ⟨F,0,none⟩)) ω (by rw[<- h0];kernel_rfl) hC (A8 _ _ _ (by rw[hsz];exact of_decide_eq_true ω)) (RO.refl _ _ _ _)
  ·intro a_ wx hC hsz hK
   have h0:a_.tmps.getD 4 undef=(.pointer (some ⟨w.heap.size,0,none⟩)):=hK.1 4 ω;obtain⟨x,h1,h2⟩:=hC.r0;exact Bj 24 (.tmp 4) (.pointer (some ⟨w.heap.size,0,none⟩)) (.agg (pw x)) rfl ω h0 (Ad h1) hC ⟨x,(A8 _ _ _ (by rw[hsz];exact of_decide_eq_true ω)),h2⟩ (RO.refl _ _ _ _)
  ·intro a_ wx hC hsz hK
   have h0:a_.tmps.getD 8 undef=(.pointer (some ⟨F,0,none⟩)):=hK.2 ⟨0,.data⟩ υ rfl _ rfl;obtain⟨x,h1,h2,h3⟩:=hK.2 ⟨1,.data⟩ υ rfl _ rfl;refine Bf 73 #[a_.tmps.getD 8 undef,a_.tmps.getD 9 undef] ω ω ?_;rw[h0,show a_.tmps.getD 9 undef=_ from h1];exact(GJ F m x h2 wx hC.fld).mono fun e w' hh=>⟨.agg (pw (a%m)),by rw[hh.1,h3],hC.below hh.2,(A8 _ _ _ (by rw[hsz];exact of_decide_eq_true ω)),RO.of hh.2⟩
  ·intro a_ wx hC hsz hK
   have h0:a_.tmps.getD 0 undef=(.pointer (some ⟨F,0,none⟩)):=hK.1 0 ω;exact AU (.pointer (some ⟨F,0,none⟩)) ω (by rw[<- h0];kernel_rfl) hC (A8 _ _ _ (by rw[hsz];exact of_decide_eq_true ω)) (RO.refl _ _ _ _)
  ·intro a_ wx hC hsz hK
   have h0:a_.tmps.getD 5 undef=(.pointer (some ⟨w.heap.size+1,0,none⟩)):=hK.1 5 ω;obtain⟨x,h1,h2⟩:=hC.r1;exact Bj 24 (.tmp 5) (.pointer (some ⟨w.heap.size+1,0,none⟩)) (.agg (pw x)) rfl ω h0 (Ad h1) hC ⟨x,(A8 _ _ _ (by rw[hsz];exact of_decide_eq_true ω)),h2⟩ (RO.refl _ _ _ _)
  ·intro a_ wx hC hsz hK
   have h0:a_.tmps.getD 11 undef=(.pointer (some ⟨F,0,none⟩)):=hK.2 ⟨3,.data⟩ υ rfl _ rfl;obtain⟨x,h1,h2,h3⟩:=hK.2 ⟨4,.data⟩ υ rfl _ rfl;refine Bf 73 #[a_.tmps.getD 11 undef,a_.tmps.getD 12 undef] ω ω ?_;rw[h0,show a_.tmps.getD 12 undef=_ from h1];exact(GJ F m x h2 wx hC.fld).mono fun e w' hh=>⟨.agg (pw (b%m)),by rw[hh.1,h3],hC.below hh.2,(A8 _ _ _ (by rw[hsz];exact of_decide_eq_true ω)),RO.of hh.2⟩
  ·intro a_ wx hC hsz hK
   have h0:a_.tmps.getD 4 undef=(.pointer (some ⟨w.heap.size,0,none⟩)):=hK.1 4 ω;have h1:a_.tmps.getD 10 undef=.agg (pw (a%m)):=hK.2 ⟨2,.data⟩ υ rfl _ rfl;obtain⟨x,h2,h3⟩:=hC.r0;exact BB ω rfl (FX 24 (.tmp 4) (.tmp 10) _ _ rfl h0 h1 (BS (A7 _) h2)) hC.set0 (setRow_heap _ _ _ _ _ _ h2) ⟨fun _=>setRow_heap _ _ _ _ _ _ h2,fun h=>(setRow_other _ _ _ _ τ).trans h⟩
  ·intro a_ wx hC hsz hK
   have h0:a_.tmps.getD 5 undef=(.pointer (some ⟨w.heap.size+1,0,none⟩)):=hK.1 5 ω;have h1:a_.tmps.getD 13 undef=.agg (pw (b%m)):=hK.2 ⟨5,.data⟩ υ rfl _ rfl;obtain⟨x,h2,h3⟩:=hC.r1;exact BB ω rfl (FX 24 (.tmp 5) (.tmp 13) _ _ rfl h0 h1 (BS (A7 _) h2)) hC.set1 (setRow_heap _ _ _ _ _ _ h2) ⟨fun h=>(setRow_other _ _ _ _ τ).trans h,fun _=>setRow_heap _ _ _ _ _ _ h2⟩
 intro f1 wy hCy hf;have k0:=hf 6 _ rfl;have k1:=hf 7 _ rfl;have H1:=Lib.hid (hCy.done k0 k1);clear hf hCy k0 k1 H0;simp only[Aj,Act.put,List.setIfInBounds_toArray,List.set_cons_succ,List.set_cons_zero];obtain⟨x,hx⟩:∃ x,a%m=x:=⟨_,rfl⟩
 obtain⟨y,hy⟩:∃ y,b%m=y:=⟨_,rfl⟩
 rw[hx,hy]at H1 HE HN;have HR2:=Lib.hid (And.intro hx hy);clear hx hy
 go_wp2_with (first | (refine Ae rfl 24 _ rfl (.pointer (some ⟨w.heap.size,0,none⟩)) (.agg (pw x)) rfl (Ad (by exact H1.out.is _ _ υ)) ?_) | (refine Ae rfl 24 _ rfl (.pointer (some ⟨w.heap.size+1,0,none⟩)) (.agg (pw y)) rfl (Ad (by exact H1.out.is _ _ υ)) ?_))
 refine(UT x y HN.out.2 _).mono ?_;rintro e w5 ⟨rfl,hb5⟩;rw[show pw (x+(2^256 - y))=pw ((x+(2^256 - y))%2^256) from Dx (by rw[Nat.mod_mod])];obtain⟨z,hz⟩:∃ z,(x+(2^256 - y))%2^256=z:=⟨_,rfl⟩
 rw[hz]at HE |-
 clear hz;obtain⟨g,hg⟩:∃ g,w5.heap.size=g:=⟨_,rfl⟩
 have H5:=Lib.hid (show CW w F m [(g,pw z),(w.heap.size+1+1,#[.int .u64 0,.int .u64 0,.int .u64 0,.int .u64 0]),(w.heap.size+1,pw y),(w.heap.size,pw x)] ((w5.alloc (.cells #[.int .u64 0,.int .u64 0,.int .u64 0,.int .u64 0] 24)).setRow w5.heap.size (pw z)) from by
  rw[<- hg];have c:=(H1.out.below hb5).new #[.int .u64 0,.int .u64 0,.int .u64 0,.int .u64 0];have h9:=(H1.out.below hb5).old.size;have h8:w.heap.size+1+1<w5.heap.size:=(Array.getElem?_eq_some_iff.1 ((H1.out.below hb5).is (w.heap.size+1+1) #[.int .u64 0,.int .u64 0,.int .u64 0,.int .u64 0] υ)).1;exact c.put w5.heap.size #[.int .u64 0,.int .u64 0,.int .u64 0,.int .u64 0] (pw z) _ h9 υ (fun p hp=>by
   simp only[List.mem_cons,List.not_mem_nil,or_false]at hp;rcases hp with rfl | rfl | rfl
   ·exact⟨υ,by show w.heap.size+1+1≠_;omega⟩
   ·exact⟨υ,by show w.heap.size+1≠_;omega⟩
   ·exact⟨υ,by show w.heap.size≠_;omega⟩))
 have HG:=Lib.hid (And.intro hg (heap_alloc_new w5 (.cells #[.int .u64 0,.int .u64 0,.int .u64 0,.int .u64 0] 24)));clear hb5 hg
 go_wp2_with (first | (refine wpList_store_row rfl 24 _ _ rfl w5.heap.size (pw z) rfl rfl 24 (#[.int .u64 0,.int .u64 0,.int .u64 0,.int .u64 0]) (by exact HG.out.2) (by rw[A7];exact Ab) (by rw[A7];rfl) (Ag _) ?_) | (refine Ae rfl 24 _ rfl (.pointer (some ⟨w.heap.size,0,none⟩)) (.agg (pw x)) rfl (Ad (by exact H5.out.is w.heap.size (pw x) υ)) ?_) | (refine Ae rfl 24 _ rfl (.pointer (some ⟨w.heap.size+1,0,none⟩)) (.agg (pw y)) rfl (Ad (by exact H5.out.is (w.heap.size+1) (pw y) υ)) ?_))
 obtain⟨w6,hw6⟩:∃ w6,(w5.alloc (.cells #[.int .u64 0,.int .u64 0,.int .u64 0,.int .u64 0] 24)).setRow w5.heap.size (pw z)=w6:=⟨_,rfl⟩
 rw[hw6]at H5 |-
 rw[HG.out.1];clear hw6 HG H1;refine(Pm x y HN.out.1 HN.out.2 _).mono ?_;rintro e w7 ⟨rfl,hb7⟩;have H7:=Lib.hid (H5.out.below hb7);clear hb7 H5;obtain⟨o,ho⟩:∃ o,ord x y=o:=⟨_,rfl⟩
 rw[ho];by_cases hc:x<y
 ·have ho2:o<0:=by rw[<- ho];unfold ord;rw[if_pos hc];omega
  clear ho;have HD:=Lib.hid (HE.out.1 hc);clear hc HE
  go_wp2_with fail
  have HAD:=Lib.hid (CW.calls (w:=w) (F:=F) (m:=m) (L:=[(g,pw z),(w.heap.size+1+1,#[.int .u64 0,.int .u64 0,.int .u64 0,.int .u64 0]),(w.heap.size+1,pw y),(w.heap.size,pw x)]) (fun wx _=>Pn z m wx));rw[HD.out]at HAD;obtain⟨v,hv⟩:∃ v,(x+(m - y))%m=v:=⟨_,rfl⟩
  rw[hv]at HAD;have HV:=Lib.hid hv;clear hv;refine Aa 6 (CW w F m [(g,pw z),(w.heap.size+1+1,#[.int .u64 0,.int .u64 0,.int .u64 0,.int .u64 0]),(w.heap.size+1,pw y),(w.heap.size,pw x)]) ω ω (H7.out.drew) ?_;simp only[List.take_succ_cons,List.take_zero,List.drop_succ_cons,List.drop_zero]
  with_reducible refine Ac 24 (.tmp 7) (.pointer (some ⟨g,0,none⟩)) (.agg (pw z)) rfl ω ω (fun _ c=>Ad (c.is _ _ υ)) ?_
  with_reducible refine q_val (.pointer (some ⟨F,0,none⟩)) ω (fun _ _=>by kernel_rfl) ?_
  with_reducible refine q_val (.pointer (some ⟨F,0,none⟩)) ω (fun _ _=>Ao (.tmp 22) _ rfl ω) ?_
  with_reducible refine Am (Instr.fieldAt 103 (.pointer (some ⟨F,0,none⟩)) 0) (.pointer (some ⟨F,0,none⟩)) ω ω (fun w' _=>DX F w') ?_
  with_reducible refine Ac 24 (.tmp 24) (.pointer (some ⟨F,0,none⟩)) (.agg (pw m)) rfl ω ω (fun _ c=>Lv c.fld) ?_
  with_reducible refine Ah 68 #[.agg (pw z),.agg (pw m)] (.agg (pw v)) ω (fun _=>by kernel_rfl) (HAD.out) ?_
  with_reducible refine wpQuiet_nil ?_
  intro wx hC;have HC:=Lib.hid hC;clear hC H7 HAD;simp only[Act.put,List.setIfInBounds_toArray,List.set_cons_succ,List.set_cons_zero]
  go_wp2_with (refine wpList_store_row rfl 24 _ _ rfl (w.heap.size+1+1) (pw v) rfl rfl 24 (#[.int .u64 0,.int .u64 0,.int .u64 0,.int .u64 0]) (by exact HC.out.is _ _ υ) (by rw[A7];exact Ab) (by first | rfl | (rw[A7];rfl) | (rw[A7,A7])) (Ag _) ?_)
  (try simp only[Act.put])
  refine bodyPost_ret (v:=.agg (pw v)) (results_cell_row (p:=6) rfl _ _ (w.heap.size+1+1) 24 (pw v) (0,0) _ rfl (setRow_heap _ _ _ _ _ _ (by exact HC.out.is _ (#[.int .u64 0,.int .u64 0,.int .u64 0,.int .u64 0]) υ)) Tryz.underlying24 rfl (by rw[A7];exact Ab)) rfl ⟨by rw[<- HV.out,HR2.out.1,HR2.out.2],below_setRow HC.out.old τ _⟩
 ·have ho2:¬o<0:=by rw[<- ho];unfold ord;rw[if_neg hc];split <;> omega
  clear ho;have HD:=Lib.hid (HE.out.2 hc);clear hc HE
  go_wp2_with (first | (refine Ae rfl 24 _ rfl (.pointer (some ⟨g,0,none⟩)) (.agg (pw z)) rfl (Ad (by exact H7.out.is g (pw z) υ)) ?_) | (refine wpList_store_row rfl 24 _ _ rfl (w.heap.size+1+1) (pw z) rfl rfl 24 (#[.int .u64 0,.int .u64 0,.int .u64 0,.int .u64 0]) (by exact H7.out.is _ _ υ) (by rw[A7];exact Ab) (by first | rfl | (rw[A7];rfl) | (rw[A7,A7])) (Ag _) ?_))
  (try simp only[Act.put])
  refine bodyPost_ret (v:=.agg (pw z)) (results_cell_row (p:=6) rfl _ _ (w.heap.size+1+1) 24 (pw z) (0,0) _ rfl (setRow_heap _ _ _ _ _ _ (by exact H7.out.is _ (#[.int .u64 0,.int .u64 0,.int .u64 0,.int .u64 0]) υ)) Tryz.underlying24 rfl (by rw[A7];exact Ab)) rfl ⟨by rw[HD.out,HR2.out.1,HR2.out.2],below_setRow H7.out.old τ _⟩
end Go.Proofs.YtphafjbajlcbnaaGreat
