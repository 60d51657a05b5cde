/- What (*Field).Of comes to. (Cut to what is reached, written closely: BitsW · Byte · Sext · Exp · Pick · ShRef · SarLen · ShiftsAny · FWd · FOf.) -/
import Derived.Test.YtphafjbajlcbnaaB7
import Derived.Test.YtphafjbajlcbnaaB10
import Derived.Test.YtphafjbajlcbnaaB5
import Derived.Test.YtphafjbajlcbnaaB2
import Derived.Test.YtphafjbajlcbnaaB12
import Derived.Test.YtphafjbajlcbnaaB15
import Derived.Test.YtphafjbajlcbnaaB9
set_option linter.all false
set_option maxRecDepth 100000
set_option maxHeartbeats 8000000
namespace Go.Proofs.Ytphafjbajlcbnaa
open Go.RowKit
theorem len_0(w:World):Calls Try.prog 83 #[.agg #[.int .u64 0,.int .u64 0,.int .u64 0,.int .u64 0]] w fun e w'=>e=.returned (.int .i64 0)/\Below w.heap.size w w':=by
 go_enter Try.func83,Try.ntmps83;go_wp2;refine wp_loop_rounds 5 ?_;rw[rounds_succ];go_wp2;rw[rounds_succ];go_wp2;rw[rounds_succ];go_wp2;rw[rounds_succ];go_wp2;rw[rounds_succ];go_wp2;go_ret;exact⟨rfl,by go_grown⟩
theorem len_1(a0:Nat)(h0:((a0:Int) != 0)=true)(hl0:(a0:Int)<=18446744073709551615)(w:World):Calls Try.prog 83 #[.agg #[.int .u64 a0,.int .u64 0,.int .u64 0,.int .u64 0]] w fun e w'=>e=.returned (.int .i64 (Lib.bitLen a0:Nat))/\Below w.heap.size w w':=by
 have hL:=fun w=>Try.bits_Len64 (a0:Int) w (by omega) hl0;rw[Int.toNat_natCast]at hL;have hb:Lib.bitLen a0<=64:=by
  by_cases h:a0=0
  ·rw[h];decide
  ·obtain⟨-,h2,-⟩:=bitLen_bounds a0 (by omega) h
   have h5:¬65<=Lib.bitLen a0:=fun h=>by
    have:=Nat.pow_le_pow_right (n:=2) (by omega) (show 64<=Lib.bitLen a0 - 1 by omega);omega
   omega
 generalize Lib.bitLen a0=L at *;have hb0:(0:Int)<=L:=by omega
 have hb1:(L:Int)<=64:=by omega
 go_enter Try.func83,Try.ntmps83;go_wp2;refine wp_loop_rounds 4 ?_;rw[rounds_succ];go_wp2;rw[rounds_succ];go_wp2;rw[rounds_succ];go_wp2;rw[rounds_succ];go_wp2_with fail;refine(hL _).mono ?_;rintro e w' ⟨rfl,hw⟩;subst hw;go_wp2;go_ret;exact⟨rfl,by go_grown⟩
theorem len_2(a0 a1:Nat)(h1:((a1:Int) != 0)=true)(hl1:(a1:Int)<=18446744073709551615)(w:World):Calls Try.prog 83 #[.agg #[.int .u64 a0,.int .u64 a1,.int .u64 0,.int .u64 0]] w fun e w'=>e=.returned (.int .i64 (64+(Lib.bitLen a1:Nat)))/\Below w.heap.size w w':=by
 have hL:=fun w=>Try.bits_Len64 (a1:Int) w (by omega) hl1;rw[Int.toNat_natCast]at hL;have hb:Lib.bitLen a1<=64:=by
  by_cases h:a1=0
  ·rw[h];decide
  ·obtain⟨-,h2,-⟩:=bitLen_bounds a1 (by omega) h
   have h5:¬65<=Lib.bitLen a1:=fun h=>by
    have:=Nat.pow_le_pow_right (n:=2) (by omega) (show 64<=Lib.bitLen a1 - 1 by omega);omega
   omega
 generalize Lib.bitLen a1=L at *;have hb0:(0:Int)<=L:=by omega
 have hb1:(L:Int)<=64:=by omega
 go_enter Try.func83,Try.ntmps83;go_wp2;refine wp_loop_rounds 3 ?_;rw[rounds_succ];go_wp2;rw[rounds_succ];go_wp2;rw[rounds_succ];go_wp2_with fail;refine(hL _).mono ?_;rintro e w' ⟨rfl,hw⟩;subst hw;go_wp2;go_ret;exact⟨rfl,by go_grown⟩
theorem len_3(a0 a1 a2:Nat)(h2:((a2:Int) != 0)=true)(hl2:(a2:Int)<=18446744073709551615)(w:World):Calls Try.prog 83 #[.agg #[.int .u64 a0,.int .u64 a1,.int .u64 a2,.int .u64 0]] w fun e w'=>e=.returned (.int .i64 (128+(Lib.bitLen a2:Nat)))/\Below w.heap.size w w':=by
 have hL:=fun w=>Try.bits_Len64 (a2:Int) w (by omega) hl2;rw[Int.toNat_natCast]at hL;have hb:Lib.bitLen a2<=64:=by
  by_cases h:a2=0
  ·rw[h];decide
  ·obtain⟨-,h2,-⟩:=bitLen_bounds a2 (by omega) h
   have h5:¬65<=Lib.bitLen a2:=fun h=>by
    have:=Nat.pow_le_pow_right (n:=2) (by omega) (show 64<=Lib.bitLen a2 - 1 by omega);omega
   omega
 generalize Lib.bitLen a2=L at *;have hb0:(0:Int)<=L:=by omega
 have hb1:(L:Int)<=64:=by omega
 go_enter Try.func83,Try.ntmps83;go_wp2;refine wp_loop_rounds 2 ?_;rw[rounds_succ];go_wp2;rw[rounds_succ];go_wp2_with fail;refine(hL _).mono ?_;rintro e w' ⟨rfl,hw⟩;subst hw;go_wp2;go_ret;exact⟨rfl,by go_grown⟩
theorem len_4(a0 a1 a2 a3:Nat)(h3:((a3:Int) != 0)=true)(hl3:(a3:Int)<=18446744073709551615)(w:World):Calls Try.prog 83 #[.agg #[.int .u64 a0,.int .u64 a1,.int .u64 a2,.int .u64 a3]] w fun e w'=>e=.returned (.int .i64 (192+(Lib.bitLen a3:Nat)))/\Below w.heap.size w w':=by
 have hL:=fun w=>Try.bits_Len64 (a3:Int) w (by omega) hl3;rw[Int.toNat_natCast]at hL;have hb:Lib.bitLen a3<=64:=by
  by_cases h:a3=0
  ·rw[h];decide
  ·obtain⟨-,h2,-⟩:=bitLen_bounds a3 (by omega) h
   have h5:¬65<=Lib.bitLen a3:=fun h=>by
    have:=Nat.pow_le_pow_right (n:=2) (by omega) (show 64<=Lib.bitLen a3 - 1 by omega);omega
   omega
 generalize Lib.bitLen a3=L at *;have hb0:(0:Int)<=L:=by omega
 have hb1:(L:Int)<=64:=by omega
 go_enter Try.func83,Try.ntmps83;go_wp2;refine wp_loop_rounds 1 ?_;rw[rounds_succ];go_wp2_with fail;refine(hL _).mono ?_;rintro e w' ⟨rfl,hw⟩;subst hw;go_wp2;go_ret;exact⟨rfl,by go_grown⟩
open Go.RowKit
def bl(x:Nat):Nat->Nat
 | 0=>0
 | k+1=>if x%115792089237316195423570985008687907853269984665640564039457584007913129639936 / 2^k%2=1 then k+1 else bl x k
theorem bl_le(x:Nat):∀ k,bl x k<=k
 | 0=>Nat.le_refl _
 | k+1=>by have:=bl_le x k;unfold bl;split <;> omega
theorem bl_spec(x:Nat):∀ k,x%115792089237316195423570985008687907853269984665640564039457584007913129639936%2^k<2^bl x k/\(bl x k=0\/2^(bl x k - 1)<=x%115792089237316195423570985008687907853269984665640564039457584007913129639936%2^k)
 | 0=>by simp[bl,Nat.mod_one]
 | k+1=>by
  obtain⟨h1,h2⟩:=bl_spec x k;have e:x%115792089237316195423570985008687907853269984665640564039457584007913129639936%2^(k+1)=x%115792089237316195423570985008687907853269984665640564039457584007913129639936%2^k+2^k*(x%115792089237316195423570985008687907853269984665640564039457584007913129639936 / 2^k%2):=by rw[Nat.pow_succ,Nat.mod_mul]
  have hm:x%115792089237316195423570985008687907853269984665640564039457584007913129639936%2^k<2^k:=Nat.mod_lt _ (Nat.two_pow_pos k);rw[e];unfold bl;by_cases hb:x%115792089237316195423570985008687907853269984665640564039457584007913129639936 / 2^k%2=1
  ·rw[if_pos hb,hb,Nat.pow_succ,Nat.add_sub_cancel]
   exact⟨by omega,.inr (by omega)⟩
  ·rw[if_neg hb,show x%115792089237316195423570985008687907853269984665640564039457584007913129639936 / 2^k%2=0 by omega,Nat.mul_zero,Nat.add_zero]
   exact⟨h1,h2⟩
theorem len_uniq{X a b:Nat}(h1:X<2^a)(h2:a=0\/2^(a - 1)<=X)(h3:X<2^b)(h4:b=0\/2^(b - 1)<=X):a=b:=by
 rcases Nat.lt_trichotomy a b with h | h | h
 ·rcases h4 with h4 | h4
  ·omega
  ·have:=Nat.pow_le_pow_right (n:=2) (by omega) (show a<=b - 1 by omega)
   omega
 ·exact h
 ·rcases h2 with h2 | h2
  ·omega
  ·have:=Nat.pow_le_pow_right (n:=2) (by omega) (show b<=a - 1 by omega)
   omega
-- WHAT Len COMES TO: just as many bits.
theorem len_exact(y:Nat)(w:World):Calls Try.prog 83 #[wv y] w fun e w'=>e=.returned (.int .i64 (bl y 256:Nat))/\Below w.heap.size w w':=by
 obtain⟨a0,a1,a2,a3,u0,u1,u2,u3,ea,na⟩:=wv_parts y;obtain⟨s1,s2⟩:=bl_spec y 256;rw[show(2:Nat)^256=115792089237316195423570985008687907853269984665640564039457584007913129639936 by rfl,Nat.mod_mod,<- na]at s1 s2;generalize bl y 256=B at *;rw[ea];clear ea na;by_cases h3:a3=0
 ·subst h3
  by_cases h2:a2=0
  ·subst h2
   by_cases h1:a1=0
   ·subst h1
    by_cases h0:a0=0
    ·subst h0
     have e:B=0:=len_uniq s1 s2 (by decide) (.inl rfl);rw[e];exact len_0 w
    ·obtain⟨l0,l1,l2⟩:=bitLen_bounds a0 u0 h0
     have e:B=Lib.bitLen a0:=len_uniq s1 s2 (by unfold n4;omega) (.inr (by unfold n4;omega));rw[e];exact len_1 a0 (by rw[bne_iff_ne];omega) (by omega) w
   ·obtain⟨l0,l1,l2⟩:=bitLen_bounds a1 u1 h1
    have e:B=64+Lib.bitLen a1:=len_uniq s1 s2 (by rw[Nat.pow_add,show(2:Nat)^64=18446744073709551616 by rfl];unfold n4;omega) (.inr (by rw[show 64+Lib.bitLen a1 - 1=64+(Lib.bitLen a1 - 1) by omega,Nat.pow_add,show(2:Nat)^64=18446744073709551616 by rfl];unfold n4;omega));rw[e,show((64+Lib.bitLen a1:Nat):Int)=64+(Lib.bitLen a1:Nat) by simp];exact len_2 a0 a1 (by rw[bne_iff_ne];omega) (by omega) w
  ·obtain⟨l0,l1,l2⟩:=bitLen_bounds a2 u2 h2
   have e:B=128+Lib.bitLen a2:=len_uniq s1 s2 (by rw[Nat.pow_add,show(2:Nat)^128=340282366920938463463374607431768211456 by rfl];unfold n4;omega) (.inr (by rw[show 128+Lib.bitLen a2 - 1=128+(Lib.bitLen a2 - 1) by omega,Nat.pow_add,show(2:Nat)^128=340282366920938463463374607431768211456 by rfl];unfold n4;omega));rw[e,show((128+Lib.bitLen a2:Nat):Int)=128+(Lib.bitLen a2:Nat) by simp];exact len_3 a0 a1 a2 (by rw[bne_iff_ne];omega) (by omega) w
 ·obtain⟨l0,l1,l2⟩:=bitLen_bounds a3 u3 h3
  have e:B=192+Lib.bitLen a3:=len_uniq s1 s2 (by rw[Nat.pow_add,show(2:Nat)^192=6277101735386680763835789423207666416102355444464034512896 by rfl];unfold n4;omega) (.inr (by rw[show 192+Lib.bitLen a3 - 1=192+(Lib.bitLen a3 - 1) by omega,Nat.pow_add,show(2:Nat)^192=6277101735386680763835789423207666416102355444464034512896 by rfl];unfold n4;omega));rw[e,show((192+Lib.bitLen a3:Nat):Int)=192+(Lib.bitLen a3:Nat) by simp];exact len_4 a0 a1 a2 a3 (by rw[bne_iff_ne];omega) (by omega) w
open Go.RowKit
theorem big_nought{y n:Nat}(hy:y<2^256)(hn:256<=n):y / 2^n=0:=by
 refine Nat.div_eq_of_lt (Nat.lt_of_lt_of_le hy ?_);rw[show(2^256)=2^256 by rfl];exact Nat.pow_le_pow_right (by omega) hn
theorem min_div{y n:Nat}(hy:y<2^256):y / 2^min n 256=y / 2^n:=by
 by_cases h:n<=256
 ·rw[Nat.min_eq_left h]
 ·rw[Nat.min_eq_right (by omega),big_nought hy (Nat.le_refl _),big_nought hy (by omega)]
theorem shr_n(n x:Nat)(hn:n<2^256)(w:World):Calls Try.prog 63 #[wv n,wv x] w fun e w'=>e=.returned (wv (x%2^256 / 2^n))/\Below w.heap.size w w':=by
 have h:=shr_any n x w;rwa [Nat.mod_eq_of_lt hn,min_div (Nat.mod_lt _ (by omega))]at h
theorem of_wv(n:Nat)(hn:n<18446744073709551616)(w:World):Calls Try.prog 54 #[.int .u64 n] w fun e w'=>e=.returned (.agg (pw n))/\Below w.heap.size w w':=by
 have h:=of_walk n w;rw[<- wv_one hn,wv_pw]at h;exact h
open Go.RowKit
theorem remV_of{x m:Nat}(h1:0<m)(hm:m<2^256):remV x m=x%m:=by
 unfold remV;rw[Nat.mod_eq_of_lt hm,if_neg (by omega)]
theorem cmp_pw(a b:Nat)(ha:a<2^256)(hb:b<2^256)(w:World):Calls Try.prog 67 #[.agg (pw a),.agg (pw b)] w fun e w'=>e=.returned (.int .i64 (ord a b))/\Below w.heap.size w w':=by
 have h:=cmp_any a b w;rw[Nat.mod_eq_of_lt ha,Nat.mod_eq_of_lt hb]at h;exact h
theorem mod_pw(a m:Nat)(ha:a<2^256)(h0:0<m)(hm:m<2^256)(w:World):Calls Try.prog 77 #[.agg (pw a),.agg (pw m)] w fun e w'=>e=.returned (.agg (pw (a%m)))/\Below w.heap.size w w':=by
 have h:=mod_any a m w;rw[Nat.mod_eq_of_lt ha,remV_of h0 hm]at h;exact h
theorem add_pw(a b:Nat)(w:World):Calls Try.prog 64 #[.agg (pw a),.agg (pw b)] w fun e w'=>e=.returned (.agg (pw (a+b)))/\Below w.heap.size w w':=add_any a b w
theorem sub_pw(a b:Nat)(hb:b<2^256)(w:World):Calls Try.prog 70 #[.agg (pw a),.agg (pw b)] w fun e w'=>e=.returned (.agg (pw (a+(2^256 - b))))/\Below w.heap.size w w':=by
 have h:=sub_any a b w;rw[Nat.mod_eq_of_lt hb]at h;exact h
theorem pw_congr{x y:Nat}(h:x%2^256=y%2^256):pw x=pw y:=by
 have:=wv_congr h;rw[wv_pw,wv_pw]at this;injection this
theorem not_pw(a:Nat)(ha:a<2^256)(w:World):Calls Try.prog 58 #[.agg (pw a)] w fun e w'=>e=.returned (.agg (pw (2^256 - 1 - a)))/\Below w.heap.size w w':=by
 have h:=not_any a w;rw[Nat.mod_eq_of_lt ha]at h;exact h
theorem addmod_pw(a b m:Nat)(ha:a<2^256)(hb:b<2^256)(h0:0<m)(hm:m<2^256)(w:World):Calls Try.prog 59 #[.agg (pw a),.agg (pw b),.agg (pw m)] w fun e w'=>e=.returned (.agg (pw ((a+b)%m)))/\Below w.heap.size w w':=by
 have h:=addmod_any a b m w;rw[Nat.mod_eq_of_lt ha,Nat.mod_eq_of_lt hb,remV_of h0 hm]at h;exact h
theorem mulmod_pw(a b m:Nat)(ha:a<2^256)(hb:b<2^256)(h0:0<m)(hm:m<2^256)(w:World):Calls Try.prog 61 #[.agg (pw a),.agg (pw b),.agg (pw m)] w fun e w'=>e=.returned (.agg (pw (a*b%m)))/\Below w.heap.size w w':=by
 have h:=mulmod_any a b m w;rw[Nat.mod_eq_of_lt ha,Nat.mod_eq_of_lt hb,remV_of h0 hm]at h;exact h
theorem shr_pw(n a:Nat)(hn:n<2^256)(ha:a<2^256)(w:World):Calls Try.prog 63 #[.agg (pw n),.agg (pw a)] w fun e w'=>e=.returned (.agg (pw (a / 2^n)))/\Below w.heap.size w w':=by
 have h:=shr_n n a hn w;rw[Nat.mod_eq_of_lt ha]at h;exact h
theorem len_pw(a:Nat)(w:World):Calls Try.prog 83 #[.agg (pw a)] w fun e w'=>e=.returned (.int .i64 (bl a 256:Nat))/\Below w.heap.size w w':=len_exact a w
/-! Two words compared. -/
open Go.RowKit
-- WHAT Of COMES TO.
theorem fof_any(F m a:Nat)(ha:a<115792089237316195423570985008687907853269984665640564039457584007913129639936)(w:World)(hF:FldAt w F m):Calls Try.prog 65 #[.pointer (some ⟨F,0,none⟩),.agg (pw a)] w fun e w'=>e=.returned (.agg (pw (a%m)))/\Below w.heap.size w w':=by
 have H0:=Lib.hid (CW.one hF a);have HCM:=Lib.hid (CW.calls (w:=w) (F:=F) (m:=m) (L:=[(w.heap.size+1,#[.int .u64 0,.int .u64 0,.int .u64 0,.int .u64 0]),(w.heap.size,pw a)]) (v:=.int .i64 (ord a m)) (fun wx hf=>cmp_pw a m ha hf.lt wx));have HMD:=Lib.hid (CW.calls (w:=w) (F:=F) (m:=m) (L:=[(w.heap.size+1,#[.int .u64 0,.int .u64 0,.int .u64 0,.int .u64 0]),(w.heap.size,pw a)]) (v:=.agg (pw (a%m))) (fun wx hf=>mod_pw a m ha (by have:=hf.big;omega) hf.lt wx));have HQ:=Lib.hid (show a<m->a%m=a from fun h=>Nat.mod_eq_of_lt h);clear hF ha;by_cases hlt:a<m
 ·rw[HQ.out hlt]
  clear HMD HQ;go_enter Try.func65,Try.ntmps65
  go_wp2_with fail
  refine wp_region_quiet (C:=CW w F m [(w.heap.size+1,#[.int .u64 0,.int .u64 0,.int .u64 0,.int .u64 0]),(w.heap.size,pw a)]) (by kernel_rfl) (by kernel_rfl) (H0.out.drew) ?_;simp only
  with_reducible refine q_load 24 (.tmp 3) (.pointer (some ⟨w.heap.size,0,none⟩)) (.agg (pw a)) rfl (by kernel_rfl) (by kernel_rfl) (fun _ c=>ld_pw (c.is _ _ (by simp))) ?_
  with_reducible refine q_val (.pointer (some ⟨F,0,none⟩)) (by kernel_rfl) (fun _ _=>by kernel_rfl) ?_
  with_reducible refine q_val (.pointer (some ⟨F,0,none⟩)) (by kernel_rfl) (fun _ _=>run_nil (.tmp 6) _ rfl (by kernel_rfl)) ?_
  with_reducible refine q_sem2 (Instr.fieldAt 97 (.pointer (some ⟨F,0,none⟩)) 0) (.pointer (some ⟨F,0,none⟩)) (by kernel_rfl) (by kernel_rfl) (fun w' _=>fld_at F w') ?_
  with_reducible refine q_load 24 (.tmp 8) (.pointer (some ⟨F,0,none⟩)) (.agg (pw m)) rfl (by kernel_rfl) (by kernel_rfl) (fun _ c=>ld_m c.fld) ?_
  with_reducible refine q_call 67 #[.agg (pw a),.agg (pw m)] (.int .i64 (ord a m)) (by kernel_rfl) (fun _=>by kernel_rfl) (HCM.out) ?_
  with_reducible refine q_bin .lss 3 _ _ 3 (.int .i64 (ord a m)) (.int .i64 0) (.bool true) rfl (by kernel_rfl) (by kernel_rfl) (by kernel_rfl) (fun _=>by kernel_rfl) (fun w'=>(lss_ord a m w').trans (by rw[decide_eq_true hlt])) ?_
  with_reducible refine wpQuiet_nil ?_
  intro wx hC;have HC:=Lib.hid hC;clear hC H0 HCM;simp only[Act.put,List.setIfInBounds_toArray,List.set_cons_succ,List.set_cons_zero]
  go_wp2_with (first | (refine wpList_ld rfl 24 _ rfl (.pointer (some ⟨w.heap.size,0,none⟩)) (.agg (pw a)) rfl (ld_pw (by exact HC.out.is _ _ (by simp))) ?_) | (refine wpList_store_row rfl 24 _ _ rfl (w.heap.size+1) (pw a) rfl rfl 24 (#[.int .u64 0,.int .u64 0,.int .u64 0,.int .u64 0]) (by exact HC.out.is _ _ (by simp)) (by rw[pw_size];exact infoW4) (by first | rfl | (rw[pw_size];rfl) | (rw[pw_size,pw_size])) (pw_one _) ?_))
  (try simp only[Act.put])
  refine bodyPost_ret (v:=.agg (pw a)) (results_cell_row (p:=4) rfl _ _ (w.heap.size+1) 24 (pw a) (0,0) _ rfl (setRow_heap _ _ _ _ _ _ (by exact HC.out.is _ (#[.int .u64 0,.int .u64 0,.int .u64 0,.int .u64 0]) (by simp))) Try.underlying24 rfl (by rw[pw_size];exact infoW4)) rfl ⟨rfl,below_setRow HC.out.old (by omega) _⟩
 ·obtain⟨y,hy⟩:∃ y,a%m=y:=⟨_,rfl⟩
  rw[hy]at HMD |-
  clear HQ hy;go_enter Try.func65,Try.ntmps65
  go_wp2_with fail
  refine wp_region_quiet (C:=CW w F m [(w.heap.size+1,#[.int .u64 0,.int .u64 0,.int .u64 0,.int .u64 0]),(w.heap.size,pw a)]) (by kernel_rfl) (by kernel_rfl) (H0.out.drew) ?_;simp only
  with_reducible refine q_load 24 (.tmp 3) (.pointer (some ⟨w.heap.size,0,none⟩)) (.agg (pw a)) rfl (by kernel_rfl) (by kernel_rfl) (fun _ c=>ld_pw (c.is _ _ (by simp))) ?_
  with_reducible refine q_val (.pointer (some ⟨F,0,none⟩)) (by kernel_rfl) (fun _ _=>by kernel_rfl) ?_
  with_reducible refine q_val (.pointer (some ⟨F,0,none⟩)) (by kernel_rfl) (fun _ _=>run_nil (.tmp 6) _ rfl (by kernel_rfl)) ?_
  with_reducible refine q_sem2 (Instr.fieldAt 97 (.pointer (some ⟨F,0,none⟩)) 0) (.pointer (some ⟨F,0,none⟩)) (by kernel_rfl) (by kernel_rfl) (fun w' _=>fld_at F w') ?_
  with_reducible refine q_load 24 (.tmp 8) (.pointer (some ⟨F,0,none⟩)) (.agg (pw m)) rfl (by kernel_rfl) (by kernel_rfl) (fun _ c=>ld_m c.fld) ?_
  with_reducible refine q_call 67 #[.agg (pw a),.agg (pw m)] (.int .i64 (ord a m)) (by kernel_rfl) (fun _=>by kernel_rfl) (HCM.out) ?_
  with_reducible refine q_bin .lss 3 _ _ 3 (.int .i64 (ord a m)) (.int .i64 0) (.bool false) rfl (by kernel_rfl) (by kernel_rfl) (by kernel_rfl) (fun _=>by kernel_rfl) (fun w'=>(lss_ord a m w').trans (by rw[decide_eq_false hlt])) ?_
  with_reducible refine wpQuiet_nil ?_
  intro wx hC;have HC:=Lib.hid hC;clear hC H0 HCM;simp only[Act.put,List.setIfInBounds_toArray,List.set_cons_succ,List.set_cons_zero]
  go_wp2_with fail
  refine region_quiet_tail 6 (CW w F m [(w.heap.size+1,#[.int .u64 0,.int .u64 0,.int .u64 0,.int .u64 0]),(w.heap.size,pw a)]) (by kernel_rfl) (by kernel_rfl) (HC.out.drew) ?_;simp only[List.take_succ_cons,List.take_zero,List.drop_succ_cons,List.drop_zero]
  with_reducible refine q_load 24 (.tmp 3) (.pointer (some ⟨w.heap.size,0,none⟩)) (.agg (pw a)) rfl (by kernel_rfl) (by kernel_rfl) (fun _ c=>ld_pw (c.is _ _ (by simp))) ?_
  with_reducible refine q_val (.pointer (some ⟨F,0,none⟩)) (by kernel_rfl) (fun _ _=>by kernel_rfl) ?_
  with_reducible refine q_val (.pointer (some ⟨F,0,none⟩)) (by kernel_rfl) (fun _ _=>run_nil (.tmp 14) _ rfl (by kernel_rfl)) ?_
  with_reducible refine q_sem2 (Instr.fieldAt 97 (.pointer (some ⟨F,0,none⟩)) 0) (.pointer (some ⟨F,0,none⟩)) (by kernel_rfl) (by kernel_rfl) (fun w' _=>fld_at F w') ?_
  with_reducible refine q_load 24 (.tmp 16) (.pointer (some ⟨F,0,none⟩)) (.agg (pw m)) rfl (by kernel_rfl) (by kernel_rfl) (fun _ c=>ld_m c.fld) ?_
  with_reducible refine q_call 77 #[.agg (pw a),.agg (pw m)] (.agg (pw y)) (by kernel_rfl) (fun _=>by kernel_rfl) (HMD.out) ?_
  with_reducible refine wpQuiet_nil ?_
  intro wx hC;have HC2:=Lib.hid hC;clear hC HC HMD;simp only[Act.put,List.setIfInBounds_toArray,List.set_cons_succ,List.set_cons_zero]
  go_wp2_with (refine wpList_store_row rfl 24 _ _ rfl (w.heap.size+1) (pw y) rfl rfl 24 (#[.int .u64 0,.int .u64 0,.int .u64 0,.int .u64 0]) (by exact HC2.out.is _ _ (by simp)) (by rw[pw_size];exact infoW4) (by first | rfl | (rw[pw_size];rfl) | (rw[pw_size,pw_size])) (pw_one _) ?_)
  (try simp only[Act.put])
  refine bodyPost_ret (v:=.agg (pw y)) (results_cell_row (p:=4) rfl _ _ (w.heap.size+1) 24 (pw y) (0,0) _ rfl (setRow_heap _ _ _ _ _ _ (by exact HC2.out.is _ (#[.int .u64 0,.int .u64 0,.int .u64 0,.int .u64 0]) (by simp))) Try.underlying24 rfl (by rw[pw_size];exact infoW4)) rfl ⟨rfl,below_setRow HC2.out.old (by omega) _⟩
end Go.Proofs.Ytphafjbajlcbnaa
