/- What (*Field).Add, Sub and Neg come to. (Cut to what is reached, written closely: Byte · Sext · Exp · Pick · ShRef · SarLen · ShiftsAny · FWd · FOf · FAdd.) -/
import Derived.Test.YtadfjjfklihaaaaGreatP5
import Derived.Test.YtadfjjfklihaaaaGreatP2
import Derived.Test.YtadfjjfklihaaaaGreatP6
import Derived.Test.YtadfjjfklihaaaaGreatP7
import Derived.Test.YtadfjjfklihaaaaGreatP14
import Derived.Test.YtadfjjfklihaaaaGreatP12
import Derived.Test.YtadfjjfklihaaaaGreatP8
set_option linter.all false
set_option maxRecDepth 100000
set_option maxHeartbeats 8000000
namespace Go.Proofs.YtadfjjfklihaaaaGreat
open Go.RowKit
def bl(x:Nat):Nat->Nat
 | 0=>0
 | k+1=>if x%115792089237316195423570985008687907853269984665640564039457584007913129639936 / 2^k%2=1 then k+1 else bl x k
theorem bl_le(x:Nat):∀ k,bl x k<=k
 | 0=>Nat.le_refl _
 | k+1=>by have:=bl_le x k;unfold bl;split <;> omega
theorem bl_spec(x:Nat):∀ k,x%115792089237316195423570985008687907853269984665640564039457584007913129639936%2^k<2^bl x k/\(bl x k=0\/2^(bl x k - 1)<=x%115792089237316195423570985008687907853269984665640564039457584007913129639936%2^k)
 | 0=>by simp[bl,Nat.mod_one]
 | k+1=>by
  obtain⟨h1,h2⟩:=bl_spec x k;have e:x%115792089237316195423570985008687907853269984665640564039457584007913129639936%2^(k+1)=x%115792089237316195423570985008687907853269984665640564039457584007913129639936%2^k+2^k*(x%115792089237316195423570985008687907853269984665640564039457584007913129639936 / 2^k%2):=by rw[Nat.pow_succ,Nat.mod_mul]
  have hm:x%115792089237316195423570985008687907853269984665640564039457584007913129639936%2^k<2^k:=Nat.mod_lt _ (Nat.two_pow_pos k);rw[e];unfold bl;by_cases hb:x%115792089237316195423570985008687907853269984665640564039457584007913129639936 / 2^k%2=1
  ·rw[if_pos hb,hb,Nat.pow_succ,Nat.add_sub_cancel]
   exact⟨by omega,.inr (by omega)⟩
  ·rw[if_neg hb,show x%115792089237316195423570985008687907853269984665640564039457584007913129639936 / 2^k%2=0 by omega,Nat.mul_zero,Nat.add_zero]
   exact⟨h1,h2⟩
theorem len_uniq{X a b:Nat}(h1:X<2^a)(h2:a=0\/2^(a - 1)<=X)(h3:X<2^b)(h4:b=0\/2^(b - 1)<=X):a=b:=by
 rcases Nat.lt_trichotomy a b with h | h | h
 ·rcases h4 with h4 | h4
  ·omega
  ·have:=Nat.pow_le_pow_right (n:=2) (by omega) (show a<=b - 1 by omega)
   omega
 ·exact h
 ·rcases h2 with h2 | h2
  ·omega
  ·have:=Nat.pow_le_pow_right (n:=2) (by omega) (show b<=a - 1 by omega)
   omega
-- WHAT Len COMES TO: just as many bits.
theorem len_exact(y:Nat)(w:World):Calls Tryz.prog 112 #[wv y] w fun e w'=>e=.returned (.int .i64 (bl y 256:Nat))/\Below w.heap.size w w':=by
 obtain⟨a0,a1,a2,a3,u0,u1,u2,u3,ea,na⟩:=wv_parts y;obtain⟨s1,s2⟩:=bl_spec y 256;rw[show(2:Nat)^256=115792089237316195423570985008687907853269984665640564039457584007913129639936 by rfl,Nat.mod_mod,<- na]at s1 s2;generalize bl y 256=B at *;rw[ea];clear ea na;by_cases h3:a3=0
 ·subst h3
  by_cases h2:a2=0
  ·subst h2
   by_cases h1:a1=0
   ·subst h1
    by_cases h0:a0=0
    ·subst h0
     have e:B=0:=len_uniq s1 s2 (by decide) (.inl rfl);rw[e];exact len_0 w
    ·obtain⟨l0,l1,l2⟩:=bitLen_bounds a0 u0 h0
     have e:B=Lib.bitLen a0:=len_uniq s1 s2 (by unfold n4;omega) (.inr (by unfold n4;omega));rw[e];exact len_1 a0 (by rw[bne_iff_ne];omega) (by omega) w
   ·obtain⟨l0,l1,l2⟩:=bitLen_bounds a1 u1 h1
    have e:B=64+Lib.bitLen a1:=len_uniq s1 s2 (by rw[Nat.pow_add,show(2:Nat)^64=18446744073709551616 by rfl];unfold n4;omega) (.inr (by rw[show 64+Lib.bitLen a1 - 1=64+(Lib.bitLen a1 - 1) by omega,Nat.pow_add,show(2:Nat)^64=18446744073709551616 by rfl];unfold n4;omega));rw[e,show((64+Lib.bitLen a1:Nat):Int)=64+(Lib.bitLen a1:Nat) by simp];exact len_2 a0 a1 (by rw[bne_iff_ne];omega) (by omega) w
  ·obtain⟨l0,l1,l2⟩:=bitLen_bounds a2 u2 h2
   have e:B=128+Lib.bitLen a2:=len_uniq s1 s2 (by rw[Nat.pow_add,show(2:Nat)^128=340282366920938463463374607431768211456 by rfl];unfold n4;omega) (.inr (by rw[show 128+Lib.bitLen a2 - 1=128+(Lib.bitLen a2 - 1) by omega,Nat.pow_add,show(2:Nat)^128=340282366920938463463374607431768211456 by rfl];unfold n4;omega));rw[e,show((128+Lib.bitLen a2:Nat):Int)=128+(Lib.bitLen a2:Nat) by simp];exact len_3 a0 a1 a2 (by rw[bne_iff_ne];omega) (by omega) w
 ·obtain⟨l0,l1,l2⟩:=bitLen_bounds a3 u3 h3
  have e:B=192+Lib.bitLen a3:=len_uniq s1 s2 (by rw[Nat.pow_add,show(2:Nat)^192=6277101735386680763835789423207666416102355444464034512896 by rfl];unfold n4;omega) (.inr (by rw[show 192+Lib.bitLen a3 - 1=192+(Lib.bitLen a3 - 1) by omega,Nat.pow_add,show(2:Nat)^192=6277101735386680763835789423207666416102355444464034512896 by rfl];unfold n4;omega));rw[e,show((192+Lib.bitLen a3:Nat):Int)=192+(Lib.bitLen a3:Nat) by simp];exact len_4 a0 a1 a2 a3 (by rw[bne_iff_ne];omega) (by omega) w
open Go.RowKit
theorem of_wv(n:Nat)(hn:n<18446744073709551616)(w:World):Calls Tryz.prog 69 #[.int .u64 n] w fun e w'=>e=.returned (.agg (pw n))/\Below w.heap.size w w':=by
 have h:=of_walk n w;rw[<- wv_one hn,wv_pw]at h;exact h
open Go.RowKit
theorem remV_of{x m:Nat}(h1:0<m)(hm:m<2^256):remV x m=x%m:=by
 unfold remV;rw[Nat.mod_eq_of_lt hm,if_neg (by omega)]
theorem cmp_pw(a b:Nat)(ha:a<2^256)(hb:b<2^256)(w:World):Calls Tryz.prog 106 #[.agg (pw a),.agg (pw b)] w fun e w'=>e=.returned (.int .i64 (ord a b))/\Below w.heap.size w w':=by
 have h:=cmp_any a b w;rw[Nat.mod_eq_of_lt ha,Nat.mod_eq_of_lt hb]at h;exact h
theorem mod_pw(a m:Nat)(ha:a<2^256)(h0:0<m)(hm:m<2^256)(w:World):Calls Tryz.prog 128 #[.agg (pw a),.agg (pw m)] w fun e w'=>e=.returned (.agg (pw (a%m)))/\Below w.heap.size w w':=by
 have h:=mod_any a m w;rw[Nat.mod_eq_of_lt ha,remV_of h0 hm]at h;exact h
theorem add_pw(a b:Nat)(w:World):Calls Tryz.prog 104 #[.agg (pw a),.agg (pw b)] w fun e w'=>e=.returned (.agg (pw (a+b)))/\Below w.heap.size w w':=add_any a b w
theorem sub_pw(a b:Nat)(hb:b<2^256)(w:World):Calls Tryz.prog 107 #[.agg (pw a),.agg (pw b)] w fun e w'=>e=.returned (.agg (pw (a+(2^256 - b))))/\Below w.heap.size w w':=by
 have h:=sub_any a b w;rw[Nat.mod_eq_of_lt hb]at h;exact h
theorem pw_congr{x y:Nat}(h:x%2^256=y%2^256):pw x=pw y:=by
 have:=wv_congr h;rw[wv_pw,wv_pw]at this;injection this
theorem not_pw(a:Nat)(ha:a<2^256)(w:World):Calls Tryz.prog 124 #[.agg (pw a)] w fun e w'=>e=.returned (.agg (pw (2^256 - 1 - a)))/\Below w.heap.size w w':=by
 have h:=not_any a w;rw[Nat.mod_eq_of_lt ha]at h;exact h
theorem addmod_pw(a b m:Nat)(ha:a<2^256)(hb:b<2^256)(h0:0<m)(hm:m<2^256)(w:World):Calls Tryz.prog 125 #[.agg (pw a),.agg (pw b),.agg (pw m)] w fun e w'=>e=.returned (.agg (pw ((a+b)%m)))/\Below w.heap.size w w':=by
 have h:=addmod_any a b m w;rw[Nat.mod_eq_of_lt ha,Nat.mod_eq_of_lt hb,remV_of h0 hm]at h;exact h
theorem mulmod_pw(a b m:Nat)(ha:a<2^256)(hb:b<2^256)(h0:0<m)(hm:m<2^256)(w:World):Calls Tryz.prog 127 #[.agg (pw a),.agg (pw b),.agg (pw m)] w fun e w'=>e=.returned (.agg (pw (a*b%m)))/\Below w.heap.size w w':=by
 have h:=mulmod_any a b m w;rw[Nat.mod_eq_of_lt ha,Nat.mod_eq_of_lt hb,remV_of h0 hm]at h;exact h
theorem len_pw(a:Nat)(w:World):Calls Tryz.prog 112 #[.agg (pw a)] w fun e w'=>e=.returned (.int .i64 (bl a 256:Nat))/\Below w.heap.size w w':=len_exact a w
/-! Two words compared. -/
open Go.RowKit
-- WHAT Of COMES TO.
theorem fof_any(F m a:Nat)(ha:a<115792089237316195423570985008687907853269984665640564039457584007913129639936)(w:World)(hF:FldAt w F m):Calls Tryz.prog 103 #[.pointer (some ⟨F,0,none⟩),.agg (pw a)] w fun e w'=>e=.returned (.agg (pw (a%m)))/\Below w.heap.size w w':=by
 have H0:=Lib.hid (CW.one hF a);have HCM:=Lib.hid (CW.calls (w:=w) (F:=F) (m:=m) (L:=[(w.heap.size+1,#[.int .u64 0,.int .u64 0,.int .u64 0,.int .u64 0]),(w.heap.size,pw a)]) (v:=.int .i64 (ord a m)) (fun wx hf=>cmp_pw a m ha hf.lt wx));have HMD:=Lib.hid (CW.calls (w:=w) (F:=F) (m:=m) (L:=[(w.heap.size+1,#[.int .u64 0,.int .u64 0,.int .u64 0,.int .u64 0]),(w.heap.size,pw a)]) (v:=.agg (pw (a%m))) (fun wx hf=>mod_pw a m ha (by have:=hf.big;omega) hf.lt wx));have HQ:=Lib.hid (show a<m->a%m=a from fun h=>Nat.mod_eq_of_lt h);clear hF ha;by_cases hlt:a<m
 ·rw[HQ.out hlt]
  clear HMD HQ;go_enter Tryz.func103,Tryz.ntmps103
  go_wp2_with fail
  refine wp_region_quiet (C:=CW w F m [(w.heap.size+1,#[.int .u64 0,.int .u64 0,.int .u64 0,.int .u64 0]),(w.heap.size,pw a)]) (by kernel_rfl) (by kernel_rfl) (H0.out.drew) ?_;simp only
  with_reducible refine q_load 24 (.tmp 3) (.pointer (some ⟨w.heap.size,0,none⟩)) (.agg (pw a)) rfl (by kernel_rfl) (by kernel_rfl) (fun _ c=>ld_pw (c.is _ _ (by simp))) ?_
  with_reducible refine q_val (.pointer (some ⟨F,0,none⟩)) (by kernel_rfl) (fun _ _=>by kernel_rfl) ?_
  with_reducible refine q_val (.pointer (some ⟨F,0,none⟩)) (by kernel_rfl) (fun _ _=>run_nil (.tmp 6) _ rfl (by kernel_rfl)) ?_
  with_reducible refine q_sem2 (Instr.fieldAt 145 (.pointer (some ⟨F,0,none⟩)) 0) (.pointer (some ⟨F,0,none⟩)) (by kernel_rfl) (by kernel_rfl) (fun w' _=>fld_at F w') ?_
  with_reducible refine q_load 24 (.tmp 8) (.pointer (some ⟨F,0,none⟩)) (.agg (pw m)) rfl (by kernel_rfl) (by kernel_rfl) (fun _ c=>ld_m c.fld) ?_
  with_reducible refine q_call 106 #[.agg (pw a),.agg (pw m)] (.int .i64 (ord a m)) (by kernel_rfl) (fun _=>by kernel_rfl) (HCM.out) ?_
  with_reducible refine q_bin .lss 3 _ _ 3 (.int .i64 (ord a m)) (.int .i64 0) (.bool true) rfl (by kernel_rfl) (by kernel_rfl) (by kernel_rfl) (fun _=>by kernel_rfl) (fun w'=>(lss_ord a m w').trans (by rw[decide_eq_true hlt])) ?_
  with_reducible refine wpQuiet_nil ?_
  intro wx hC;have HC:=Lib.hid hC;clear hC H0 HCM;simp only[Act.put,List.setIfInBounds_toArray,List.set_cons_succ,List.set_cons_zero]
  go_wp2_with (first | (refine wpList_ld rfl 24 _ rfl (.pointer (some ⟨w.heap.size,0,none⟩)) (.agg (pw a)) rfl (ld_pw (by exact HC.out.is _ _ (by simp))) ?_) | (refine wpList_store_row rfl 24 _ _ rfl (w.heap.size+1) (pw a) rfl rfl 24 (#[.int .u64 0,.int .u64 0,.int .u64 0,.int .u64 0]) (by exact HC.out.is _ _ (by simp)) (by rw[pw_size];exact infoW4) (by first | rfl | (rw[pw_size];rfl) | (rw[pw_size,pw_size])) (pw_one _) ?_))
  (try simp only[Act.put])
  refine bodyPost_ret (v:=.agg (pw a)) (results_cell_row (p:=4) rfl _ _ (w.heap.size+1) 24 (pw a) (0,0) _ rfl (setRow_heap _ _ _ _ _ _ (by exact HC.out.is _ (#[.int .u64 0,.int .u64 0,.int .u64 0,.int .u64 0]) (by simp))) Tryz.underlying24 rfl (by rw[pw_size];exact infoW4)) rfl ⟨rfl,below_setRow HC.out.old (by omega) _⟩
 ·obtain⟨y,hy⟩:∃ y,a%m=y:=⟨_,rfl⟩
  rw[hy]at HMD |-
  clear HQ hy;go_enter Tryz.func103,Tryz.ntmps103
  go_wp2_with fail
  refine wp_region_quiet (C:=CW w F m [(w.heap.size+1,#[.int .u64 0,.int .u64 0,.int .u64 0,.int .u64 0]),(w.heap.size,pw a)]) (by kernel_rfl) (by kernel_rfl) (H0.out.drew) ?_;simp only
  with_reducible refine q_load 24 (.tmp 3) (.pointer (some ⟨w.heap.size,0,none⟩)) (.agg (pw a)) rfl (by kernel_rfl) (by kernel_rfl) (fun _ c=>ld_pw (c.is _ _ (by simp))) ?_
  with_reducible refine q_val (.pointer (some ⟨F,0,none⟩)) (by kernel_rfl) (fun _ _=>by kernel_rfl) ?_
  with_reducible refine q_val (.pointer (some ⟨F,0,none⟩)) (by kernel_rfl) (fun _ _=>run_nil (.tmp 6) _ rfl (by kernel_rfl)) ?_
  with_reducible refine q_sem2 (Instr.fieldAt 145 (.pointer (some ⟨F,0,none⟩)) 0) (.pointer (some ⟨F,0,none⟩)) (by kernel_rfl) (by kernel_rfl) (fun w' _=>fld_at F w') ?_
  with_reducible refine q_load 24 (.tmp 8) (.pointer (some ⟨F,0,none⟩)) (.agg (pw m)) rfl (by kernel_rfl) (by kernel_rfl) (fun _ c=>ld_m c.fld) ?_
  with_reducible refine q_call 106 #[.agg (pw a),.agg (pw m)] (.int .i64 (ord a m)) (by kernel_rfl) (fun _=>by kernel_rfl) (HCM.out) ?_
  with_reducible refine q_bin .lss 3 _ _ 3 (.int .i64 (ord a m)) (.int .i64 0) (.bool false) rfl (by kernel_rfl) (by kernel_rfl) (by kernel_rfl) (fun _=>by kernel_rfl) (fun w'=>(lss_ord a m w').trans (by rw[decide_eq_false hlt])) ?_
  with_reducible refine wpQuiet_nil ?_
  intro wx hC;have HC:=Lib.hid hC;clear hC H0 HCM;simp only[Act.put,List.setIfInBounds_toArray,List.set_cons_succ,List.set_cons_zero]
  go_wp2_with fail
  refine region_quiet_tail 6 (CW w F m [(w.heap.size+1,#[.int .u64 0,.int .u64 0,.int .u64 0,.int .u64 0]),(w.heap.size,pw a)]) (by kernel_rfl) (by kernel_rfl) (HC.out.drew) ?_;simp only[List.take_succ_cons,List.take_zero,List.drop_succ_cons,List.drop_zero]
  with_reducible refine q_load 24 (.tmp 3) (.pointer (some ⟨w.heap.size,0,none⟩)) (.agg (pw a)) rfl (by kernel_rfl) (by kernel_rfl) (fun _ c=>ld_pw (c.is _ _ (by simp))) ?_
  with_reducible refine q_val (.pointer (some ⟨F,0,none⟩)) (by kernel_rfl) (fun _ _=>by kernel_rfl) ?_
  with_reducible refine q_val (.pointer (some ⟨F,0,none⟩)) (by kernel_rfl) (fun _ _=>run_nil (.tmp 14) _ rfl (by kernel_rfl)) ?_
  with_reducible refine q_sem2 (Instr.fieldAt 145 (.pointer (some ⟨F,0,none⟩)) 0) (.pointer (some ⟨F,0,none⟩)) (by kernel_rfl) (by kernel_rfl) (fun w' _=>fld_at F w') ?_
  with_reducible refine q_load 24 (.tmp 16) (.pointer (some ⟨F,0,none⟩)) (.agg (pw m)) rfl (by kernel_rfl) (by kernel_rfl) (fun _ c=>ld_m c.fld) ?_
  with_reducible refine q_call 128 #[.agg (pw a),.agg (pw m)] (.agg (pw y)) (by kernel_rfl) (fun _=>by kernel_rfl) (HMD.out) ?_
  with_reducible refine wpQuiet_nil ?_
  intro wx hC;have HC2:=Lib.hid hC;clear hC HC HMD;simp only[Act.put,List.setIfInBounds_toArray,List.set_cons_succ,List.set_cons_zero]
  go_wp2_with (refine wpList_store_row rfl 24 _ _ rfl (w.heap.size+1) (pw y) rfl rfl 24 (#[.int .u64 0,.int .u64 0,.int .u64 0,.int .u64 0]) (by exact HC2.out.is _ _ (by simp)) (by rw[pw_size];exact infoW4) (by first | rfl | (rw[pw_size];rfl) | (rw[pw_size,pw_size])) (pw_one _) ?_)
  (try simp only[Act.put])
  refine bodyPost_ret (v:=.agg (pw y)) (results_cell_row (p:=4) rfl _ _ (w.heap.size+1) 24 (pw y) (0,0) _ rfl (setRow_heap _ _ _ _ _ _ (by exact HC2.out.is _ (#[.int .u64 0,.int .u64 0,.int .u64 0,.int .u64 0]) (by simp))) Tryz.underlying24 rfl (by rw[pw_size];exact infoW4)) rfl ⟨rfl,below_setRow HC2.out.old (by omega) _⟩
open Go.RowKit
structure CO (w:World) (F m a b:Nat) (wx:World):Prop where
 old:Below w.heap.size w wx
 fld:FldAt wx F m
 hF:F<w.heap.size
 r0:∃ x,wx.heap[w.heap.size]?=some (.cells (pw x) 24 (0,0))/\x<2^256/\x%m=a%m
 r1:∃ x,wx.heap[w.heap.size+1]?=some (.cells (pw x) 24 (0,0))/\x<2^256/\x%m=b%m
 r2:wx.heap[w.heap.size+1+1]?=some (.cells #[.int .u64 0,.int .u64 0,.int .u64 0,.int .u64 0] 24 (0,0))
theorem CO.below{w wx w':World}{F m a b:Nat}(c:CO w F m a b wx)(hb:Below wx.heap.size wx w'):CO w F m a b w':=by
 obtain⟨x,h1,h2⟩:=c.r0;obtain⟨y,h3,h4⟩:=c.r1;exact⟨c.old.trans (hb.mono c.old.size),c.fld.below hb,c.hF,⟨x,(hb.block _ (Array.getElem?_eq_some_iff.1 h1).1).trans h1,h2⟩,⟨y,(hb.block _ (Array.getElem?_eq_some_iff.1 h3).1).trans h3,h4⟩,(hb.block _ (Array.getElem?_eq_some_iff.1 c.r2).1).trans c.r2⟩
theorem CO.drew{w wx:World}{F m a b:Nat}(c:CO w F m a b wx):CO w F m a b wx.drew:=c.below (Below.drew (Below.refl _ _))
theorem fld_row{w:World}{F m g:Nat}{cs:Array Value}(h:FldAt w F m)(hg:F≠g):FldAt (w.setRow g cs) F m:=⟨(setRow_other _ _ _ _ hg).trans h.row,h.odd,h.big,h.lt⟩
theorem CO.set0{w wx:World}{F m a b:Nat}(c:CO w F m a b wx):CO w F m a b (wx.setRow w.heap.size (pw (a%m))):=by
 obtain⟨x,h1,h2⟩:=c.r0;obtain⟨y,h3,h4⟩:=c.r1;have hF:=c.hF;exact⟨below_setRow c.old (Nat.le_refl _) _,fld_row c.fld (by omega),c.hF,⟨a%m,setRow_heap _ _ _ _ _ _ h1,Nat.lt_trans (Nat.mod_lt _ (by have:=c.fld.big;omega)) c.fld.lt,Nat.mod_mod _ _⟩,⟨y,(setRow_other _ _ _ _ (by omega)).trans h3,h4⟩,(setRow_other _ _ _ _ (by omega)).trans c.r2⟩
theorem CO.set1{w wx:World}{F m a b:Nat}(c:CO w F m a b wx):CO w F m a b (wx.setRow (w.heap.size+1) (pw (b%m))):=by
 obtain⟨x,h1,h2⟩:=c.r0;obtain⟨y,h3,h4⟩:=c.r1;have hF:=c.hF;exact⟨below_setRow c.old (by omega) _,fld_row c.fld (by omega),c.hF,⟨x,(setRow_other _ _ _ _ (by omega)).trans h1,h2⟩,⟨b%m,setRow_heap _ _ _ _ _ _ h3,Nat.lt_trans (Nat.mod_lt _ (by have:=c.fld.big;omega)) c.fld.lt,Nat.mod_mod _ _⟩,(setRow_other _ _ _ _ (by omega)).trans c.r2⟩
theorem CO.start{w:World}{F m a b:Nat}(h:FldAt w F m)(ha:a<2^256)(hb:b<2^256):CO w F m a b (((w.alloc (.cells (pw a) 24)).alloc (.cells (pw b) 24)).alloc (.cells #[.int .u64 0,.int .u64 0,.int .u64 0,.int .u64 0] 24)):=by
 have c:=CW.two h a b;exact⟨c.old,c.fld,c.hF,⟨a,c.is _ _ (by simp),ha,rfl⟩,⟨b,c.is _ _ (by simp),hb,rfl⟩,c.is _ _ (by simp)⟩
theorem CO.done{w wx:World}{F m a b:Nat}(c:CO w F m a b wx)(h0:wx.heap[w.heap.size]?=some (.cells (pw (a%m)) 24 (0,0)))(h1:wx.heap[w.heap.size+1]?=some (.cells (pw (b%m)) 24 (0,0))):CW w F m [(w.heap.size+1+1,#[.int .u64 0,.int .u64 0,.int .u64 0,.int .u64 0]),(w.heap.size+1,pw (b%m)),(w.heap.size,pw (a%m))] wx :=
 ⟨c.old,c.fld,c.hF,fun p hp=>by
  simp only[List.mem_cons,List.not_mem_nil,or_false]at hp;rcases hp with rfl | rfl | rfl
  ·exact c.r2
  ·exact h1
  ·exact h0⟩
def RO(w:World)(x y:Nat)(wa wb:World):Prop:=(wa.heap[w.heap.size]?=some (.cells (pw x) 24 (0,0))->wb.heap[w.heap.size]?=some (.cells (pw x) 24 (0,0)))/\(wa.heap[w.heap.size+1]?=some (.cells (pw y) 24 (0,0))->wb.heap[w.heap.size+1]?=some (.cells (pw y) 24 (0,0)))
theorem RO.refl(w:World)(x y:Nat)(wa:World):RO w x y wa wa:=⟨id,id⟩
theorem RO.of{w wa wb:World}{x y:Nat}(hb:Below wa.heap.size wa wb):RO w x y wa wb:=⟨fun h=>(hb.block _ (Array.getElem?_eq_some_iff.1 h).1).trans h,fun h=>(hb.block _ (Array.getElem?_eq_some_iff.1 h).1).trans h⟩
theorem store_w{g x:Nat}{w:World}{cs:Array Value}(hs:cs.size=4)(hg:w.heap[g]?=some (.cells cs 24 (0,0))):(Instr.storeAt 24 (.pointer (some ⟨g,0,none⟩)) (.agg (pw x))).run Tryz.prog w=.ok () (w.setRow g (pw x)):=store_pw hs hg
theorem add_less{m x y:Nat}(hx:x<m)(hy:y<m)(hm:m<2^256):pw (lessV m ((x+y)%2^256) (decide ((x+y)%2^256<x)))=pw ((x+y)%m):=by
 apply pw_congr;unfold lessV;rw[Nat.mod_mod];by_cases h:x+y<m
 ·rw[Nat.mod_eq_of_lt h,Nat.mod_eq_of_lt (show x+y<2^256 by omega),if_neg (by simp;omega)]
  exact Nat.mod_eq_of_lt (by omega)
 ·have e:(x+y)%m=x+y - m:=by rw[Nat.mod_eq_sub_mod (by omega),Nat.mod_eq_of_lt (by omega)]
  rw[e];by_cases h2:x+y<2^256
  ·rw[Nat.mod_eq_of_lt h2,if_pos (by right;omega),show x+y+(2^256 - m)=x+y - m+2^256 by omega,Nat.add_mod_right]
  ·rw[if_pos (by left;simp;omega)]
   omega
theorem sub_less{m x y:Nat}(hx:x<m)(hy:y<m)(hm:m<2^256):(x<y->pw ((x+(2^256 - y))%2^256+m)=pw ((x+(m - y))%m))/\(¬x<y->pw ((x+(2^256 - y))%2^256)=pw ((x+(m - y))%m)):=by
 refine⟨fun h=>pw_congr ?_,fun h=>pw_congr ?_⟩
 ·rw[Nat.mod_eq_of_lt (show x+(m - y)<m by omega)]
  omega
 ·rw[Nat.mod_eq_sub_mod (show m<=x+(m - y) by omega),Nat.mod_eq_of_lt (show x+(m - y) - m<m by omega)]
  omega
-- WHAT Add COMES TO.
theorem fadd_any(F m a b:Nat)(ha:a<2^256)(hb:b<2^256)(w:World)(hF:FldAt w F m):Calls Tryz.prog 65 #[.pointer (some ⟨F,0,none⟩),.agg (pw a),.agg (pw b)] w fun e w'=>e=.returned (.agg (pw ((a+b)%m)))/\Below w.heap.size w w':=by
 have H0:=Lib.hid (CO.start hF ha hb);have hlt:∀ z,z%m<m:=fun z=>Nat.mod_lt _ (by have:=hF.big;omega);have HE:=Lib.hid (add_less (hlt a) (hlt b) hF.lt);have HN:=Lib.hid (show a%m<2^256/\b%m<2^256 from⟨Nat.lt_trans (hlt a) hF.lt,Nat.lt_trans (hlt b) hF.lt⟩);have HR:=Lib.hid (show(a+b)%m=(a%m+b%m)%m from Nat.add_mod _ _ _);clear hF ha hb hlt;go_enter Tryz.func65,Tryz.ntmps65
 go_wp2_with fail
 refine region_tie (CO w F m a b) (fun i s wx=>match i with | 0=>s 8=.pointer (some ⟨F,0,none⟩) | 1=>∃ x,s 9=.agg (pw x)/\x<2^256/\x%m=a%m | 2=>s 10=.agg (pw (a%m)) | 3=>s 11=.pointer (some ⟨F,0,none⟩) | 4=>∃ x,s 12=.agg (pw x)/\x<2^256/\x%m=b%m | 5=>s 13=.agg (pw (b%m)) | 6=>wx.heap[w.heap.size]?=some (.cells (pw (a%m)) 24 (0,0)) | 7=>wx.heap[w.heap.size+1]?=some (.cells (pw (b%m)) 24 (0,0)) | _=>True) (RO w (a%m) (b%m)) (fun i=>match i with | 0=>[8] | 1=>[9] | 2=>[10] | 3=>[11] | 4=>[12] | 5=>[13] | 6=>[] | 7=>[] | _=>[]) (fun i=>i) (by kernel_rfl) (by kernel_rfl) H0.out.drew ?_ ?_ ?_ ?_
 ·intro i s s' wx he hp
  match i,he,hp with
  | 0,he,hp=>exact(he 8 (by simp)).symm.trans hp
  | 1,he,hp=>obtain⟨x,h1,h2⟩:=hp;exact⟨x,(he 9 (by simp)).symm.trans h1,h2⟩
  | 2,he,hp=>exact(he 10 (by simp)).symm.trans hp
  | 3,he,hp=>exact(he 11 (by simp)).symm.trans hp
  | 4,he,hp=>obtain⟨x,h1,h2⟩:=hp;exact⟨x,(he 12 (by simp)).symm.trans h1,h2⟩
  | 5,he,hp=>exact(he 13 (by simp)).symm.trans hp
  | 6,he,hp=>exact hp
  | 7,he,hp=>exact hp
  | _+8,_,_=>trivial
 ·intro i s wa wb hR hp
  match i,hp with
  | 0,hp=>exact hp
  | 1,hp=>exact hp
  | 2,hp=>exact hp
  | 3,hp=>exact hp
  | 4,hp=>exact hp
  | 5,hp=>exact hp
  | 6,hp=>exact hR.1 hp
  | 7,hp=>exact hR.2 hp
  | _+8,_=>trivial
 ·refine⟨?_,?_,?_,?_,?_,?_,?_,?_,trivial⟩
  ·intro a_ wx hC hsz hK
   have h0:a_.tmps.getD 0 undef=(.pointer (some ⟨F,0,none⟩)):=hK.1 0 (by kernel_rfl);exact tt_val (.pointer (some ⟨F,0,none⟩)) (by kernel_rfl) (by rw[<- h0];kernel_rfl) hC (slots_put _ _ _ (by rw[hsz];exact of_decide_eq_true (by kernel_rfl))) (RO.refl _ _ _ _)
  ·intro a_ wx hC hsz hK
   have h0:a_.tmps.getD 4 undef=(.pointer (some ⟨w.heap.size,0,none⟩)):=hK.1 4 (by kernel_rfl);obtain⟨x,h1,h2⟩:=hC.r0;exact tt_load 24 (.tmp 4) (.pointer (some ⟨w.heap.size,0,none⟩)) (.agg (pw x)) rfl (by kernel_rfl) h0 (ld_pw h1) hC ⟨x,(slots_put _ _ _ (by rw[hsz];exact of_decide_eq_true (by kernel_rfl))),h2⟩ (RO.refl _ _ _ _)
  ·intro a_ wx hC hsz hK
   have h0:a_.tmps.getD 8 undef=(.pointer (some ⟨F,0,none⟩)):=hK.2 ⟨0,.data⟩ (by simp) rfl _ rfl;obtain⟨x,h1,h2,h3⟩:=hK.2 ⟨1,.data⟩ (by simp) rfl _ rfl;refine tt_call 103 #[a_.tmps.getD 8 undef,a_.tmps.getD 9 undef] (by kernel_rfl) (by kernel_rfl) ?_;rw[h0,show a_.tmps.getD 9 undef=_ from h1];exact(fof_any F m x h2 wx hC.fld).mono fun e w' hh=>⟨.agg (pw (a%m)),by rw[hh.1,h3],hC.below hh.2,(slots_put _ _ _ (by rw[hsz];exact of_decide_eq_true (by kernel_rfl))),RO.of hh.2⟩
  ·intro a_ wx hC hsz hK
   have h0:a_.tmps.getD 0 undef=(.pointer (some ⟨F,0,none⟩)):=hK.1 0 (by kernel_rfl);exact tt_val (.pointer (some ⟨F,0,none⟩)) (by kernel_rfl) (by rw[<- h0];kernel_rfl) hC (slots_put _ _ _ (by rw[hsz];exact of_decide_eq_true (by kernel_rfl))) (RO.refl _ _ _ _)
  ·intro a_ wx hC hsz hK
   have h0:a_.tmps.getD 5 undef=(.pointer (some ⟨w.heap.size+1,0,none⟩)):=hK.1 5 (by kernel_rfl);obtain⟨x,h1,h2⟩:=hC.r1;exact tt_load 24 (.tmp 5) (.pointer (some ⟨w.heap.size+1,0,none⟩)) (.agg (pw x)) rfl (by kernel_rfl) h0 (ld_pw h1) hC ⟨x,(slots_put _ _ _ (by rw[hsz];exact of_decide_eq_true (by kernel_rfl))),h2⟩ (RO.refl _ _ _ _)
  ·intro a_ wx hC hsz hK
   have h0:a_.tmps.getD 11 undef=(.pointer (some ⟨F,0,none⟩)):=hK.2 ⟨3,.data⟩ (by simp) rfl _ rfl;obtain⟨x,h1,h2,h3⟩:=hK.2 ⟨4,.data⟩ (by simp) rfl _ rfl;refine tt_call 103 #[a_.tmps.getD 11 undef,a_.tmps.getD 12 undef] (by kernel_rfl) (by kernel_rfl) ?_;rw[h0,show a_.tmps.getD 12 undef=_ from h1];exact(fof_any F m x h2 wx hC.fld).mono fun e w' hh=>⟨.agg (pw (b%m)),by rw[hh.1,h3],hC.below hh.2,(slots_put _ _ _ (by rw[hsz];exact of_decide_eq_true (by kernel_rfl))),RO.of hh.2⟩
  ·intro a_ wx hC hsz hK
   have h0:a_.tmps.getD 4 undef=(.pointer (some ⟨w.heap.size,0,none⟩)):=hK.1 4 (by kernel_rfl);have h1:a_.tmps.getD 10 undef=.agg (pw (a%m)):=hK.2 ⟨2,.data⟩ (by simp) rfl _ rfl;obtain⟨x,h2,h3⟩:=hC.r0;exact tt_store (by kernel_rfl) rfl (run_st 24 (.tmp 4) (.tmp 10) _ _ rfl h0 h1 (store_w (pw_size _) h2)) hC.set0 (setRow_heap _ _ _ _ _ _ h2) ⟨fun _=>setRow_heap _ _ _ _ _ _ h2,fun h=>(setRow_other _ _ _ _ (by omega)).trans h⟩
  ·intro a_ wx hC hsz hK
   have h0:a_.tmps.getD 5 undef=(.pointer (some ⟨w.heap.size+1,0,none⟩)):=hK.1 5 (by kernel_rfl);have h1:a_.tmps.getD 13 undef=.agg (pw (b%m)):=hK.2 ⟨5,.data⟩ (by simp) rfl _ rfl;obtain⟨x,h2,h3⟩:=hC.r1;exact tt_store (by kernel_rfl) rfl (run_st 24 (.tmp 5) (.tmp 13) _ _ rfl h0 h1 (store_w (pw_size _) h2)) hC.set1 (setRow_heap _ _ _ _ _ _ h2) ⟨fun h=>(setRow_other _ _ _ _ (by omega)).trans h,fun _=>setRow_heap _ _ _ _ _ _ h2⟩
 intro f1 wy hCy hf;have k0:=hf 6 _ rfl;have k1:=hf 7 _ rfl;have H1:=Lib.hid (hCy.done k0 k1);clear hf hCy k0 k1 H0;simp only[putAll,Act.put,List.setIfInBounds_toArray,List.set_cons_succ,List.set_cons_zero];obtain⟨x,hx⟩:∃ x,a%m=x:=⟨_,rfl⟩
 obtain⟨y,hy⟩:∃ y,b%m=y:=⟨_,rfl⟩
 rw[hx,hy]at H1 HE HN HR;clear hx hy
 go_wp2_with (first | (refine wpList_ld rfl 24 _ rfl (.pointer (some ⟨w.heap.size,0,none⟩)) (.agg (pw x)) rfl (ld_pw (by exact H1.out.is _ _ (by simp))) ?_) | (refine wpList_ld rfl 24 _ rfl (.pointer (some ⟨w.heap.size+1,0,none⟩)) (.agg (pw y)) rfl (ld_pw (by exact H1.out.is _ _ (by simp))) ?_))
 refine(add_pw x y _).mono ?_;rintro e w5 ⟨rfl,hb5⟩;rw[show pw (x+y)=pw ((x+y)%2^256) from pw_congr (by rw[Nat.mod_mod])];obtain⟨z,hz⟩:∃ z,(x+y)%2^256=z:=⟨_,rfl⟩
 have HZ:=Lib.hid (show z<2^256 from by rw[<- hz];exact Nat.mod_lt _ (by omega));rw[hz]at HE |-
 clear hz;obtain⟨g,hg⟩:∃ g,w5.heap.size=g:=⟨_,rfl⟩
 have H5:=Lib.hid (show CW w F m [(g,pw z),(w.heap.size+1+1,#[.int .u64 0,.int .u64 0,.int .u64 0,.int .u64 0]),(w.heap.size,pw x)] ((w5.alloc (.cells #[.int .u64 0,.int .u64 0,.int .u64 0,.int .u64 0] 24)).setRow w5.heap.size (pw z)) from by
  rw[<- hg];have c:=(H1.out.below hb5).new #[.int .u64 0,.int .u64 0,.int .u64 0,.int .u64 0];have h9:=(H1.out.below hb5).old.size;have h8:w.heap.size+1+1<w5.heap.size:=(Array.getElem?_eq_some_iff.1 ((H1.out.below hb5).is (w.heap.size+1+1) #[.int .u64 0,.int .u64 0,.int .u64 0,.int .u64 0] (by simp))).1;exact c.put w5.heap.size #[.int .u64 0,.int .u64 0,.int .u64 0,.int .u64 0] (pw z) _ h9 (by simp) (fun p hp=>by
   simp only[List.mem_cons,List.not_mem_nil,or_false]at hp;rcases hp with rfl | rfl
   ·exact⟨by simp,by show w.heap.size+1+1≠_;omega⟩
   ·exact⟨by simp,by show w.heap.size≠_;omega⟩))
 have HG:=Lib.hid (And.intro hg (heap_alloc_new w5 (.cells #[.int .u64 0,.int .u64 0,.int .u64 0,.int .u64 0] 24)));clear hb5 hg
 go_wp2_with (refine wpList_store_row rfl 24 _ _ rfl w5.heap.size (pw z) rfl rfl 24 (#[.int .u64 0,.int .u64 0,.int .u64 0,.int .u64 0]) (by exact HG.out.2) (by rw[pw_size];exact infoW4) (by rw[pw_size];rfl) (pw_one _) ?_)
 obtain⟨w6,hw6⟩:∃ w6,(w5.alloc (.cells #[.int .u64 0,.int .u64 0,.int .u64 0,.int .u64 0] 24)).setRow w5.heap.size (pw z)=w6:=⟨_,rfl⟩
 rw[hw6]at H5 |-
 rw[HG.out.1];clear hw6 HG H1;have HCM:=Lib.hid (CW.calls (w:=w) (F:=F) (m:=m) (L:=[(g,pw z),(w.heap.size+1+1,#[.int .u64 0,.int .u64 0,.int .u64 0,.int .u64 0]),(w.heap.size,pw x)]) (fun wx _=>cmp_pw z x HZ.out HN.out.1 wx));have HLO:=Lib.hid (CW.calls (w:=w) (F:=F) (m:=m) (L:=[(g,pw z),(w.heap.size+1+1,#[.int .u64 0,.int .u64 0,.int .u64 0,.int .u64 0]),(w.heap.size,pw x)]) (fun wx hf=>lessOnce_any F m z (decide (z<x)) wx hf));rw[HE.out]at HLO;obtain⟨v,hv⟩:∃ v,(x+y)%m=v:=⟨_,rfl⟩
 rw[hv]at HLO;have HV:=Lib.hid hv;clear hv;refine region_quiet_tail 7 (CW w F m [(g,pw z),(w.heap.size+1+1,#[.int .u64 0,.int .u64 0,.int .u64 0,.int .u64 0]),(w.heap.size,pw x)]) (by kernel_rfl) (by kernel_rfl) (H5.out.drew) ?_;simp only[List.take_succ_cons,List.take_zero,List.drop_succ_cons,List.drop_zero]
 with_reducible refine q_val (.pointer (some ⟨F,0,none⟩)) (by kernel_rfl) (fun _ _=>by kernel_rfl) ?_
 with_reducible refine q_load 24 (.tmp 7) (.pointer (some ⟨g,0,none⟩)) (.agg (pw z)) rfl (by kernel_rfl) (by kernel_rfl) (fun _ c=>ld_pw (c.is _ _ (by simp))) ?_
 with_reducible refine q_load 24 (.tmp 7) (.pointer (some ⟨g,0,none⟩)) (.agg (pw z)) rfl (by kernel_rfl) (by kernel_rfl) (fun _ c=>ld_pw (c.is _ _ (by simp))) ?_
 with_reducible refine q_load 24 (.tmp 4) (.pointer (some ⟨w.heap.size,0,none⟩)) (.agg (pw x)) rfl (by kernel_rfl) (by kernel_rfl) (fun _ c=>ld_pw (c.is _ _ (by simp))) ?_
 with_reducible refine q_call 106 #[.agg (pw z),.agg (pw x)] (.int .i64 (ord z x)) (by kernel_rfl) (fun _=>by kernel_rfl) (HCM.out) ?_
 with_reducible refine q_bin .lss 3 _ _ 3 (.int .i64 (ord z x)) (.int .i64 0) (.bool (decide (z<x))) rfl (by kernel_rfl) (by kernel_rfl) (by kernel_rfl) (fun _=>by kernel_rfl) (fun w'=>lss_ord z x w') ?_
 with_reducible refine q_call 105 #[.pointer (some ⟨F,0,none⟩),.agg (pw z),.bool (decide (z<x))] (.agg (pw v)) (by kernel_rfl) (fun _=>by kernel_rfl) (HLO.out) ?_
 with_reducible refine wpQuiet_nil ?_
 intro wx hC;have HC:=Lib.hid hC;clear hC H5 HCM HLO;simp only[Act.put,List.setIfInBounds_toArray,List.set_cons_succ,List.set_cons_zero]
 go_wp2_with (refine wpList_store_row rfl 24 _ _ rfl (w.heap.size+1+1) (pw v) rfl rfl 24 (#[.int .u64 0,.int .u64 0,.int .u64 0,.int .u64 0]) (by exact HC.out.is _ _ (by simp)) (by rw[pw_size];exact infoW4) (by first | rfl | (rw[pw_size];rfl) | (rw[pw_size,pw_size])) (pw_one _) ?_)
 (try simp only[Act.put])
 refine bodyPost_ret (v:=.agg (pw v)) (results_cell_row (p:=6) rfl _ _ (w.heap.size+1+1) 24 (pw v) (0,0) _ rfl (setRow_heap _ _ _ _ _ _ (by exact HC.out.is _ (#[.int .u64 0,.int .u64 0,.int .u64 0,.int .u64 0]) (by simp))) Tryz.underlying24 rfl (by rw[pw_size];exact infoW4)) rfl ⟨by rw[<- HV.out,HR.out],below_setRow HC.out.old (by omega) _⟩
-- WHAT Sub COMES TO.
theorem fsub_any(F m a b:Nat)(ha:a<2^256)(hb:b<2^256)(w:World)(hF:FldAt w F m):Calls Tryz.prog 66 #[.pointer (some ⟨F,0,none⟩),.agg (pw a),.agg (pw b)] w fun e w'=>e=.returned (.agg (pw ((a%m+(m - b%m))%m)))/\Below w.heap.size w w':=by
 have H0:=Lib.hid (CO.start hF ha hb);have hlt:∀ z,z%m<m:=fun z=>Nat.mod_lt _ (by have:=hF.big;omega);have HE:=Lib.hid (sub_less (hlt a) (hlt b) hF.lt);have HN:=Lib.hid (show a%m<2^256/\b%m<2^256 from⟨Nat.lt_trans (hlt a) hF.lt,Nat.lt_trans (hlt b) hF.lt⟩);clear hF ha hb hlt;go_enter Tryz.func66,Tryz.ntmps66
 go_wp2_with fail
 refine region_tie (CO w F m a b) (fun i s wx=>match i with | 0=>s 8=.pointer (some ⟨F,0,none⟩) | 1=>∃ x,s 9=.agg (pw x)/\x<2^256/\x%m=a%m | 2=>s 10=.agg (pw (a%m)) | 3=>s 11=.pointer (some ⟨F,0,none⟩) | 4=>∃ x,s 12=.agg (pw x)/\x<2^256/\x%m=b%m | 5=>s 13=.agg (pw (b%m)) | 6=>wx.heap[w.heap.size]?=some (.cells (pw (a%m)) 24 (0,0)) | 7=>wx.heap[w.heap.size+1]?=some (.cells (pw (b%m)) 24 (0,0)) | _=>True) (RO w (a%m) (b%m)) (fun i=>match i with | 0=>[8] | 1=>[9] | 2=>[10] | 3=>[11] | 4=>[12] | 5=>[13] | 6=>[] | 7=>[] | _=>[]) (fun i=>i) (by kernel_rfl) (by kernel_rfl) H0.out.drew ?_ ?_ ?_ ?_
 ·intro i s s' wx he hp
  match i,he,hp with
  | 0,he,hp=>exact(he 8 (by simp)).symm.trans hp
  | 1,he,hp=>obtain⟨x,h1,h2⟩:=hp;exact⟨x,(he 9 (by simp)).symm.trans h1,h2⟩
  | 2,he,hp=>exact(he 10 (by simp)).symm.trans hp
  | 3,he,hp=>exact(he 11 (by simp)).symm.trans hp
  | 4,he,hp=>obtain⟨x,h1,h2⟩:=hp;exact⟨x,(he 12 (by simp)).symm.trans h1,h2⟩
  | 5,he,hp=>exact(he 13 (by simp)).symm.trans hp
  | 6,he,hp=>exact hp
  | 7,he,hp=>exact hp
  | _+8,_,_=>trivial
 ·intro i s wa wb hR hp
  match i,hp with
  | 0,hp=>exact hp
  | 1,hp=>exact hp
  | 2,hp=>exact hp
  | 3,hp=>exact hp
  | 4,hp=>exact hp
  | 5,hp=>exact hp
  | 6,hp=>exact hR.1 hp
  | 7,hp=>exact hR.2 hp
  | _+8,_=>trivial
 ·refine⟨?_,?_,?_,?_,?_,?_,?_,?_,trivial⟩
  ·intro a_ wx hC hsz hK
   have h0:a_.tmps.getD 0 undef=(.pointer (some ⟨F,0,none⟩)):=hK.1 0 (by kernel_rfl);exact tt_val (.pointer (some ⟨F,0,none⟩)) (by kernel_rfl) (by rw[<- h0];kernel_rfl) hC (slots_put _ _ _ (by rw[hsz];exact of_decide_eq_true (by kernel_rfl))) (RO.refl _ _ _ _)
  ·intro a_ wx hC hsz hK
   have h0:a_.tmps.getD 4 undef=(.pointer (some ⟨w.heap.size,0,none⟩)):=hK.1 4 (by kernel_rfl);obtain⟨x,h1,h2⟩:=hC.r0;exact tt_load 24 (.tmp 4) (.pointer (some ⟨w.heap.size,0,none⟩)) (.agg (pw x)) rfl (by kernel_rfl) h0 (ld_pw h1) hC ⟨x,(slots_put _ _ _ (by rw[hsz];exact of_decide_eq_true (by kernel_rfl))),h2⟩ (RO.refl _ _ _ _)
  ·intro a_ wx hC hsz hK
   have h0:a_.tmps.getD 8 undef=(.pointer (some ⟨F,0,none⟩)):=hK.2 ⟨0,.data⟩ (by simp) rfl _ rfl;obtain⟨x,h1,h2,h3⟩:=hK.2 ⟨1,.data⟩ (by simp) rfl _ rfl;refine tt_call 103 #[a_.tmps.getD 8 undef,a_.tmps.getD 9 undef] (by kernel_rfl) (by kernel_rfl) ?_;rw[h0,show a_.tmps.getD 9 undef=_ from h1];exact(fof_any F m x h2 wx hC.fld).mono fun e w' hh=>⟨.agg (pw (a%m)),by rw[hh.1,h3],hC.below hh.2,(slots_put _ _ _ (by rw[hsz];exact of_decide_eq_true (by kernel_rfl))),RO.of hh.2⟩
  ·intro a_ wx hC hsz hK
   have h0:a_.tmps.getD 0 undef=(.pointer (some ⟨F,0,none⟩)):=hK.1 0 (by kernel_rfl);exact tt_val (.pointer (some ⟨F,0,none⟩)) (by kernel_rfl) (by rw[<- h0];kernel_rfl) hC (slots_put _ _ _ (by rw[hsz];exact of_decide_eq_true (by kernel_rfl))) (RO.refl _ _ _ _)
  ·intro a_ wx hC hsz hK
   have h0:a_.tmps.getD 5 undef=(.pointer (some ⟨w.heap.size+1,0,none⟩)):=hK.1 5 (by kernel_rfl);obtain⟨x,h1,h2⟩:=hC.r1;exact tt_load 24 (.tmp 5) (.pointer (some ⟨w.heap.size+1,0,none⟩)) (.agg (pw x)) rfl (by kernel_rfl) h0 (ld_pw h1) hC ⟨x,(slots_put _ _ _ (by rw[hsz];exact of_decide_eq_true (by kernel_rfl))),h2⟩ (RO.refl _ _ _ _)
  ·intro a_ wx hC hsz hK
   have h0:a_.tmps.getD 11 undef=(.pointer (some ⟨F,0,none⟩)):=hK.2 ⟨3,.data⟩ (by simp) rfl _ rfl;obtain⟨x,h1,h2,h3⟩:=hK.2 ⟨4,.data⟩ (by simp) rfl _ rfl;refine tt_call 103 #[a_.tmps.getD 11 undef,a_.tmps.getD 12 undef] (by kernel_rfl) (by kernel_rfl) ?_;rw[h0,show a_.tmps.getD 12 undef=_ from h1];exact(fof_any F m x h2 wx hC.fld).mono fun e w' hh=>⟨.agg (pw (b%m)),by rw[hh.1,h3],hC.below hh.2,(slots_put _ _ _ (by rw[hsz];exact of_decide_eq_true (by kernel_rfl))),RO.of hh.2⟩
  ·intro a_ wx hC hsz hK
   have h0:a_.tmps.getD 4 undef=(.pointer (some ⟨w.heap.size,0,none⟩)):=hK.1 4 (by kernel_rfl);have h1:a_.tmps.getD 10 undef=.agg (pw (a%m)):=hK.2 ⟨2,.data⟩ (by simp) rfl _ rfl;obtain⟨x,h2,h3⟩:=hC.r0;exact tt_store (by kernel_rfl) rfl (run_st 24 (.tmp 4) (.tmp 10) _ _ rfl h0 h1 (store_w (pw_size _) h2)) hC.set0 (setRow_heap _ _ _ _ _ _ h2) ⟨fun _=>setRow_heap _ _ _ _ _ _ h2,fun h=>(setRow_other _ _ _ _ (by omega)).trans h⟩
  ·intro a_ wx hC hsz hK
   have h0:a_.tmps.getD 5 undef=(.pointer (some ⟨w.heap.size+1,0,none⟩)):=hK.1 5 (by kernel_rfl);have h1:a_.tmps.getD 13 undef=.agg (pw (b%m)):=hK.2 ⟨5,.data⟩ (by simp) rfl _ rfl;obtain⟨x,h2,h3⟩:=hC.r1;exact tt_store (by kernel_rfl) rfl (run_st 24 (.tmp 5) (.tmp 13) _ _ rfl h0 h1 (store_w (pw_size _) h2)) hC.set1 (setRow_heap _ _ _ _ _ _ h2) ⟨fun h=>(setRow_other _ _ _ _ (by omega)).trans h,fun _=>setRow_heap _ _ _ _ _ _ h2⟩
 intro f1 wy hCy hf;have k0:=hf 6 _ rfl;have k1:=hf 7 _ rfl;have H1:=Lib.hid (hCy.done k0 k1);clear hf hCy k0 k1 H0;simp only[putAll,Act.put,List.setIfInBounds_toArray,List.set_cons_succ,List.set_cons_zero];obtain⟨x,hx⟩:∃ x,a%m=x:=⟨_,rfl⟩
 obtain⟨y,hy⟩:∃ y,b%m=y:=⟨_,rfl⟩
 rw[hx,hy]at H1 HE HN;have HR2:=Lib.hid (And.intro hx hy);clear hx hy
 go_wp2_with (first | (refine wpList_ld rfl 24 _ rfl (.pointer (some ⟨w.heap.size,0,none⟩)) (.agg (pw x)) rfl (ld_pw (by exact H1.out.is _ _ (by simp))) ?_) | (refine wpList_ld rfl 24 _ rfl (.pointer (some ⟨w.heap.size+1,0,none⟩)) (.agg (pw y)) rfl (ld_pw (by exact H1.out.is _ _ (by simp))) ?_))
 refine(sub_pw x y HN.out.2 _).mono ?_;rintro e w5 ⟨rfl,hb5⟩;rw[show pw (x+(2^256 - y))=pw ((x+(2^256 - y))%2^256) from pw_congr (by rw[Nat.mod_mod])];obtain⟨z,hz⟩:∃ z,(x+(2^256 - y))%2^256=z:=⟨_,rfl⟩
 rw[hz]at HE |-
 clear hz;obtain⟨g,hg⟩:∃ g,w5.heap.size=g:=⟨_,rfl⟩
 have H5:=Lib.hid (show CW w F m [(g,pw z),(w.heap.size+1+1,#[.int .u64 0,.int .u64 0,.int .u64 0,.int .u64 0]),(w.heap.size+1,pw y),(w.heap.size,pw x)] ((w5.alloc (.cells #[.int .u64 0,.int .u64 0,.int .u64 0,.int .u64 0] 24)).setRow w5.heap.size (pw z)) from by
  rw[<- hg];have c:=(H1.out.below hb5).new #[.int .u64 0,.int .u64 0,.int .u64 0,.int .u64 0];have h9:=(H1.out.below hb5).old.size;have h8:w.heap.size+1+1<w5.heap.size:=(Array.getElem?_eq_some_iff.1 ((H1.out.below hb5).is (w.heap.size+1+1) #[.int .u64 0,.int .u64 0,.int .u64 0,.int .u64 0] (by simp))).1;exact c.put w5.heap.size #[.int .u64 0,.int .u64 0,.int .u64 0,.int .u64 0] (pw z) _ h9 (by simp) (fun p hp=>by
   simp only[List.mem_cons,List.not_mem_nil,or_false]at hp;rcases hp with rfl | rfl | rfl
   ·exact⟨by simp,by show w.heap.size+1+1≠_;omega⟩
   ·exact⟨by simp,by show w.heap.size+1≠_;omega⟩
   ·exact⟨by simp,by show w.heap.size≠_;omega⟩))
 have HG:=Lib.hid (And.intro hg (heap_alloc_new w5 (.cells #[.int .u64 0,.int .u64 0,.int .u64 0,.int .u64 0] 24)));clear hb5 hg
 go_wp2_with (first | (refine wpList_store_row rfl 24 _ _ rfl w5.heap.size (pw z) rfl rfl 24 (#[.int .u64 0,.int .u64 0,.int .u64 0,.int .u64 0]) (by exact HG.out.2) (by rw[pw_size];exact infoW4) (by rw[pw_size];rfl) (pw_one _) ?_) | (refine wpList_ld rfl 24 _ rfl (.pointer (some ⟨w.heap.size,0,none⟩)) (.agg (pw x)) rfl (ld_pw (by exact H5.out.is w.heap.size (pw x) (by simp))) ?_) | (refine wpList_ld rfl 24 _ rfl (.pointer (some ⟨w.heap.size+1,0,none⟩)) (.agg (pw y)) rfl (ld_pw (by exact H5.out.is (w.heap.size+1) (pw y) (by simp))) ?_))
 obtain⟨w6,hw6⟩:∃ w6,(w5.alloc (.cells #[.int .u64 0,.int .u64 0,.int .u64 0,.int .u64 0] 24)).setRow w5.heap.size (pw z)=w6:=⟨_,rfl⟩
 rw[hw6]at H5 |-
 rw[HG.out.1];clear hw6 HG H1;refine(cmp_pw x y HN.out.1 HN.out.2 _).mono ?_;rintro e w7 ⟨rfl,hb7⟩;have H7:=Lib.hid (H5.out.below hb7);clear hb7 H5;obtain⟨o,ho⟩:∃ o,ord x y=o:=⟨_,rfl⟩
 rw[ho];by_cases hc:x<y
 ·have ho2:o<0:=by rw[<- ho];unfold ord;rw[if_pos hc];omega
  clear ho;have HD:=Lib.hid (HE.out.1 hc);clear hc HE
  go_wp2_with fail
  have HAD:=Lib.hid (CW.calls (w:=w) (F:=F) (m:=m) (L:=[(g,pw z),(w.heap.size+1+1,#[.int .u64 0,.int .u64 0,.int .u64 0,.int .u64 0]),(w.heap.size+1,pw y),(w.heap.size,pw x)]) (fun wx _=>add_pw z m wx));rw[HD.out]at HAD;obtain⟨v,hv⟩:∃ v,(x+(m - y))%m=v:=⟨_,rfl⟩
  rw[hv]at HAD;have HV:=Lib.hid hv;clear hv;refine region_quiet_tail 6 (CW w F m [(g,pw z),(w.heap.size+1+1,#[.int .u64 0,.int .u64 0,.int .u64 0,.int .u64 0]),(w.heap.size+1,pw y),(w.heap.size,pw x)]) (by kernel_rfl) (by kernel_rfl) (H7.out.drew) ?_;simp only[List.take_succ_cons,List.take_zero,List.drop_succ_cons,List.drop_zero]
  with_reducible refine q_load 24 (.tmp 7) (.pointer (some ⟨g,0,none⟩)) (.agg (pw z)) rfl (by kernel_rfl) (by kernel_rfl) (fun _ c=>ld_pw (c.is _ _ (by simp))) ?_
  with_reducible refine q_val (.pointer (some ⟨F,0,none⟩)) (by kernel_rfl) (fun _ _=>by kernel_rfl) ?_
  with_reducible refine q_val (.pointer (some ⟨F,0,none⟩)) (by kernel_rfl) (fun _ _=>run_nil (.tmp 22) _ rfl (by kernel_rfl)) ?_
  with_reducible refine q_sem2 (Instr.fieldAt 145 (.pointer (some ⟨F,0,none⟩)) 0) (.pointer (some ⟨F,0,none⟩)) (by kernel_rfl) (by kernel_rfl) (fun w' _=>fld_at F w') ?_
  with_reducible refine q_load 24 (.tmp 24) (.pointer (some ⟨F,0,none⟩)) (.agg (pw m)) rfl (by kernel_rfl) (by kernel_rfl) (fun _ c=>ld_m c.fld) ?_
  with_reducible refine q_call 104 #[.agg (pw z),.agg (pw m)] (.agg (pw v)) (by kernel_rfl) (fun _=>by kernel_rfl) (HAD.out) ?_
  with_reducible refine wpQuiet_nil ?_
  intro wx hC;have HC:=Lib.hid hC;clear hC H7 HAD;simp only[Act.put,List.setIfInBounds_toArray,List.set_cons_succ,List.set_cons_zero]
  go_wp2_with (refine wpList_store_row rfl 24 _ _ rfl (w.heap.size+1+1) (pw v) rfl rfl 24 (#[.int .u64 0,.int .u64 0,.int .u64 0,.int .u64 0]) (by exact HC.out.is _ _ (by simp)) (by rw[pw_size];exact infoW4) (by first | rfl | (rw[pw_size];rfl) | (rw[pw_size,pw_size])) (pw_one _) ?_)
  (try simp only[Act.put])
  refine bodyPost_ret (v:=.agg (pw v)) (results_cell_row (p:=6) rfl _ _ (w.heap.size+1+1) 24 (pw v) (0,0) _ rfl (setRow_heap _ _ _ _ _ _ (by exact HC.out.is _ (#[.int .u64 0,.int .u64 0,.int .u64 0,.int .u64 0]) (by simp))) Tryz.underlying24 rfl (by rw[pw_size];exact infoW4)) rfl ⟨by rw[<- HV.out,HR2.out.1,HR2.out.2],below_setRow HC.out.old (by omega) _⟩
 ·have ho2:¬o<0:=by rw[<- ho];unfold ord;rw[if_neg hc];split <;> omega
  clear ho;have HD:=Lib.hid (HE.out.2 hc);clear hc HE
  go_wp2_with (first | (refine wpList_ld rfl 24 _ rfl (.pointer (some ⟨g,0,none⟩)) (.agg (pw z)) rfl (ld_pw (by exact H7.out.is g (pw z) (by simp))) ?_) | (refine wpList_store_row rfl 24 _ _ rfl (w.heap.size+1+1) (pw z) rfl rfl 24 (#[.int .u64 0,.int .u64 0,.int .u64 0,.int .u64 0]) (by exact H7.out.is _ _ (by simp)) (by rw[pw_size];exact infoW4) (by first | rfl | (rw[pw_size];rfl) | (rw[pw_size,pw_size])) (pw_one _) ?_))
  (try simp only[Act.put])
  refine bodyPost_ret (v:=.agg (pw z)) (results_cell_row (p:=6) rfl _ _ (w.heap.size+1+1) 24 (pw z) (0,0) _ rfl (setRow_heap _ _ _ _ _ _ (by exact H7.out.is _ (#[.int .u64 0,.int .u64 0,.int .u64 0,.int .u64 0]) (by simp))) Tryz.underlying24 rfl (by rw[pw_size];exact infoW4)) rfl ⟨by rw[HD.out,HR2.out.1,HR2.out.2],below_setRow H7.out.old (by omega) _⟩
end Go.Proofs.YtadfjjfklihaaaaGreat
