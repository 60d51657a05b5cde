/- What (*Field).Of comes to. (Cut to what is reached, written closely: ShiftsAny · FWd · FOf.) -/
import Derived.Test.YtcmgphkjchicbaaR15
import Derived.Test.YtcmgphkjchicbaaR17
import Derived.Test.YtcmgphkjchicbaaR10
set_option linter.all false
set_option maxRecDepth 100000
set_option maxHeartbeats 8000000
namespace Go.Proofs.Ytcmgphkjchicbaa
open Go.RowKit
theorem of_wv(n:Nat)(hn:n<18446744073709551616)(w:World):Calls Try.prog 34 #[.int .u64 n] w fun e w'=>e=.returned (.agg (pw n))/\Below w.heap.size w w':=by
 have h:=of_walk n w;rw[<- wv_one hn,wv_pw]at h;exact h
open Go.RowKit
theorem remV_of{x m:Nat}(h1:0<m)(hm:m<2^256):remV x m=x%m:=by
 unfold remV;rw[Nat.mod_eq_of_lt hm,if_neg (by omega)]
theorem cmp_pw(a b:Nat)(ha:a<2^256)(hb:b<2^256)(w:World):Calls Try.prog 40 #[.agg (pw a),.agg (pw b)] w fun e w'=>e=.returned (.int .i64 (ord a b))/\Below w.heap.size w w':=by
 have h:=cmp_any a b w;rw[Nat.mod_eq_of_lt ha,Nat.mod_eq_of_lt hb]at h;exact h
theorem mod_pw(a m:Nat)(ha:a<2^256)(h0:0<m)(hm:m<2^256)(w:World):Calls Try.prog 41 #[.agg (pw a),.agg (pw m)] w fun e w'=>e=.returned (.agg (pw (a%m)))/\Below w.heap.size w w':=by
 have h:=mod_any a m w;rw[Nat.mod_eq_of_lt ha,remV_of h0 hm]at h;exact h
theorem add_pw(a b:Nat)(w:World):Calls Try.prog 42 #[.agg (pw a),.agg (pw b)] w fun e w'=>e=.returned (.agg (pw (a+b)))/\Below w.heap.size w w':=add_any a b w
theorem sub_pw(a b:Nat)(hb:b<2^256)(w:World):Calls Try.prog 52 #[.agg (pw a),.agg (pw b)] w fun e w'=>e=.returned (.agg (pw (a+(2^256 - b))))/\Below w.heap.size w w':=by
 have h:=sub_any a b w;rw[Nat.mod_eq_of_lt hb]at h;exact h
theorem pw_congr{x y:Nat}(h:x%2^256=y%2^256):pw x=pw y:=by
 have:=wv_congr h;rw[wv_pw,wv_pw]at this;injection this
theorem not_pw(a:Nat)(ha:a<2^256)(w:World):Calls Try.prog 69 #[.agg (pw a)] w fun e w'=>e=.returned (.agg (pw (2^256 - 1 - a)))/\Below w.heap.size w w':=by
 have h:=not_any a w;rw[Nat.mod_eq_of_lt ha]at h;exact h
theorem addmod_pw(a b m:Nat)(ha:a<2^256)(hb:b<2^256)(h0:0<m)(hm:m<2^256)(w:World):Calls Try.prog 70 #[.agg (pw a),.agg (pw b),.agg (pw m)] w fun e w'=>e=.returned (.agg (pw ((a+b)%m)))/\Below w.heap.size w w':=by
 have h:=addmod_any a b m w;rw[Nat.mod_eq_of_lt ha,Nat.mod_eq_of_lt hb,remV_of h0 hm]at h;exact h
theorem mulmod_pw(a b m:Nat)(ha:a<2^256)(hb:b<2^256)(h0:0<m)(hm:m<2^256)(w:World):Calls Try.prog 72 #[.agg (pw a),.agg (pw b),.agg (pw m)] w fun e w'=>e=.returned (.agg (pw (a*b%m)))/\Below w.heap.size w w':=by
 have h:=mulmod_any a b m w;rw[Nat.mod_eq_of_lt ha,Nat.mod_eq_of_lt hb,remV_of h0 hm]at h;exact h
theorem len_pw(a:Nat)(w:World):Calls Try.prog 61 #[.agg (pw a)] w fun e w'=>e=.returned (.int .i64 (bl a 256:Nat))/\Below w.heap.size w w':=len_exact a w
/-! Two words compared. -/
open Go.RowKit
-- WHAT Of COMES TO.
theorem fof_any(F m a:Nat)(ha:a<115792089237316195423570985008687907853269984665640564039457584007913129639936)(w:World)(hF:FldAt w F m):Calls Try.prog 14 #[.pointer (some ⟨F,0,none⟩),.agg (pw a)] w fun e w'=>e=.returned (.agg (pw (a%m)))/\Below w.heap.size w w':=by
 have H0:=Lib.hid (CW.one hF a);have HCM:=Lib.hid (CW.calls (w:=w) (F:=F) (m:=m) (L:=[(w.heap.size+1,#[.int .u64 0,.int .u64 0,.int .u64 0,.int .u64 0]),(w.heap.size,pw a)]) (v:=.int .i64 (ord a m)) (fun wx hf=>cmp_pw a m ha hf.lt wx));have HMD:=Lib.hid (CW.calls (w:=w) (F:=F) (m:=m) (L:=[(w.heap.size+1,#[.int .u64 0,.int .u64 0,.int .u64 0,.int .u64 0]),(w.heap.size,pw a)]) (v:=.agg (pw (a%m))) (fun wx hf=>mod_pw a m ha (by have:=hf.big;omega) hf.lt wx));have HQ:=Lib.hid (show a<m->a%m=a from fun h=>Nat.mod_eq_of_lt h);clear hF ha;by_cases hlt:a<m
 ·rw[HQ.out hlt]
  clear HMD HQ;go_enter Try.func14,Try.ntmps14
  go_wp2_with fail
  refine wp_region_quiet (C:=CW w F m [(w.heap.size+1,#[.int .u64 0,.int .u64 0,.int .u64 0,.int .u64 0]),(w.heap.size,pw a)]) (by kernel_rfl) (by kernel_rfl) (H0.out.drew) ?_;simp only
  with_reducible refine q_load 24 (.tmp 3) (.pointer (some ⟨w.heap.size,0,none⟩)) (.agg (pw a)) rfl (by kernel_rfl) (by kernel_rfl) (fun _ c=>ld_pw (c.is _ _ (by simp))) ?_
  with_reducible refine q_val (.pointer (some ⟨F,0,none⟩)) (by kernel_rfl) (fun _ _=>by kernel_rfl) ?_
  with_reducible refine q_val (.pointer (some ⟨F,0,none⟩)) (by kernel_rfl) (fun _ _=>run_nil (.tmp 6) _ rfl (by kernel_rfl)) ?_
  with_reducible refine q_sem2 (Instr.fieldAt 54 (.pointer (some ⟨F,0,none⟩)) 0) (.pointer (some ⟨F,0,none⟩)) (by kernel_rfl) (by kernel_rfl) (fun w' _=>fld_at F w') ?_
  with_reducible refine q_load 24 (.tmp 8) (.pointer (some ⟨F,0,none⟩)) (.agg (pw m)) rfl (by kernel_rfl) (by kernel_rfl) (fun _ c=>ld_m c.fld) ?_
  with_reducible refine q_call 40 #[.agg (pw a),.agg (pw m)] (.int .i64 (ord a m)) (by kernel_rfl) (fun _=>by kernel_rfl) (HCM.out) ?_
  with_reducible refine q_bin .lss 3 _ _ 3 (.int .i64 (ord a m)) (.int .i64 0) (.bool true) rfl (by kernel_rfl) (by kernel_rfl) (by kernel_rfl) (fun _=>by kernel_rfl) (fun w'=>(lss_ord a m w').trans (by rw[decide_eq_true hlt])) ?_
  with_reducible refine wpQuiet_nil ?_
  intro wx hC;have HC:=Lib.hid hC;clear hC H0 HCM;simp only[Act.put,List.setIfInBounds_toArray,List.set_cons_succ,List.set_cons_zero]
  go_wp2_with (first | (refine wpList_ld rfl 24 _ rfl (.pointer (some ⟨w.heap.size,0,none⟩)) (.agg (pw a)) rfl (ld_pw (by exact HC.out.is _ _ (by simp))) ?_) | (refine wpList_store_row rfl 24 _ _ rfl (w.heap.size+1) (pw a) rfl rfl 24 (#[.int .u64 0,.int .u64 0,.int .u64 0,.int .u64 0]) (by exact HC.out.is _ _ (by simp)) (by rw[pw_size];exact infoW4) (by first | rfl | (rw[pw_size];rfl) | (rw[pw_size,pw_size])) (pw_one _) ?_))
  (try simp only[Act.put])
  refine bodyPost_ret (v:=.agg (pw a)) (results_cell_row (p:=4) rfl _ _ (w.heap.size+1) 24 (pw a) (0,0) _ rfl (setRow_heap _ _ _ _ _ _ (by exact HC.out.is _ (#[.int .u64 0,.int .u64 0,.int .u64 0,.int .u64 0]) (by simp))) Try.underlying24 rfl (by rw[pw_size];exact infoW4)) rfl ⟨rfl,below_setRow HC.out.old (by omega) _⟩
 ·obtain⟨y,hy⟩:∃ y,a%m=y:=⟨_,rfl⟩
  rw[hy]at HMD |-
  clear HQ hy;go_enter Try.func14,Try.ntmps14
  go_wp2_with fail
  refine wp_region_quiet (C:=CW w F m [(w.heap.size+1,#[.int .u64 0,.int .u64 0,.int .u64 0,.int .u64 0]),(w.heap.size,pw a)]) (by kernel_rfl) (by kernel_rfl) (H0.out.drew) ?_;simp only
  with_reducible refine q_load 24 (.tmp 3) (.pointer (some ⟨w.heap.size,0,none⟩)) (.agg (pw a)) rfl (by kernel_rfl) (by kernel_rfl) (fun _ c=>ld_pw (c.is _ _ (by simp))) ?_
  with_reducible refine q_val (.pointer (some ⟨F,0,none⟩)) (by kernel_rfl) (fun _ _=>by kernel_rfl) ?_
  with_reducible refine q_val (.pointer (some ⟨F,0,none⟩)) (by kernel_rfl) (fun _ _=>run_nil (.tmp 6) _ rfl (by kernel_rfl)) ?_
  with_reducible refine q_sem2 (Instr.fieldAt 54 (.pointer (some ⟨F,0,none⟩)) 0) (.pointer (some ⟨F,0,none⟩)) (by kernel_rfl) (by kernel_rfl) (fun w' _=>fld_at F w') ?_
  with_reducible refine q_load 24 (.tmp 8) (.pointer (some ⟨F,0,none⟩)) (.agg (pw m)) rfl (by kernel_rfl) (by kernel_rfl) (fun _ c=>ld_m c.fld) ?_
  with_reducible refine q_call 40 #[.agg (pw a),.agg (pw m)] (.int .i64 (ord a m)) (by kernel_rfl) (fun _=>by kernel_rfl) (HCM.out) ?_
  with_reducible refine q_bin .lss 3 _ _ 3 (.int .i64 (ord a m)) (.int .i64 0) (.bool false) rfl (by kernel_rfl) (by kernel_rfl) (by kernel_rfl) (fun _=>by kernel_rfl) (fun w'=>(lss_ord a m w').trans (by rw[decide_eq_false hlt])) ?_
  with_reducible refine wpQuiet_nil ?_
  intro wx hC;have HC:=Lib.hid hC;clear hC H0 HCM;simp only[Act.put,List.setIfInBounds_toArray,List.set_cons_succ,List.set_cons_zero]
  go_wp2_with fail
  refine region_quiet_tail 6 (CW w F m [(w.heap.size+1,#[.int .u64 0,.int .u64 0,.int .u64 0,.int .u64 0]),(w.heap.size,pw a)]) (by kernel_rfl) (by kernel_rfl) (HC.out.drew) ?_;simp only[List.take_succ_cons,List.take_zero,List.drop_succ_cons,List.drop_zero]
  with_reducible refine q_load 24 (.tmp 3) (.pointer (some ⟨w.heap.size,0,none⟩)) (.agg (pw a)) rfl (by kernel_rfl) (by kernel_rfl) (fun _ c=>ld_pw (c.is _ _ (by simp))) ?_
  with_reducible refine q_val (.pointer (some ⟨F,0,none⟩)) (by kernel_rfl) (fun _ _=>by kernel_rfl) ?_
  with_reducible refine q_val (.pointer (some ⟨F,0,none⟩)) (by kernel_rfl) (fun _ _=>run_nil (.tmp 14) _ rfl (by kernel_rfl)) ?_
  with_reducible refine q_sem2 (Instr.fieldAt 54 (.pointer (some ⟨F,0,none⟩)) 0) (.pointer (some ⟨F,0,none⟩)) (by kernel_rfl) (by kernel_rfl) (fun w' _=>fld_at F w') ?_
  with_reducible refine q_load 24 (.tmp 16) (.pointer (some ⟨F,0,none⟩)) (.agg (pw m)) rfl (by kernel_rfl) (by kernel_rfl) (fun _ c=>ld_m c.fld) ?_
  with_reducible refine q_call 41 #[.agg (pw a),.agg (pw m)] (.agg (pw y)) (by kernel_rfl) (fun _=>by kernel_rfl) (HMD.out) ?_
  with_reducible refine wpQuiet_nil ?_
  intro wx hC;have HC2:=Lib.hid hC;clear hC HC HMD;simp only[Act.put,List.setIfInBounds_toArray,List.set_cons_succ,List.set_cons_zero]
  go_wp2_with (refine wpList_store_row rfl 24 _ _ rfl (w.heap.size+1) (pw y) rfl rfl 24 (#[.int .u64 0,.int .u64 0,.int .u64 0,.int .u64 0]) (by exact HC2.out.is _ _ (by simp)) (by rw[pw_size];exact infoW4) (by first | rfl | (rw[pw_size];rfl) | (rw[pw_size,pw_size])) (pw_one _) ?_)
  (try simp only[Act.put])
  refine bodyPost_ret (v:=.agg (pw y)) (results_cell_row (p:=4) rfl _ _ (w.heap.size+1) 24 (pw y) (0,0) _ rfl (setRow_heap _ _ _ _ _ _ (by exact HC2.out.is _ (#[.int .u64 0,.int .u64 0,.int .u64 0,.int .u64 0]) (by simp))) Try.underlying24 rfl (by rw[pw_size];exact infoW4)) rfl ⟨rfl,below_setRow HC2.out.old (by omega) _⟩
end Go.Proofs.Ytcmgphkjchicbaa
