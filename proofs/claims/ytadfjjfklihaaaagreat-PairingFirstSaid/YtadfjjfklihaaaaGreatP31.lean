/- The reference's Cut by parts of 32 bits: numbers. No program is named here. (Cut to what is reached, written closely: RAd · RSb · RCutN.) -/
import Derived.Test.YtadfjjfklihaaaaGreatP30
import Derived.Test.YtadfjjfklihaaaaGreatP16
import Derived.Test.YtadfjjfklihaaaaGreatP4
set_option linter.all false
set_option maxRecDepth 100000
set_option maxHeartbeats 8000000
namespace Go.Proofs.YtadfjjfklihaaaaGreat
open Go.RowKit
theorem CRf.lay{w wx:World}{G m lo sq:Nat}{L:List (Nat × Array Value)}(c:CRf w G m lo sq L wx)(cs:Array Value):CRf w G m lo sq ((wx.heap.size,cs)::L) ((wx.alloc (.cells (#[.int .u64 0,.int .u64 0,.int .u64 0,.int .u64 0]) 24)).setRow wx.heap.size cs):=by
 have hb:Below wx.heap.size wx ((wx.alloc (.cells (#[.int .u64 0,.int .u64 0,.int .u64 0,.int .u64 0]) 24)).setRow wx.heap.size cs):=below_setRow ((Below.refl _ _).alloc (Nat.le_refl _) _) (Nat.le_refl _) _;exact(c.below hb).cons (setRow_heap _ _ _ _ _ _ (heap_alloc_new _ _))
theorem pw_less{s m r:Nat}(h:s+2^256 - m=r\/s+2^256 - m=r+2^256):pw (s+2^256 - m)=pw r:=by
 apply pw_congr;rcases h with h | h <;> rw[h]
 rw[Nat.add_mod_right]
def rA(m a b:Nat):Nat:=(if (2^256)<=a+b\/m<=(a+b)%2^256 then (a+b)%2^256+2^256 - m else (a+b)%2^256)%2^256
def rS(m a b:Nat):Nat:=(if b<=a then a+2^256 - b else a+2^256 - b+m)%2^256
theorem rA_lt(m a b:Nat):rA m a b<2^256:=Nat.mod_lt _ (by omega)
theorem rS_lt(m a b:Nat):rS m a b<2^256:=Nat.mod_lt _ (by omega)
theorem rA_eq{m a b:Nat}(ha:a<m)(hb:b<m)(hm:m<2^256):rA m a b=(a+b)%m:=by
 unfold rA;by_cases h:(2^256)<=a+b\/m<=(a+b)%2^256
 ·rw[if_pos h,Nat.mod_eq_sub_mod (show a+b ≥ m by omega),Nat.mod_eq_of_lt (show a+b - m<m by omega)]
  omega
 ·rw[if_neg h,Nat.mod_mod,Nat.mod_eq_of_lt (show a+b<m by omega)]
  omega
theorem rS_eq{m a b:Nat}(ha:a<m)(hb:b<m)(hm:m<2^256):rS m a b=(a+(m - b))%m:=by
 unfold rS;by_cases h:b<=a
 ·rw[if_pos h,show a+(m - b)=a - b+m by omega,Nat.add_mod_right,Nat.mod_eq_of_lt (show a - b<m by omega)]
  omega
 ·rw[if_neg h,Nat.mod_eq_of_lt (show a+(m - b)<m by omega)]
  omega
theorem radd_w(G m lo sq a b:Nat)(hal:a<2^256)(hbl:b<2^256)(hm:m<2^256)(w:World)(hF:RFat w G m lo sq):Calls Tryz.prog 61 #[(.pointer (some ⟨G,0,none⟩)),.agg (pw a),.agg (pw b)] w fun e w'=>e=.returned (.agg (pw (rA m a b)))/\Below w.heap.size w w':=by
 have H0:=Lib.hid (CRf.two hF a b);have HPL:=Lib.hid (fun wx=>plusW_any a b (by omega) (by omega) wx);obtain⟨s,hs⟩:∃ s,(a+b)%2^256=s:=⟨_,rfl⟩
 have hsl:s<2^256:=by omega
 rw[show pw (a+b)=pw s from by rw[<- hs,pw_modn]]at HPL;have HMO:=Lib.hid (fun wx (_:RFat wx G m lo sq)=>moreW_any s m hsl hm wx);have HMI:=Lib.hid (fun wx (_:RFat wx G m lo sq)=>minusW_any s m hsl hm wx);obtain⟨y,hy⟩:∃ y,s+2^256 - m=y:=⟨_,rfl⟩
 have HR:=Lib.hid (show(2^256)<=a+b\/m<=s->pw y=pw (rA m a b) from fun h=>by
  rw[<- hy];unfold rA;rw[hs,if_pos h,pw_modn])
 have HR2:=Lib.hid (show ¬(2^256)<=a+b->¬m<=s->pw s=pw (rA m a b) from fun h1 h2=>by
  unfold rA;rw[hs,if_neg (fun h=>h.elim h1 h2),pw_modn])
 rw[hy]at HMI;obtain⟨z,hz⟩:∃ z,pw (rA m a b)=z:=⟨_,rfl⟩
 rw[hz]at HR HR2 |-
 clear hF hz hs hy hsl hal hbl hm;by_cases ho:(2^256)<=a+b
 ·rw[decide_eq_true ho]at HPL
  have HQ:=Lib.hid (HR.out (.inl ho));clear HR HR2 HMO ho;go_enter Tryz.func61,Tryz.ntmps61
  go_wp2_with (first | (refine wpList_ld rfl 24 _ rfl (.pointer (some ⟨w.heap.size,0,none⟩)) (.agg (pw a)) rfl (ld_pw (by exact H0.out.is _ _ (by simp))) ?_) | (refine wpList_ld rfl 24 _ rfl (.pointer (some ⟨w.heap.size+1,0,none⟩)) (.agg (pw b)) rfl (ld_pw (by exact H0.out.is _ _ (by simp))) ?_))
  refine(HPL.out _).mono ?_;rintro e w1 ⟨rfl,hb1⟩;have H1:=Lib.hid ((H0.out.below hb1).lay (pw s));have G1:=Lib.hid (heap_alloc_new w1 (.cells (#[.int .u64 0,.int .u64 0,.int .u64 0,.int .u64 0]) 24));clear hb1 H0 HPL
  go_upto_region 2 with(refine wpList_store_row rfl 24 _ _ rfl w1.heap.size (pw s) rfl rfl 24 (#[.int .u64 0,.int .u64 0,.int .u64 0,.int .u64 0]) (by exact G1.out) (by rw[pw_size];exact infoW4) (by rw[pw_size];rfl) (pw_one _) ?_)
  obtain⟨w2,hw2⟩:∃ w2,(w1.alloc (.cells (#[.int .u64 0,.int .u64 0,.int .u64 0,.int .u64 0]) 24)).setRow w1.heap.size (pw s)=w2:=⟨_,rfl⟩
  obtain⟨g7,hg7⟩:∃ g7,w1.heap.size=g7:=⟨_,rfl⟩
  rw[hw2,hg7]at H1;rw[hw2,hg7];clear hw2 hg7 G1;refine wp_region_quiet (C:=CRf w G m lo sq [(g7,pw s),(w.heap.size+1+1,#[.int .u64 0,.int .u64 0,.int .u64 0,.int .u64 0]),(w.heap.size+1,pw b),(w.heap.size,pw a)]) (by kernel_rfl) (by kernel_rfl) (H1.out.drew) ?_;simp only
  with_reducible refine q_val (.bool true) (by kernel_rfl) (fun _ _=>by kernel_rfl) ?_
  with_reducible refine q_val (.bool true) (by kernel_rfl) (fun _ _=>by kernel_rfl) ?_
  with_reducible refine q_skip (by kernel_rfl) ?_
  with_reducible refine q_skip (by kernel_rfl) ?_
  with_reducible refine q_skip (by kernel_rfl) ?_
  with_reducible refine q_skip (by kernel_rfl) ?_
  with_reducible refine q_skip (by kernel_rfl) ?_
  with_reducible refine q_skip (by kernel_rfl) ?_
  with_reducible refine q_val (.bool true) (by kernel_rfl) (fun _ _=>by kernel_rfl) ?_
  with_reducible refine wpQuiet_nil ?_
  intro wx hC;have HC:=Lib.hid hC;clear hC H1;simp only[Act.put,List.setIfInBounds_toArray,List.set_cons_succ,List.set_cons_zero]
  go_wp2_with fail
  refine region_quiet_tail 6 (CRf w G m lo sq [(g7,pw s),(w.heap.size+1+1,#[.int .u64 0,.int .u64 0,.int .u64 0,.int .u64 0]),(w.heap.size+1,pw b),(w.heap.size,pw a)]) (by kernel_rfl) (by kernel_rfl) (HC.out.drew) ?_;simp only[List.take_succ_cons,List.take_zero,List.drop_succ_cons,List.drop_zero]
  with_reducible refine q_load 24 (.tmp 7) (.pointer (some ⟨g7,0,none⟩)) (.agg (pw s)) rfl (by kernel_rfl) (by kernel_rfl) (fun _ c=>ld_pw (c.is _ _ (by simp))) ?_
  with_reducible refine q_val (.pointer (some ⟨G,0,none⟩)) (by kernel_rfl) (fun _ _=>by kernel_rfl) ?_
  with_reducible refine q_val (.pointer (some ⟨G,0,none⟩)) (by kernel_rfl) (fun _ _=>run_nil (.tmp 25) _ rfl (by kernel_rfl)) ?_
  with_reducible refine q_sem2 (Instr.fieldAt 109 (.pointer (some ⟨G,0,none⟩)) 0) (.pointer (some ⟨G,0,none⟩)) (by kernel_rfl) (by kernel_rfl) (fun w' _=>(rf_at G w').1) ?_
  with_reducible refine q_load 24 (.tmp 27) (.pointer (some ⟨G,0,none⟩)) (.agg (pw m)) rfl (by kernel_rfl) (by kernel_rfl) (fun _ c=>ld_rm c.fld) ?_
  with_reducible refine q_call 100 #[.agg (pw s),.agg (pw m)] (.agg (pw y)) (by kernel_rfl) (fun _=>by kernel_rfl) (CRf.calls HMI.out) ?_
  with_reducible refine wpQuiet_nil ?_
  intro wx hC;have HC2:=Lib.hid hC;clear hC HC HMI;simp only[Act.put,List.setIfInBounds_toArray,List.set_cons_succ,List.set_cons_zero]
  go_wp2_with (refine wpList_store_row rfl 24 _ _ rfl (w.heap.size+1+1) (pw y) rfl rfl 24 (#[.int .u64 0,.int .u64 0,.int .u64 0,.int .u64 0]) (by exact HC2.out.is _ _ (by simp)) (by rw[pw_size];exact infoW4) (by first | rfl | (rw[pw_size];rfl) | (rw[pw_size,pw_size])) (pw_one _) ?_)
  (try simp only[Act.put])
  refine bodyPost_ret (v:=.agg (pw y)) (results_cell_row (p:=6) rfl _ _ (w.heap.size+1+1) 24 (pw y) (0,0) _ rfl (setRow_heap _ _ _ _ _ _ (by exact HC2.out.is _ (#[.int .u64 0,.int .u64 0,.int .u64 0,.int .u64 0]) (by simp))) Tryz.underlying24 rfl (by rw[pw_size];exact infoW4)) rfl ⟨by rw[HQ.out],below_setRow HC2.out.old (by omega) _⟩
 ·rw[decide_eq_false ho]at HPL
  by_cases hq:m<=s
  ·rw[decide_eq_true hq]at HMO
   have HQ:=Lib.hid (HR.out (.inr hq));clear HR HR2 ho hq;go_enter Tryz.func61,Tryz.ntmps61
   go_wp2_with (first | (refine wpList_ld rfl 24 _ rfl (.pointer (some ⟨w.heap.size,0,none⟩)) (.agg (pw a)) rfl (ld_pw (by exact H0.out.is _ _ (by simp))) ?_) | (refine wpList_ld rfl 24 _ rfl (.pointer (some ⟨w.heap.size+1,0,none⟩)) (.agg (pw b)) rfl (ld_pw (by exact H0.out.is _ _ (by simp))) ?_))
   refine(HPL.out _).mono ?_;rintro e w1 ⟨rfl,hb1⟩;have H1:=Lib.hid ((H0.out.below hb1).lay (pw s));have G1:=Lib.hid (heap_alloc_new w1 (.cells (#[.int .u64 0,.int .u64 0,.int .u64 0,.int .u64 0]) 24));clear hb1 H0 HPL
   go_upto_region 2 with(refine wpList_store_row rfl 24 _ _ rfl w1.heap.size (pw s) rfl rfl 24 (#[.int .u64 0,.int .u64 0,.int .u64 0,.int .u64 0]) (by exact G1.out) (by rw[pw_size];exact infoW4) (by rw[pw_size];rfl) (pw_one _) ?_)
   obtain⟨w2,hw2⟩:∃ w2,(w1.alloc (.cells (#[.int .u64 0,.int .u64 0,.int .u64 0,.int .u64 0]) 24)).setRow w1.heap.size (pw s)=w2:=⟨_,rfl⟩
   obtain⟨g7,hg7⟩:∃ g7,w1.heap.size=g7:=⟨_,rfl⟩
   rw[hw2,hg7]at H1;rw[hw2,hg7];clear hw2 hg7 G1;refine wp_region_quiet (C:=CRf w G m lo sq [(g7,pw s),(w.heap.size+1+1,#[.int .u64 0,.int .u64 0,.int .u64 0,.int .u64 0]),(w.heap.size+1,pw b),(w.heap.size,pw a)]) (by kernel_rfl) (by kernel_rfl) (H1.out.drew) ?_;simp only
   with_reducible refine q_val (.bool false) (by kernel_rfl) (fun _ _=>by kernel_rfl) ?_
   with_reducible refine q_val (.bool false) (by kernel_rfl) (fun _ _=>by kernel_rfl) ?_
   with_reducible refine q_load 24 (.tmp 7) (.pointer (some ⟨g7,0,none⟩)) (.agg (pw s)) rfl (by kernel_rfl) (by kernel_rfl) (fun _ c=>ld_pw (c.is _ _ (by simp))) ?_
   with_reducible refine q_val (.pointer (some ⟨G,0,none⟩)) (by kernel_rfl) (fun _ _=>by kernel_rfl) ?_
   with_reducible refine q_val (.pointer (some ⟨G,0,none⟩)) (by kernel_rfl) (fun _ _=>run_nil (.tmp 18) _ rfl (by kernel_rfl)) ?_
   with_reducible refine q_sem2 (Instr.fieldAt 109 (.pointer (some ⟨G,0,none⟩)) 0) (.pointer (some ⟨G,0,none⟩)) (by kernel_rfl) (by kernel_rfl) (fun w' _=>(rf_at G w').1) ?_
   with_reducible refine q_load 24 (.tmp 20) (.pointer (some ⟨G,0,none⟩)) (.agg (pw m)) rfl (by kernel_rfl) (by kernel_rfl) (fun _ c=>ld_rm c.fld) ?_
   with_reducible refine q_call 99 #[.agg (pw s),.agg (pw m)] (.bool true) (by kernel_rfl) (fun _=>by kernel_rfl) (CRf.calls HMO.out) ?_
   with_reducible refine q_val (.bool true) (by kernel_rfl) (fun _ _=>by kernel_rfl) ?_
   with_reducible refine wpQuiet_nil ?_
   intro wx hC;have HC:=Lib.hid hC;clear hC H1 HMO;simp only[Act.put,List.setIfInBounds_toArray,List.set_cons_succ,List.set_cons_zero]
   go_wp2_with fail
   refine region_quiet_tail 6 (CRf w G m lo sq [(g7,pw s),(w.heap.size+1+1,#[.int .u64 0,.int .u64 0,.int .u64 0,.int .u64 0]),(w.heap.size+1,pw b),(w.heap.size,pw a)]) (by kernel_rfl) (by kernel_rfl) (HC.out.drew) ?_;simp only[List.take_succ_cons,List.take_zero,List.drop_succ_cons,List.drop_zero]
   with_reducible refine q_load 24 (.tmp 7) (.pointer (some ⟨g7,0,none⟩)) (.agg (pw s)) rfl (by kernel_rfl) (by kernel_rfl) (fun _ c=>ld_pw (c.is _ _ (by simp))) ?_
   with_reducible refine q_val (.pointer (some ⟨G,0,none⟩)) (by kernel_rfl) (fun _ _=>by kernel_rfl) ?_
   with_reducible refine q_val (.pointer (some ⟨G,0,none⟩)) (by kernel_rfl) (fun _ _=>run_nil (.tmp 25) _ rfl (by kernel_rfl)) ?_
   with_reducible refine q_sem2 (Instr.fieldAt 109 (.pointer (some ⟨G,0,none⟩)) 0) (.pointer (some ⟨G,0,none⟩)) (by kernel_rfl) (by kernel_rfl) (fun w' _=>(rf_at G w').1) ?_
   with_reducible refine q_load 24 (.tmp 27) (.pointer (some ⟨G,0,none⟩)) (.agg (pw m)) rfl (by kernel_rfl) (by kernel_rfl) (fun _ c=>ld_rm c.fld) ?_
   with_reducible refine q_call 100 #[.agg (pw s),.agg (pw m)] (.agg (pw y)) (by kernel_rfl) (fun _=>by kernel_rfl) (CRf.calls HMI.out) ?_
   with_reducible refine wpQuiet_nil ?_
   intro wx hC;have HC2:=Lib.hid hC;clear hC HC HMI;simp only[Act.put,List.setIfInBounds_toArray,List.set_cons_succ,List.set_cons_zero]
   go_wp2_with (refine wpList_store_row rfl 24 _ _ rfl (w.heap.size+1+1) (pw y) rfl rfl 24 (#[.int .u64 0,.int .u64 0,.int .u64 0,.int .u64 0]) (by exact HC2.out.is _ _ (by simp)) (by rw[pw_size];exact infoW4) (by first | rfl | (rw[pw_size];rfl) | (rw[pw_size,pw_size])) (pw_one _) ?_)
   (try simp only[Act.put])
   refine bodyPost_ret (v:=.agg (pw y)) (results_cell_row (p:=6) rfl _ _ (w.heap.size+1+1) 24 (pw y) (0,0) _ rfl (setRow_heap _ _ _ _ _ _ (by exact HC2.out.is _ (#[.int .u64 0,.int .u64 0,.int .u64 0,.int .u64 0]) (by simp))) Tryz.underlying24 rfl (by rw[pw_size];exact infoW4)) rfl ⟨by rw[HQ.out],below_setRow HC2.out.old (by omega) _⟩
  ·rw[decide_eq_false hq]at HMO
   have HQ:=Lib.hid (HR2.out ho hq);clear HR HR2 ho hq HMI;go_enter Tryz.func61,Tryz.ntmps61
   go_wp2_with (first | (refine wpList_ld rfl 24 _ rfl (.pointer (some ⟨w.heap.size,0,none⟩)) (.agg (pw a)) rfl (ld_pw (by exact H0.out.is _ _ (by simp))) ?_) | (refine wpList_ld rfl 24 _ rfl (.pointer (some ⟨w.heap.size+1,0,none⟩)) (.agg (pw b)) rfl (ld_pw (by exact H0.out.is _ _ (by simp))) ?_))
   refine(HPL.out _).mono ?_;rintro e w1 ⟨rfl,hb1⟩;have H1:=Lib.hid ((H0.out.below hb1).lay (pw s));have G1:=Lib.hid (heap_alloc_new w1 (.cells (#[.int .u64 0,.int .u64 0,.int .u64 0,.int .u64 0]) 24));clear hb1 H0 HPL
   go_upto_region 2 with(refine wpList_store_row rfl 24 _ _ rfl w1.heap.size (pw s) rfl rfl 24 (#[.int .u64 0,.int .u64 0,.int .u64 0,.int .u64 0]) (by exact G1.out) (by rw[pw_size];exact infoW4) (by rw[pw_size];rfl) (pw_one _) ?_)
   obtain⟨w2,hw2⟩:∃ w2,(w1.alloc (.cells (#[.int .u64 0,.int .u64 0,.int .u64 0,.int .u64 0]) 24)).setRow w1.heap.size (pw s)=w2:=⟨_,rfl⟩
   obtain⟨g7,hg7⟩:∃ g7,w1.heap.size=g7:=⟨_,rfl⟩
   rw[hw2,hg7]at H1;rw[hw2,hg7];clear hw2 hg7 G1;refine wp_region_quiet (C:=CRf w G m lo sq [(g7,pw s),(w.heap.size+1+1,#[.int .u64 0,.int .u64 0,.int .u64 0,.int .u64 0]),(w.heap.size+1,pw b),(w.heap.size,pw a)]) (by kernel_rfl) (by kernel_rfl) (H1.out.drew) ?_;simp only
   with_reducible refine q_val (.bool false) (by kernel_rfl) (fun _ _=>by kernel_rfl) ?_
   with_reducible refine q_val (.bool false) (by kernel_rfl) (fun _ _=>by kernel_rfl) ?_
   with_reducible refine q_load 24 (.tmp 7) (.pointer (some ⟨g7,0,none⟩)) (.agg (pw s)) rfl (by kernel_rfl) (by kernel_rfl) (fun _ c=>ld_pw (c.is _ _ (by simp))) ?_
   with_reducible refine q_val (.pointer (some ⟨G,0,none⟩)) (by kernel_rfl) (fun _ _=>by kernel_rfl) ?_
   with_reducible refine q_val (.pointer (some ⟨G,0,none⟩)) (by kernel_rfl) (fun _ _=>run_nil (.tmp 18) _ rfl (by kernel_rfl)) ?_
   with_reducible refine q_sem2 (Instr.fieldAt 109 (.pointer (some ⟨G,0,none⟩)) 0) (.pointer (some ⟨G,0,none⟩)) (by kernel_rfl) (by kernel_rfl) (fun w' _=>(rf_at G w').1) ?_
   with_reducible refine q_load 24 (.tmp 20) (.pointer (some ⟨G,0,none⟩)) (.agg (pw m)) rfl (by kernel_rfl) (by kernel_rfl) (fun _ c=>ld_rm c.fld) ?_
   with_reducible refine q_call 99 #[.agg (pw s),.agg (pw m)] (.bool false) (by kernel_rfl) (fun _=>by kernel_rfl) (CRf.calls HMO.out) ?_
   with_reducible refine q_val (.bool false) (by kernel_rfl) (fun _ _=>by kernel_rfl) ?_
   with_reducible refine wpQuiet_nil ?_
   intro wx hC;have HC:=Lib.hid hC;clear hC H1 HMO;simp only[Act.put,List.setIfInBounds_toArray,List.set_cons_succ,List.set_cons_zero]
   go_wp2_with (first | (refine wpList_ld rfl 24 _ rfl (.pointer (some ⟨g7,0,none⟩)) (.agg (pw s)) rfl (ld_pw (by exact HC.out.is _ _ (by simp))) ?_) | (refine wpList_store_row rfl 24 _ _ rfl (w.heap.size+1+1) (pw s) rfl rfl 24 (#[.int .u64 0,.int .u64 0,.int .u64 0,.int .u64 0]) (by exact HC.out.is _ _ (by simp)) (by rw[pw_size];exact infoW4) (by first | rfl | (rw[pw_size];rfl) | (rw[pw_size,pw_size])) (pw_one _) ?_))
   (try simp only[Act.put])
   refine bodyPost_ret (v:=.agg (pw s)) (results_cell_row (p:=6) rfl _ _ (w.heap.size+1+1) 24 (pw s) (0,0) _ rfl (setRow_heap _ _ _ _ _ _ (by exact HC.out.is _ (#[.int .u64 0,.int .u64 0,.int .u64 0,.int .u64 0]) (by simp))) Tryz.underlying24 rfl (by rw[pw_size];exact infoW4)) rfl ⟨by rw[HQ.out],below_setRow HC.out.old (by omega) _⟩
theorem radd_any(G m lo sq a b:Nat)(hal:a<m)(hbl:b<m)(hm:m<2^256)(w:World)(hF:RFat w G m lo sq):Calls Tryz.prog 61 #[(.pointer (some ⟨G,0,none⟩)),.agg (pw a),.agg (pw b)] w fun e w'=>e=.returned (.agg (pw ((a+b)%m)))/\Below w.heap.size w w':=by
 have h:=radd_w G m lo sq a b (Nat.lt_trans hal hm) (Nat.lt_trans hbl hm) hm w hF;rw[rA_eq hal hbl hm]at h;exact h
open Go.RowKit
theorem arr_litS(t:Array Value):t=((List.range t.size).map fun i=>t.getD i undef).toArray:=by
 apply Array.ext
 ·simp
 ·intro i h1 h2
  simp[h1]
theorem rsub_w(G m lo sq a b:Nat)(hal:a<2^256)(hbl:b<2^256)(hm:m<2^256)(w:World)(hF:RFat w G m lo sq):Calls Tryz.prog 76 #[(.pointer (some ⟨G,0,none⟩)),.agg (pw a),.agg (pw b)] w fun e w'=>e=.returned (.agg (pw (rS m a b)))/\Below w.heap.size w w':=by
 have H0:=Lib.hid (CRf.two hF a b);have HMO:=Lib.hid (fun wx=>moreW_any a b (by omega) (by omega) wx);have HMI:=Lib.hid (fun wx=>minusW_any a b (by omega) (by omega) wx);by_cases hq:b<=a
 ·have HQ:=Lib.hid (show pw (a+2^256 - b)=pw (rS m a b) from by
   unfold rS;rw[if_pos hq,pw_modn])
  rw[decide_eq_true hq]at HMO;obtain⟨y,hy⟩:∃ y,a+2^256 - b=y:=⟨_,rfl⟩
  rw[hy]at HMI HQ;obtain⟨z,hz⟩:∃ z,pw (rS m a b)=z:=⟨_,rfl⟩
  rw[hz]at HQ |-
  clear hF hal hbl hm hq hy hz;go_enter Tryz.func76,Tryz.ntmps76
  go_wp2_with (first | (refine wpList_ld rfl 24 _ rfl (.pointer (some ⟨w.heap.size,0,none⟩)) (.agg (pw a)) rfl (ld_pw (by exact H0.out.is _ _ (by simp))) ?_) | (refine wpList_ld rfl 24 _ rfl (.pointer (some ⟨w.heap.size+1,0,none⟩)) (.agg (pw b)) rfl (ld_pw (by exact H0.out.is _ _ (by simp))) ?_))
  refine(HMO.out _).mono ?_;rintro e w1 ⟨rfl,hb1⟩;have H1:=Lib.hid (H0.out.below hb1);clear hb1 H0 HMO
  go_wp2_with (first | (refine wpList_ld rfl 24 _ rfl (.pointer (some ⟨w.heap.size,0,none⟩)) (.agg (pw a)) rfl (ld_pw (by exact H1.out.is _ _ (by simp))) ?_) | (refine wpList_ld rfl 24 _ rfl (.pointer (some ⟨w.heap.size+1,0,none⟩)) (.agg (pw b)) rfl (ld_pw (by exact H1.out.is _ _ (by simp))) ?_))
  refine(HMI.out _).mono ?_;rintro e w2 ⟨rfl,hb2⟩;have H2:=Lib.hid (H1.out.below hb2);clear hb2 H1 HMI
  go_wp2_with (refine wpList_store_row rfl 24 _ _ rfl (w.heap.size+1+1) (pw y) rfl rfl 24 (#[.int .u64 0,.int .u64 0,.int .u64 0,.int .u64 0]) (by exact H2.out.is _ _ (by simp)) (by rw[pw_size];exact infoW4) (by first | rfl | (rw[pw_size];rfl) | (rw[pw_size,pw_size])) (pw_one _) ?_)
  (try simp only[Act.put])
  refine bodyPost_ret (v:=.agg (pw y)) (results_cell_row (p:=6) rfl _ _ (w.heap.size+1+1) 24 (pw y) (0,0) _ rfl (setRow_heap _ _ _ _ _ _ (by exact H2.out.is _ (#[.int .u64 0,.int .u64 0,.int .u64 0,.int .u64 0]) (by simp))) Tryz.underlying24 rfl (by rw[pw_size];exact infoW4)) rfl ⟨by rw[HQ.out],below_setRow H2.out.old (by omega) _⟩
 ·have hd:a+2^256 - b<2^256:=by omega
  have HPL:=Lib.hid (fun wx=>plusW_any (a+2^256 - b) m hd hm wx);have HQ:=Lib.hid (show pw (a+2^256 - b+m)=pw (rS m a b) from by
   unfold rS;rw[if_neg hq,pw_modn])
  rw[decide_eq_false hq]at HMO;obtain⟨d,hd2⟩:∃ d,a+2^256 - b=d:=⟨_,rfl⟩
  rw[hd2]at HMI HPL HQ;obtain⟨y,hy⟩:∃ y,d+m=y:=⟨_,rfl⟩
  obtain⟨ov,hov⟩:∃ ov,decide (2^256<=d+m)=ov:=⟨_,rfl⟩
  rw[hov,hy]at HPL;rw[hy]at HQ;obtain⟨z,hz⟩:∃ z,pw (rS m a b)=z:=⟨_,rfl⟩
  rw[hz]at HQ |-
  clear hF hal hbl hm hq hy hz hd hd2 hov;go_enter Tryz.func76,Tryz.ntmps76
  go_wp2_with (first | (refine wpList_ld rfl 24 _ rfl (.pointer (some ⟨w.heap.size,0,none⟩)) (.agg (pw a)) rfl (ld_pw (by exact H0.out.is _ _ (by simp))) ?_) | (refine wpList_ld rfl 24 _ rfl (.pointer (some ⟨w.heap.size+1,0,none⟩)) (.agg (pw b)) rfl (ld_pw (by exact H0.out.is _ _ (by simp))) ?_))
  refine(HMO.out _).mono ?_;rintro e w1 ⟨rfl,hb1⟩;have H1:=Lib.hid (H0.out.below hb1);clear hb1 H0 HMO
  go_wp2_with fail
  refine region_many [.val 16 ((.agg (pw a))),.val 17 ((.agg (pw b))),.val 18 ((.agg (pw d))),.val 19 ((.pointer (some ⟨G,0,none⟩))),.val 20 ((.pointer (some ⟨G,0,none⟩))),.val 21 ((.pointer (some ⟨G,0,none⟩))),.val 22 ((.agg (pw m))),.val 23 ((.tuple #[.agg (pw y),.bool ov])),.val 15 ((.tuple #[.agg (pw y),.bool ov])),.val 24 ((.agg (pw y))),.val 25 ((.bool ov)),.blk 7 24,.laid 7 24,.val 8 ((.bool ov))] [7] (fun p=>pw y) (fun i=>i) (by kernel_rfl) (by kernel_rfl) (by exact⟨trivial,trivial,trivial,trivial,trivial,trivial,trivial,trivial,trivial,trivial,trivial,(by simp[Sp.ok]),(by simp[Sp.ok]),trivial,trivial⟩) (by intro p hp q hq hne;simp only[List.mem_cons,List.not_mem_nil,or_false]at hp hq;exact absurd (hp.trans hq.symm) hne) ?_ ?_
  ·refine⟨?_,?_,?_,?_,?_,?_,?_,?_,?_,?_,?_,?_,?_,?_,trivial⟩
   ·intro ac wx hC hsz hK
    have h0:ac.tmps.getD 4 undef=(.pointer (some ⟨w.heap.size,0,none⟩)):=hK.1 4 (by kernel_rfl);exact mm_load 24 (.tmp 4) ((.pointer (some ⟨w.heap.size,0,none⟩))) ((.agg (pw a))) rfl rfl (by kernel_rfl) h0 (ld_pw ((H1.out.below hC.1).is _ _ (by simp))) hC (by kernel_rfl) (by rw[hsz];exact of_decide_eq_true (by kernel_rfl)) rfl
   ·intro ac wx hC hsz hK
    have h0:ac.tmps.getD 5 undef=(.pointer (some ⟨w.heap.size+1,0,none⟩)):=hK.1 5 (by kernel_rfl);exact mm_load 24 (.tmp 5) ((.pointer (some ⟨w.heap.size+1,0,none⟩))) ((.agg (pw b))) rfl rfl (by kernel_rfl) h0 (ld_pw ((H1.out.below hC.1).is _ _ (by simp))) hC (by kernel_rfl) (by rw[hsz];exact of_decide_eq_true (by kernel_rfl)) rfl
   ·intro ac wx hC hsz hK
    have h0:ac.tmps.getD 16 undef=(.agg (pw a)):=hK.2 ⟨0,.data⟩ (by simp) rfl _ rfl;have h1:ac.tmps.getD 17 undef=(.agg (pw b)):=hK.2 ⟨1,.data⟩ (by simp) rfl _ rfl;refine mm_call 100 #[ac.tmps.getD 16 undef,ac.tmps.getD 17 undef] ((.agg (pw d))) rfl (by kernel_rfl) (by kernel_rfl) ?_ hC (by kernel_rfl) (by rw[hsz];exact of_decide_eq_true (by kernel_rfl)) rfl;rw[h0,h1];exact HMI.out wx
   ·intro ac wx hC hsz hK
    have h0:ac.tmps.getD 0 undef=(.pointer (some ⟨G,0,none⟩)):=hK.1 0 (by kernel_rfl);exact mm_val ((.pointer (some ⟨G,0,none⟩))) rfl (by kernel_rfl) (by rw[<- h0];kernel_rfl) hC (by kernel_rfl) (by rw[hsz];exact of_decide_eq_true (by kernel_rfl)) rfl
   ·intro ac wx hC hsz hK
    have h0:ac.tmps.getD 19 undef=(.pointer (some ⟨G,0,none⟩)):=hK.2 ⟨3,.data⟩ (by simp) rfl _ rfl;exact mm_val ((.pointer (some ⟨G,0,none⟩))) rfl (by kernel_rfl) (run_nil (.tmp 19) _ rfl h0) hC (by kernel_rfl) (by rw[hsz];exact of_decide_eq_true (by kernel_rfl)) rfl
   ·intro ac wx hC hsz hK
    have h0:ac.tmps.getD 20 undef=(.pointer (some ⟨G,0,none⟩)):=hK.2 ⟨4,.data⟩ (by simp) rfl _ rfl;refine mm_sem (Instr.fieldAt 109 (ac.tmps.getD 20 undef) 0) ((.pointer (some ⟨G,0,none⟩))) rfl (by kernel_rfl) (by kernel_rfl) ?_ hC (by kernel_rfl) (by rw[hsz];exact of_decide_eq_true (by kernel_rfl)) rfl;rw[h0];exact(rf_at G wx).1
   ·intro ac wx hC hsz hK
    have h0:ac.tmps.getD 21 undef=(.pointer (some ⟨G,0,none⟩)):=hK.2 ⟨5,.data⟩ (by simp) rfl _ rfl;exact mm_load 24 (.tmp 21) ((.pointer (some ⟨G,0,none⟩))) ((.agg (pw m))) rfl rfl (by kernel_rfl) h0 (ld_rm (H1.out.below hC.1).fld) hC (by kernel_rfl) (by rw[hsz];exact of_decide_eq_true (by kernel_rfl)) rfl
   ·intro ac wx hC hsz hK
    have h0:ac.tmps.getD 18 undef=(.agg (pw d)):=hK.2 ⟨2,.data⟩ (by simp) rfl _ rfl;have h1:ac.tmps.getD 22 undef=(.agg (pw m)):=hK.2 ⟨6,.data⟩ (by simp) rfl _ rfl;refine mm_call 98 #[ac.tmps.getD 18 undef,ac.tmps.getD 22 undef] ((.tuple #[.agg (pw y),.bool ov])) rfl (by kernel_rfl) (by kernel_rfl) ?_ hC (by kernel_rfl) (by rw[hsz];exact of_decide_eq_true (by kernel_rfl)) rfl;rw[h0,h1];exact HPL.out wx
   ·intro ac wx hC hsz hK
    have h0:ac.tmps.getD 23 undef=(.tuple #[.agg (pw y),.bool ov]):=hK.2 ⟨7,.data⟩ (by simp) rfl _ rfl;exact mm_val ((.tuple #[.agg (pw y),.bool ov])) rfl (by kernel_rfl) (by rw[<- h0];kernel_rfl) hC (by kernel_rfl) (by rw[hsz];exact of_decide_eq_true (by kernel_rfl)) rfl
   ·intro ac wx hC hsz hK
    have h0:ac.tmps.getD 15 undef=(.tuple #[.agg (pw y),.bool ov]):=hK.2 ⟨8,.data⟩ (by simp) rfl _ rfl;refine mm_sem (Instr.extract (ac.tmps.getD 15 undef) 0) ((.agg (pw y))) rfl (by kernel_rfl) (by kernel_rfl) ?_ hC (by kernel_rfl) (by rw[hsz];exact of_decide_eq_true (by kernel_rfl)) rfl;rw[h0];exact(by kernel_rfl)
   ·intro ac wx hC hsz hK
    have h0:ac.tmps.getD 15 undef=(.tuple #[.agg (pw y),.bool ov]):=hK.2 ⟨8,.data⟩ (by simp) rfl _ rfl;refine mm_sem (Instr.extract (ac.tmps.getD 15 undef) 1) ((.bool ov)) rfl (by kernel_rfl) (by kernel_rfl) ?_ hC (by kernel_rfl) (by rw[hsz];exact of_decide_eq_true (by kernel_rfl)) rfl;rw[h0];exact(by kernel_rfl)
   ·intro ac wx hC hsz hK
    exact mm_new 24 (#[.int .u64 0,.int .u64 0,.int .u64 0,.int .u64 0]) rfl (by kernel_rfl) (by kernel_rfl) hC (by rw[pw_size];rfl) (by rw[hsz];exact of_decide_eq_true (by kernel_rfl)) rfl
   ·intro ac wx hC hsz hK
    have h0:ac.tmps.getD 24 undef=(.agg (pw y)):=hK.2 ⟨9,.data⟩ (by simp) rfl _ rfl;exact mm_store (p:=7) 24 (.tmp 7) (.tmp 24) _ rfl rfl (by kernel_rfl) rfl h0 (by simp) (hK.2 ⟨11,.data⟩ (by simp) rfl _ rfl) (fun D cs h3 h4=>store_w (h4.trans (pw_size _)) h3) hC rfl
   ·intro ac wx hC hsz hK
    have h0:ac.tmps.getD 25 undef=(.bool ov):=hK.2 ⟨10,.data⟩ (by simp) rfl _ rfl;exact mm_val ((.bool ov)) rfl (by kernel_rfl) (by rw[<- h0];kernel_rfl) hC (by kernel_rfl) (by rw[hsz];exact of_decide_eq_true (by kernel_rfl)) rfl
  intro f1 w5 hb5 hap hf5;obtain⟨D7,s7,-,r7⟩:=hf5 12 _ rfl;have H5:=Lib.hid ((H1.out.below hb5).cons r7);clear hf5 hap hb5 H1 HMI HPL r7;generalize hAct:putAll _ _ _=A1 at *;have s7':A1.tmps.getD 7 undef=.pointer (some ⟨D7,0,none⟩):=s7;have s6:A1.tmps.getD 6 undef=.pointer (some ⟨w.heap.size+1+1,0,none⟩):=by subst hAct;kernel_rfl
  have hsz:A1.tmps.size=27:=by rw[<- hAct,putAll_size];rfl
  have hdf:A1.defers=[]:=by subst hAct;kernel_rfl
  clear hAct s7 f1;obtain⟨u0,t0⟩:∃ u,A1.tmps.getD 0 undef=u:=⟨_,rfl⟩
  obtain⟨u1,t1⟩:∃ u,A1.tmps.getD 1 undef=u:=⟨_,rfl⟩
  obtain⟨u2,t2⟩:∃ u,A1.tmps.getD 2 undef=u:=⟨_,rfl⟩
  obtain⟨u3,t3⟩:∃ u,A1.tmps.getD 3 undef=u:=⟨_,rfl⟩
  obtain⟨u4,t4⟩:∃ u,A1.tmps.getD 4 undef=u:=⟨_,rfl⟩
  obtain⟨u5,t5⟩:∃ u,A1.tmps.getD 5 undef=u:=⟨_,rfl⟩
  obtain⟨u8,t8⟩:∃ u,A1.tmps.getD 8 undef=u:=⟨_,rfl⟩
  obtain⟨u9,t9⟩:∃ u,A1.tmps.getD 9 undef=u:=⟨_,rfl⟩
  obtain⟨u10,t10⟩:∃ u,A1.tmps.getD 10 undef=u:=⟨_,rfl⟩
  obtain⟨u11,t11⟩:∃ u,A1.tmps.getD 11 undef=u:=⟨_,rfl⟩
  obtain⟨u12,t12⟩:∃ u,A1.tmps.getD 12 undef=u:=⟨_,rfl⟩
  obtain⟨u13,t13⟩:∃ u,A1.tmps.getD 13 undef=u:=⟨_,rfl⟩
  obtain⟨u14,t14⟩:∃ u,A1.tmps.getD 14 undef=u:=⟨_,rfl⟩
  obtain⟨u15,t15⟩:∃ u,A1.tmps.getD 15 undef=u:=⟨_,rfl⟩
  obtain⟨u16,t16⟩:∃ u,A1.tmps.getD 16 undef=u:=⟨_,rfl⟩
  obtain⟨u17,t17⟩:∃ u,A1.tmps.getD 17 undef=u:=⟨_,rfl⟩
  obtain⟨u18,t18⟩:∃ u,A1.tmps.getD 18 undef=u:=⟨_,rfl⟩
  obtain⟨u19,t19⟩:∃ u,A1.tmps.getD 19 undef=u:=⟨_,rfl⟩
  obtain⟨u20,t20⟩:∃ u,A1.tmps.getD 20 undef=u:=⟨_,rfl⟩
  obtain⟨u21,t21⟩:∃ u,A1.tmps.getD 21 undef=u:=⟨_,rfl⟩
  obtain⟨u22,t22⟩:∃ u,A1.tmps.getD 22 undef=u:=⟨_,rfl⟩
  obtain⟨u23,t23⟩:∃ u,A1.tmps.getD 23 undef=u:=⟨_,rfl⟩
  obtain⟨u24,t24⟩:∃ u,A1.tmps.getD 24 undef=u:=⟨_,rfl⟩
  obtain⟨u25,t25⟩:∃ u,A1.tmps.getD 25 undef=u:=⟨_,rfl⟩
  obtain⟨u26,t26⟩:∃ u,A1.tmps.getD 26 undef=u:=⟨_,rfl⟩
  obtain⟨tm,df⟩:=A1;simp only at *;have hLt:=arr_litS tm;rw[hsz]at hLt;simp only[List.range,List.range.loop,List.map]at hLt;rw[t0,t1,t2,t3,t4,t5,s6,s7',t8,t9,t10,t11,t12,t13,t14,t15,t16,t17,t18,t19,t20,t21,t22,t23,t24,t25,t26]at hLt;subst hLt hdf;clear t0 t1 t2 t3 t4 t5 s6 s7' t8 t9 t10 t11 t12 t13 t14 t15 t16 t17 t18 t19 t20 t21 t22 t23 t24 t25 t26 hsz
  go_wp2_with (first | (refine wpList_ld rfl 24 _ rfl (.pointer (some ⟨D7,0,none⟩)) (.agg (pw y)) rfl (ld_pw (by exact H5.out.is _ _ (by simp))) ?_) | (refine wpList_store_row rfl 24 _ _ rfl (w.heap.size+1+1) (pw y) rfl rfl 24 (#[.int .u64 0,.int .u64 0,.int .u64 0,.int .u64 0]) (by exact H5.out.is _ _ (by simp)) (by rw[pw_size];exact infoW4) (by first | rfl | (rw[pw_size];rfl) | (rw[pw_size,pw_size])) (pw_one _) ?_))
  (try simp only[Act.put])
  refine bodyPost_ret (v:=.agg (pw y)) (results_cell_row (p:=6) rfl _ _ (w.heap.size+1+1) 24 (pw y) (0,0) _ rfl (setRow_heap _ _ _ _ _ _ (by exact H5.out.is _ (#[.int .u64 0,.int .u64 0,.int .u64 0,.int .u64 0]) (by simp))) Tryz.underlying24 rfl (by rw[pw_size];exact infoW4)) rfl ⟨by rw[HQ.out],below_setRow H5.out.old (by omega) _⟩
def vq(f:Nat->Nat):Nat->Nat
 | 0=>0
 | n+1=>vq f n+2^(32*n)*f n
theorem vq_congr{f g:Nat->Nat}:∀ {n:Nat},(∀ j,j<n->f j=g j)->vq f n=vq g n
 | 0,_=>rfl
 | n+1,h=>by
  show vq f n+_=vq g n+_;rw[vq_congr (fun j hj=>h j (by omega)),h n (by omega)]
theorem p32(n:Nat):2^(32*(n+1))=2^(32*n)*4294967296:=by rw[show 32*(n+1)=32*n+32 by omega,Nat.pow_add]
theorem vq_lt{f:Nat->Nat}:∀ {n:Nat},(∀ j,j<n->f j<4294967296)->vq f n<2^(32*n)
 | 0,_=>by simp[vq]
 | n+1,h=>by
  have h1:=vq_lt (n:=n) (fun j hj=>h j (by omega));have h2:=Nat.mul_le_mul_left (2^(32*n)) (h n (by omega));rw[Nat.succ_eq_add_one,Nat.mul_add,Nat.mul_one]at h2;show vq f n+_<_;rw[p32];omega
theorem vq_qN(x:Nat):∀ n,vq (qN x) n=x%2^256%2^(32*n)
 | 0=>by simp[vq,Nat.mod_one]
 | n+1=>by
  show vq (qN x) n+_=_;rw[vq_qN x n,p32,Nat.mod_mul];rfl
theorem vq_8{x:Nat}(h:x<2^256):vq (qN x) 8=x:=by
 rw[vq_qN,Nat.mod_eq_of_lt h,Nat.mod_eq_of_lt (Nat.lt_of_lt_of_le h (by decide))]
theorem updN_ge{f:Nat->Nat}{p v n:Nat}(h:n<=p):vq (updN f p v) n=vq f n:=vq_congr fun j hj=>by unfold updN;rw[if_neg (by omega)]
theorem updN_at(f:Nat->Nat)(p v:Nat):updN f p v p=v:=by unfold updN;rw[if_pos rfl]
theorem updN_ne(f:Nat->Nat)(p v:Nat){j:Nat}(h:j≠p):updN f p v j=f j:=by unfold updN;rw[if_neg h]
structure In1 (f0 x:Nat->Nat) (y j c:Nat) (f:Nat->Nat):Prop where
 lo:∀ k,k<j->f k<4294967296
 hi:∀ k,j<=k->f k=f0 k
 eq:vq f j+2^(32*j)*c=vq f0 j+vq x j*y
 cl:c<4294967296
theorem In1.start(f0 x:Nat->Nat)(y:Nat):In1 f0 x y 0 0 f0:=⟨fun k h=>by omega,fun _ _=>rfl,by simp[vq],by omega⟩
theorem In1.big{f0 x:Nat->Nat}{y j c:Nat}{f:Nat->Nat}(h:In1 f0 x y j c f)(h0:f0 j<4294967296)(hx:x j<4294967296)(hy:y<4294967296):x j*y<=4294967295*4294967295/\c+f0 j+x j*y<18446744073709551616:=by
 have h1:x j*y<=4294967295*4294967295:=Nat.mul_le_mul (by omega) (by omega);have:=h.cl;exact⟨h1,by omega⟩
theorem In1.step{f0 x:Nat->Nat}{y j c d:Nat}{f:Nat->Nat}(h:In1 f0 x y j c f)(h0:f0 j<4294967296)(hx:x j<4294967296)(hy:y<4294967296)(hd:c+f0 j+x j*y=d):In1 f0 x y (j+1) (d / 4294967296) (updN f j (d%4294967296)):=by
 have hb:=(h.big h0 hx hy).2;have he:=h.eq;refine⟨fun k hk=>?_,fun k hk=>?_,?_,by omega⟩
 ·by_cases e:k=j
  ·subst e;rw[updN_at];omega
  ·rw[updN_ne _ _ _ e];exact h.lo k (by omega)
 ·rw[updN_ne _ _ _ (by omega)];exact h.hi k (by omega)
 ·show vq (updN f j _) j+2^(32*j)*updN f j _ j+_=vq f0 j+2^(32*j)*f0 j+(vq x j+2^(32*j)*x j)*y
  rw[updN_ge (Nat.le_refl _),updN_at,p32];obtain⟨P,hP⟩:∃ P,2^(32*j)=P:=⟨_,rfl⟩
  rw[hP]at he |-
  have h1:P*(d%4294967296)+P*4294967296*(d / 4294967296)=P*d:=by
   rw[Nat.mul_assoc,<- Nat.mul_add,Nat.mod_add_div]
  have h2:P*d=P*c+P*f0 j+P*(x j*y):=by rw[<- hd,Nat.mul_add,Nat.mul_add]
  have h3:(vq x j+P*x j)*y=vq x j*y+P*(x j*y):=by rw[Nat.add_mul,Nat.mul_assoc]
  omega
structure In2 (f1 p:Nat->Nat) (k i c:Nat) (g:Nat->Nat):Prop where
 lo:∀ a,a<i->g a<4294967296
 hi:∀ a,i<=a->g a=f1 a
 eq:4294967296*(vq g i+2^(32*i)*c)=vq f1 (i+1)+k*vq p (i+1)
 cl:c<4294967296
theorem In2.start{f1 p:Nat->Nat}{k d c:Nat}(hd:f1 0+k*p 0=d)(hm:d%4294967296=0)(hb:d<18446744073709551616)(hc:d / 4294967296=c):In2 f1 p k 0 c f1:=by
 refine⟨fun a h=>by omega,fun _ _=>rfl,?_,by omega⟩;simp only[vq,Nat.mul_zero,Nat.pow_zero,Nat.one_mul,Nat.zero_add];omega
theorem In2.big{f1 p:Nat->Nat}{k i c:Nat}{g:Nat->Nat}(h:In2 f1 p k i c g)(h0:f1 (i+1)<4294967296)(hp:p (i+1)<4294967296)(hk:k<4294967296):k*p (i+1)<=4294967295*4294967295/\c+f1 (i+1)+k*p (i+1)<18446744073709551616:=by
 have h1:k*p (i+1)<=4294967295*4294967295:=Nat.mul_le_mul (by omega) (by omega);have:=h.cl;exact⟨h1,by omega⟩
theorem In2.step{f1 p:Nat->Nat}{k i c d:Nat}{g:Nat->Nat}(h:In2 f1 p k i c g)(h0:f1 (i+1)<4294967296)(hp:p (i+1)<4294967296)(hk:k<4294967296)(hd:c+f1 (i+1)+k*p (i+1)=d):In2 f1 p k (i+1) (d / 4294967296) (updN g i (d%4294967296)):=by
 have hb:=(h.big h0 hp hk).2;have he:=h.eq;refine⟨fun a ha=>?_,fun a ha=>?_,?_,by omega⟩
 ·by_cases e:a=i
  ·subst e;rw[updN_at];omega
  ·rw[updN_ne _ _ _ e];exact h.lo a (by omega)
 ·rw[updN_ne _ _ _ (by omega)];exact h.hi a (by omega)
 ·show 4294967296*(vq (updN g i _) i+2^(32*i)*updN g i _ i+_)=vq f1 (i+1)+2^(32*(i+1))*f1 (i+1)+k*(vq p (i+1)+2^(32*(i+1))*p (i+1))
  rw[updN_ge (Nat.le_refl _),updN_at,p32];obtain⟨P,hP⟩:∃ P,2^(32*i)=P:=⟨_,rfl⟩
  rw[hP]at he |-
  have h1:P*(d%4294967296)+P*4294967296*(d / 4294967296)=P*d:=by
   rw[Nat.mul_assoc,<- Nat.mul_add,Nat.mod_add_div]
  have h2:P*d=P*c+P*f1 (i+1)+P*(k*p (i+1)):=by rw[<- hd,Nat.mul_add,Nat.mul_add]
  have h3:k*(vq p (i+1)+P*4294967296*p (i+1))=k*vq p (i+1)+4294967296*(P*(k*p (i+1))):=by
   rw[Nat.mul_add];congr 1;rw[Nat.mul_comm P 4294967296,Nat.mul_assoc,Nat.mul_left_comm k,Nat.mul_left_comm k]
  have h4:P*4294967296*f1 (i+1)=4294967296*(P*f1 (i+1)):=by rw[Nat.mul_comm P,Nat.mul_assoc]
  omega
structure CutI (m x:Nat) (y:Nat->Nat) (i:Nat) (f:Nat->Nat):Prop where
 lo:∀ j,j<8->f j<4294967296
 lt:vq f 9<x+m
 eq:∃ K,2^(32*i)*vq f 9=x*vq y i+K*m/\K<2^(32*i)
theorem CutI.top{m x i:Nat}{y f:Nat->Nat}(h:CutI m x y i f)(hx:x<2^256)(hm:m<2^256):f 8<=1:=by
 have h1:=h.lt;have h2:vq f 9=vq f 8+2^256*f 8:=rfl;omega
theorem CutI.start{m:Nat}(x:Nat)(y:Nat->Nat)(hm:0<m):CutI m x y 0 (fun _=>0):=by
 have h:∀ n,vq (fun _=>0) n=0:=fun n=>by
  induction n with
  | zero=>rfl
  | succ n ih=>show vq _ n+_=0;rw[ih];simp
 exact⟨fun _ _=>by omega,by rw[h];omega,0,by rw[h];simp[vq],Nat.pow_pos (by omega)⟩
theorem CutI.step{m x i c c2 e e2 k:Nat}{y f f1 g:Nat->Nat}(h:CutI m x y i f)(hx:x<2^256)(hm:m<2^256)(hy:y i<4294967296)(hk:k<4294967296)
  (h1:In1 f (qN x) (y i) 8 c f1) (hd:c+f1 8=e) (h2:In2 (updN (updN f1 8 (e%4294967296)) 9 (e / 4294967296)) (qN m) k 7 c2 g) (he:c2+g 8=e2):CutI m x y (i+1) (updN (updN g 7 (e2%4294967296)) 8 (g 9+e2 / 4294967296)):=by
 obtain⟨K,hK,hKl⟩:=h.eq;have ht:=h.top hx hm;have hl:=h.lt;have e1:=h1.eq;rw[vq_8 hx]at e1;have q2:=h2.eq;rw[vq_8 hm]at q2;obtain⟨F,hF⟩:∃ F,updN (updN f1 8 (e%4294967296)) 9 (e / 4294967296)=F:=⟨_,rfl⟩
 have F8:F 8=e%4294967296:=by rw[<- hF,updN_ne _ _ _ (by omega),updN_at]
 have F9:F 9=e / 4294967296:=by rw[<- hF,updN_at]
 have FV:vq F 8=vq f1 8:=by rw[<- hF,updN_ge (by omega),updN_ge (by omega)]
 rw[hF]at h2 q2;have g8:g 8=F 8:=h2.hi 8 (by omega);have g9:g 9=F 9:=h2.hi 9 (by omega);have f18:f1 8=f 8:=h1.hi 8 (by omega);obtain⟨U,hU⟩:∃ U,updN (updN g 7 (e2%4294967296)) 8 (g 9+e2 / 4294967296)=U:=⟨_,rfl⟩
 have U7:U 7=e2%4294967296:=by rw[<- hU,updN_ne _ _ _ (by omega),updN_at]
 have U8:U 8=g 9+e2 / 4294967296:=by rw[<- hU,updN_at]
 have UV:vq U 7=vq g 7:=by rw[<- hU,updN_ge (by omega),updN_ge (by omega)]
 rw[hU];have d9:vq U 9=vq g 7+2^224*(e2%4294967296)+2^256*(g 9+e2 / 4294967296):=by
  show vq U 7+2^(32*7)*U 7+2^(32*8)*U 8=_;rw[UV,U7,U8]
 have df:vq f 9=vq f 8+2^256*f 8:=rfl;simp only[Nat.reduceMul,Nat.reducePow]at e1 q2 d9;have key:4294967296*vq U 9=vq f 9+x*y i+k*m:=by
  rw[d9,df];rw[FV]at q2;omega
 have a1:x*y i<=x*4294967295:=Nat.mul_le_mul (Nat.le_refl _) (by omega);have a2:k*m<=4294967295*m:=Nat.mul_le_mul (by omega) (Nat.le_refl _);refine⟨fun j hj=>?_,by omega,K+2^(32*i)*k,?_,?_⟩
 ·rw[<- hU,updN_ne _ _ _ (by omega)]
  by_cases q:j=7
  ·subst q;rw[updN_at];omega
  ·rw[updN_ne _ _ _ q];exact h2.lo j (by omega)
 ·show _=x*(vq y i+2^(32*i)*y i)+_
  rw[p32,Nat.mul_assoc,key];obtain⟨P,hP⟩:∃ P,2^(32*i)=P:=⟨_,rfl⟩
  rw[hP]at hK |-
  rw[Nat.mul_add,Nat.mul_add,hK,Nat.mul_add,Nat.add_mul,Nat.mul_left_comm x P,Nat.mul_assoc P k m];omega
 ·rw[p32]
  have hPk:2^(32*i)*k<=2^(32*i)*4294967295:=Nat.mul_le_mul (Nat.le_refl _) (by omega);omega
theorem CutI.done{m x y:Nat}{f:Nat->Nat}(h:CutI m x (qN y) 8 f)(hm:m<2^256)(h1:1<m)(ho:m%2=1)(hy:y<2^256)(hxy:x*y<2^256*m):vq f 9%m=mnt m x y/\vq f 9<2*m:=by
 obtain⟨K,hK,hKl⟩:=h.eq;rw[vq_8 hy]at hK;simp only[Nat.reduceMul,Nat.reducePow]at hK hKl;have hKm:K*m<2^256*m:=Nat.mul_lt_mul_of_pos_right hKl (by omega);refine⟨mnt_uniq ho h1 (Nat.mod_lt _ (by omega)) ?_,by omega⟩;rw[mul_mod_l,Nat.mul_comm,hK,Nat.mul_comm K,Nat.add_mul_mod_self_left]
end Go.Proofs.YtadfjjfklihaaaaGreat
