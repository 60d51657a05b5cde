/- What (*Field).times comes to. (Cut to what is reached, written closely: FLess · FVal · FTimes.) -/
import Derived.Test.YthnckclbeecnmaaGreatP7
set_option linter.all false
set_option maxRecDepth 100000
set_option maxHeartbeats 8000000
namespace Go.Proofs.YthnckclbeecnmaaGreat
open Go.RowKit
structure C1 (w:World) (F m x:Nat) (wx:World):Prop where
 old:Below w.heap.size w wx
 fld:FldAt wx F m
 r0:wx.heap[w.heap.size]?=some (.cells (pw x) 24 (0,0))
 r1:wx.heap[w.heap.size+1]?=some (.cells #[.int .u64 0,.int .u64 0,.int .u64 0,.int .u64 0] 24 (0,0))
theorem C1.below{w wx w':World}{F m x:Nat}(c:C1 w F m x wx)(hb:Below wx.heap.size wx w'):C1 w F m x w' :=
 ⟨c.old.trans (hb.mono c.old.size),c.fld.below hb,(hb.block _ (Array.getElem?_eq_some_iff.1 c.r0).1).trans c.r0,(hb.block _ (Array.getElem?_eq_some_iff.1 c.r1).1).trans c.r1⟩
theorem C1.start{w:World}{F m x:Nat}(h:FldAt w F m):C1 w F m x ((w.alloc (.cells (pw x) 24)).alloc (.cells #[.int .u64 0,.int .u64 0,.int .u64 0,.int .u64 0] 24)) :=
 ⟨by go_grown,(h.below ((Below.refl _ _).alloc (Nat.le_refl _) _)).below ((Below.refl _ _).alloc (Nat.le_refl _) _),heap_alloc2_old _ _ _,heap_alloc2_new _ _ _⟩
theorem C1.drew{w wx:World}{F m x:Nat}(c:C1 w F m x wx):C1 w F m x wx.drew:=c.below (Below.drew (Below.refl _ _))
theorem C1.done{w wx:World}{F m x y:Nat}(c:C1 w F m x wx):Below w.heap.size w (wx.setRow (w.heap.size+1) (pw y)):=below_setRow c.old (by omega) _
theorem geq_ord(a b:Nat)(w:World):(binOp BinOp.geq 3 (.int .i64 (ord a b)) (.int .i64 0)).run Tryz.prog w=.ok (.bool (decide (b<=a))) w:=by
 unfold ord;by_cases h1:a<b
 ·rw[if_pos h1,decide_eq_false (by omega)];kernel_rfl
 ·rw[if_neg h1,decide_eq_true (show b<=a by omega)]
  by_cases h2:b<a
  ·rw[if_pos h2];kernel_rfl
  ·rw[if_neg h2];kernel_rfl
theorem lss_ord(a b:Nat)(w:World):(binOp BinOp.lss 3 (.int .i64 (ord a b)) (.int .i64 0)).run Tryz.prog w=.ok (.bool (decide (a<b))) w:=by
 unfold ord;by_cases h1:a<b
 ·rw[if_pos h1,decide_eq_true h1];kernel_rfl
 ·rw[if_neg h1,decide_eq_false h1]
  by_cases h2:b<a
  ·rw[if_pos h2];kernel_rfl
  ·rw[if_neg h2];kernel_rfl
theorem mod_self_lt{m:Nat}(h:m<2^256):m%2^256=m:=Nat.mod_eq_of_lt h
def lessV(m x:Nat)(be:Bool):Nat:=if be=true\/m<=x%2^256 then x+(2^256 - m)else x
-- WHAT lessOnce COMES TO.
theorem lessOnce_any(F m x:Nat)(be:Bool)(w:World)(hF:FldAt w F m):Calls Tryz.prog 93 #[.pointer (some ⟨F,0,none⟩),.agg (pw x),.bool be] w fun e w'=>e=.returned (.agg (pw (lessV m x be)))/\Below w.heap.size w w':=by
 have H0:=Lib.hid (C1.start (x:=x) hF);have HS:=Lib.hid (show ∀ wx,C1 w F m x wx->Calls Tryz.prog 91 #[.agg (pw x),.agg (pw m)] wx (fun e w'=>e=.returned (.agg (pw (x+(2^256 - m))))/\C1 w F m x w') from fun wx c=>(sub_any x m wx).mono fun e w' hh=>⟨by rw[hh.1,mod_self_lt hF.lt];rfl,c.below hh.2⟩);have HCM:=Lib.hid (show ∀ wx,C1 w F m x wx->Calls Tryz.prog 94 #[.agg (pw x),.agg (pw m)] wx (fun e w'=>e=.returned (.int .i64 (ord (x%2^256) m))/\C1 w F m x w') from fun wx c=>(cmp_any x m wx).mono fun e w' hh=>⟨by rw[hh.1,mod_self_lt hF.lt],c.below hh.2⟩);clear hF;unfold lessV;obtain⟨X,hX⟩:∃ X,x%2^256=X:=⟨_,rfl⟩
 rw[hX]at HCM |-
 clear hX;cases be with
 | true =>
  rw[if_pos (.inl rfl)];obtain⟨y,hy⟩:∃ y,x+(2^256 - m)=y:=⟨_,rfl⟩
  rw[hy]at HS |-
  clear hy;go_enter Tryz.func93,Tryz.ntmps93
  go_wp2_with fail
  refine wp_region_quiet (C:=C1 w F m x) (by kernel_rfl) (by kernel_rfl) (H0.out.drew) ?_;simp only
  with_reducible refine q_val (.bool true) (by kernel_rfl) (fun _ _=>by kernel_rfl) ?_
  with_reducible refine q_val (.bool true) (by kernel_rfl) (fun _ _=>by kernel_rfl) ?_
  with_reducible refine q_skip (by kernel_rfl) ?_
  with_reducible refine q_skip (by kernel_rfl) ?_
  with_reducible refine q_skip (by kernel_rfl) ?_
  with_reducible refine q_skip (by kernel_rfl) ?_
  with_reducible refine q_skip (by kernel_rfl) ?_
  with_reducible refine q_skip (by kernel_rfl) ?_
  with_reducible refine q_skip (by kernel_rfl) ?_
  with_reducible refine q_val (.bool true) (by kernel_rfl) (fun _ _=>by kernel_rfl) ?_
  with_reducible refine wpQuiet_nil ?_
  intro wx hC;have HC:=Lib.hid hC;clear hC;simp only[Act.put,List.setIfInBounds_toArray,List.set_cons_succ,List.set_cons_zero]
  go_wp2_with fail
  refine region_quiet_tail 6 (C1 w F m x) (by kernel_rfl) (by kernel_rfl) (HC.out.drew) ?_;simp only[List.take_succ_cons,List.take_zero,List.drop_succ_cons,List.drop_zero]
  with_reducible refine q_load 24 (.tmp 4) (.pointer (some ⟨w.heap.size,0,none⟩)) (.agg (pw x)) rfl (by kernel_rfl) (by kernel_rfl) (fun _ c=>ld_pw c.r0) ?_
  with_reducible refine q_val (.pointer (some ⟨F,0,none⟩)) (by kernel_rfl) (fun _ _=>by kernel_rfl) ?_
  with_reducible refine q_val (.pointer (some ⟨F,0,none⟩)) (by kernel_rfl) (fun _ _=>run_nil (.tmp 18) _ rfl (by kernel_rfl)) ?_
  with_reducible refine q_sem2 (Instr.fieldAt 102 (.pointer (some ⟨F,0,none⟩)) 0) (.pointer (some ⟨F,0,none⟩)) (by kernel_rfl) (by kernel_rfl) (fun w' _=>fld_at F w') ?_
  with_reducible refine q_load 24 (.tmp 20) (.pointer (some ⟨F,0,none⟩)) (.agg (pw m)) rfl (by kernel_rfl) (by kernel_rfl) (fun _ c=>ld_m c.fld) ?_
  with_reducible refine q_call 91 #[.agg (pw x),.agg (pw m)] (.agg (pw y)) (by kernel_rfl) (fun _=>by kernel_rfl) (HS.out) ?_
  with_reducible refine wpQuiet_nil ?_
  intro wx hC;have HC2:=Lib.hid hC;clear hC;simp only[Act.put,List.setIfInBounds_toArray,List.set_cons_succ,List.set_cons_zero]
  go_wp2_with (refine wpList_store_row rfl 24 _ _ rfl (w.heap.size+1) (pw y) rfl rfl 24 #[.int .u64 0,.int .u64 0,.int .u64 0,.int .u64 0] (by exact HC2.out.r1) (by rw[pw_size];exact infoW4) (by rw[pw_size];rfl) (pw_one _) ?_)
  (try simp only[Act.put])
  exact bodyPost_ret (v:=.agg (pw y)) (results_cell_row (p:=6) rfl _ _ (w.heap.size+1) 24 (pw y) (0,0) _ rfl (setRow_heap _ _ _ _ _ _ HC2.out.r1) Tryz.underlying24 rfl (by rw[pw_size];exact infoW4)) rfl ⟨rfl,HC2.out.done⟩
 | false =>
  by_cases hle:m<=X
  ·rw[if_pos (.inr hle)]
   obtain⟨y,hy⟩:∃ y,x+(2^256 - m)=y:=⟨_,rfl⟩
   rw[hy]at HS |-
   clear hy;go_enter Tryz.func93,Tryz.ntmps93
   go_wp2_with fail
   refine wp_region_quiet (C:=C1 w F m x) (by kernel_rfl) (by kernel_rfl) (H0.out.drew) ?_;simp only
   with_reducible refine q_val (.bool false) (by kernel_rfl) (fun _ _=>by kernel_rfl) ?_
   with_reducible refine q_val (.bool false) (by kernel_rfl) (fun _ _=>by kernel_rfl) ?_
   with_reducible refine q_load 24 (.tmp 4) (.pointer (some ⟨w.heap.size,0,none⟩)) (.agg (pw x)) rfl (by kernel_rfl) (by kernel_rfl) (fun _ c=>ld_pw c.r0) ?_
   with_reducible refine q_val (.pointer (some ⟨F,0,none⟩)) (by kernel_rfl) (fun _ _=>by kernel_rfl) ?_
   with_reducible refine q_val (.pointer (some ⟨F,0,none⟩)) (by kernel_rfl) (fun _ _=>run_nil (.tmp 10) _ rfl (by kernel_rfl)) ?_
   with_reducible refine q_sem2 (Instr.fieldAt 102 (.pointer (some ⟨F,0,none⟩)) 0) (.pointer (some ⟨F,0,none⟩)) (by kernel_rfl) (by kernel_rfl) (fun w' _=>fld_at F w') ?_
   with_reducible refine q_load 24 (.tmp 12) (.pointer (some ⟨F,0,none⟩)) (.agg (pw m)) rfl (by kernel_rfl) (by kernel_rfl) (fun _ c=>ld_m c.fld) ?_
   with_reducible refine q_call 94 #[.agg (pw x),.agg (pw m)] (.int .i64 (ord X m)) (by kernel_rfl) (fun _=>by kernel_rfl) (HCM.out) ?_
   with_reducible refine q_bin .geq 3 _ _ 3 (.int .i64 (ord X m)) (.int .i64 0) (.bool true) rfl (by kernel_rfl) (by kernel_rfl) (by kernel_rfl) (fun _=>by kernel_rfl) (fun w'=>(geq_ord X m w').trans (by rw[decide_eq_true hle])) ?_
   with_reducible refine q_val (.bool true) (by kernel_rfl) (fun _ _=>by kernel_rfl) ?_
   with_reducible refine wpQuiet_nil ?_
   intro wx hC;have HC:=Lib.hid hC;clear hC;simp only[Act.put,List.setIfInBounds_toArray,List.set_cons_succ,List.set_cons_zero]
   go_wp2_with fail
   refine region_quiet_tail 6 (C1 w F m x) (by kernel_rfl) (by kernel_rfl) (HC.out.drew) ?_;simp only[List.take_succ_cons,List.take_zero,List.drop_succ_cons,List.drop_zero]
   with_reducible refine q_load 24 (.tmp 4) (.pointer (some ⟨w.heap.size,0,none⟩)) (.agg (pw x)) rfl (by kernel_rfl) (by kernel_rfl) (fun _ c=>ld_pw c.r0) ?_
   with_reducible refine q_val (.pointer (some ⟨F,0,none⟩)) (by kernel_rfl) (fun _ _=>by kernel_rfl) ?_
   with_reducible refine q_val (.pointer (some ⟨F,0,none⟩)) (by kernel_rfl) (fun _ _=>run_nil (.tmp 18) _ rfl (by kernel_rfl)) ?_
   with_reducible refine q_sem2 (Instr.fieldAt 102 (.pointer (some ⟨F,0,none⟩)) 0) (.pointer (some ⟨F,0,none⟩)) (by kernel_rfl) (by kernel_rfl) (fun w' _=>fld_at F w') ?_
   with_reducible refine q_load 24 (.tmp 20) (.pointer (some ⟨F,0,none⟩)) (.agg (pw m)) rfl (by kernel_rfl) (by kernel_rfl) (fun _ c=>ld_m c.fld) ?_
   with_reducible refine q_call 91 #[.agg (pw x),.agg (pw m)] (.agg (pw y)) (by kernel_rfl) (fun _=>by kernel_rfl) (HS.out) ?_
   with_reducible refine wpQuiet_nil ?_
   intro wx hC;have HC2:=Lib.hid hC;clear hC;simp only[Act.put,List.setIfInBounds_toArray,List.set_cons_succ,List.set_cons_zero]
   go_wp2_with (refine wpList_store_row rfl 24 _ _ rfl (w.heap.size+1) (pw y) rfl rfl 24 #[.int .u64 0,.int .u64 0,.int .u64 0,.int .u64 0] (by exact HC2.out.r1) (by rw[pw_size];exact infoW4) (by rw[pw_size];rfl) (pw_one _) ?_)
   (try simp only[Act.put])
   exact bodyPost_ret (v:=.agg (pw y)) (results_cell_row (p:=6) rfl _ _ (w.heap.size+1) 24 (pw y) (0,0) _ rfl (setRow_heap _ _ _ _ _ _ HC2.out.r1) Tryz.underlying24 rfl (by rw[pw_size];exact infoW4)) rfl ⟨rfl,HC2.out.done⟩
  ·rw[if_neg (by simp[hle])]
   go_enter Tryz.func93,Tryz.ntmps93
   go_wp2_with fail
   refine wp_region_quiet (C:=C1 w F m x) (by kernel_rfl) (by kernel_rfl) (H0.out.drew) ?_;simp only
   with_reducible refine q_val (.bool false) (by kernel_rfl) (fun _ _=>by kernel_rfl) ?_
   with_reducible refine q_val (.bool false) (by kernel_rfl) (fun _ _=>by kernel_rfl) ?_
   with_reducible refine q_load 24 (.tmp 4) (.pointer (some ⟨w.heap.size,0,none⟩)) (.agg (pw x)) rfl (by kernel_rfl) (by kernel_rfl) (fun _ c=>ld_pw c.r0) ?_
   with_reducible refine q_val (.pointer (some ⟨F,0,none⟩)) (by kernel_rfl) (fun _ _=>by kernel_rfl) ?_
   with_reducible refine q_val (.pointer (some ⟨F,0,none⟩)) (by kernel_rfl) (fun _ _=>run_nil (.tmp 10) _ rfl (by kernel_rfl)) ?_
   with_reducible refine q_sem2 (Instr.fieldAt 102 (.pointer (some ⟨F,0,none⟩)) 0) (.pointer (some ⟨F,0,none⟩)) (by kernel_rfl) (by kernel_rfl) (fun w' _=>fld_at F w') ?_
   with_reducible refine q_load 24 (.tmp 12) (.pointer (some ⟨F,0,none⟩)) (.agg (pw m)) rfl (by kernel_rfl) (by kernel_rfl) (fun _ c=>ld_m c.fld) ?_
   with_reducible refine q_call 94 #[.agg (pw x),.agg (pw m)] (.int .i64 (ord X m)) (by kernel_rfl) (fun _=>by kernel_rfl) (HCM.out) ?_
   with_reducible refine q_bin .geq 3 _ _ 3 (.int .i64 (ord X m)) (.int .i64 0) (.bool false) rfl (by kernel_rfl) (by kernel_rfl) (by kernel_rfl) (fun _=>by kernel_rfl) (fun w'=>(geq_ord X m w').trans (by rw[decide_eq_false hle])) ?_
   with_reducible refine q_val (.bool false) (by kernel_rfl) (fun _ _=>by kernel_rfl) ?_
   with_reducible refine wpQuiet_nil ?_
   intro wx hC;have HC:=Lib.hid hC;clear hC;simp only[Act.put,List.setIfInBounds_toArray,List.set_cons_succ,List.set_cons_zero]
   go_wp2_with (first | (refine wpList_load_row rfl 24 _ rfl w.heap.size rfl 24 (pw x) (0,0) _ (by exact HC.out.r0) Tryz.underlying24 rfl (by rw[pw_size];exact infoW4) ?_) | (refine wpList_store_row rfl 24 _ _ rfl (w.heap.size+1) (pw x) rfl rfl 24 #[.int .u64 0,.int .u64 0,.int .u64 0,.int .u64 0] (by exact HC.out.r1) (by rw[pw_size];exact infoW4) (by rw[pw_size];rfl) (pw_one _) ?_))
   (try simp only[Act.put])
   exact bodyPost_ret (v:=.agg (pw x)) (results_cell_row (p:=6) rfl _ _ (w.heap.size+1) 24 (pw x) (0,0) _ rfl (setRow_heap _ _ _ _ _ _ HC.out.r1) Tryz.underlying24 rfl (by rw[pw_size];exact infoW4)) rfl ⟨rfl,HC.out.done⟩
open Go.RowKit
theorem vl_split(f:Nat->Nat)(k:Nat):∀ n,val f (k+n)=val f k+18446744073709551616^k*val (fun j=>f (k+j)) n
 | 0=>by simp[val]
 | n+1=>by
  show val f (k+n)+18446744073709551616^(k+n)*f (k+n)=_;rw[vl_split f k n];simp only[val];rw[Nat.pow_add,Nat.mul_add,Nat.mul_assoc,Nat.add_assoc]
theorem val_setN(f:Nat->Nat)(p y:Nat):∀ L,p<L->val (updN f p y) L+18446744073709551616^p*f p=val f L+18446744073709551616^p*y
 | 0,h=>by omega
 | L+1,h=>by
  simp only[val];by_cases e:p=L
  ·subst e
   rw[val_congr (f:=updN f p y) (g:=f) (fun j hj=>by unfold updN;rw[if_neg (by omega)]),show updN f p y p=y from if_pos rfl];omega
  ·have:=val_setN f p y L (by omega)
   rw[show updN f p y L=f L from if_neg (by omega)];omega
theorem val_four(f:Nat->Nat):val f 4=f 0+18446744073709551616*(f 1+18446744073709551616*(f 2+18446744073709551616*f 3)):=by
 simp only[val];omega
theorem rowI_val{s a s':Nat->Nat}{u x c:Nat}(H:RowI s a u x 4 c s')(hu:u<=4):val s' 8+18446744073709551616^(u+4)*c=val s 8+18446744073709551616^u*(x*val a 4):=by
 obtain⟨n,hn⟩:∃ n,4 - u=n:=⟨_,rfl⟩
 have e8:8=u+(4+n):=by omega
 have h1:∀ f:Nat->Nat,val f 8=val f u+18446744073709551616^u*(val (fun j=>f (u+j)) 4+18446744073709551616^4*val (fun j=>f (u+(4+j))) n):=fun f=>by
  rw[e8,vl_split f u,vl_split (fun j=>f (u+j)) 4 n]
 have h2:val s' u=val s u:=val_congr fun j hj=>H.out j (.inl hj);have h3:val (fun j=>s' (u+(4+j))) n=val (fun j=>s (u+(4+j))) n:=val_congr fun j hj=>H.out _ (.inr (by omega));have h4:=H.sum;rw[h1 s',h1 s,h2,h3,Nat.pow_add];obtain⟨P,hP⟩:∃ P,18446744073709551616^u=P:=⟨_,rfl⟩
 obtain⟨Q,hQ⟩:∃ Q:Nat,18446744073709551616^4=Q:=⟨_,rfl⟩
 rw[hP,hQ];rw[hQ]at h4;have h5:P*(val (fun j=>s' (u+j)) 4+Q*c)=P*(val (fun j=>s (u+j)) 4+x*val a 4):=by rw[h4]
 rw[Nat.mul_add,Nat.mul_add]at h5;rw[Nat.mul_add,Nat.mul_add,Nat.mul_assoc];omega
structure T1 (x y k:Nat) (s:Nat->Nat):Prop where
 lt:∀ t,s t<18446744073709551616
 top:∀ t,4+k<=t->s t=0
 sum:val s 8=val (pN x) k*val (pN y) 4
theorem T1.next{x y k c:Nat}{s s':Nat->Nat}(h:T1 x y k s)(hk:k<4)(H:RowI s (pN y) k (pN x k) 4 c s'):T1 x y (k+1) (updN s' (k+4) c):=by
 refine⟨fun t=>?_,fun t ht=>?_,?_⟩
 ·unfold updN;split
  ·exact H.clt
  ·exact H.lt t
 ·unfold updN
  rw[if_neg (by omega),H.out t (.inr (by omega)),h.top t (by omega)]
 ·have h1:=val_setN s' (k+4) c 8 (by omega)
  have h2:=rowI_val H (by omega);have h3:s' (k+4)=0:=by rw[H.out _ (.inr (by omega)),h.top _ (by omega)]
  have h4:=h.sum;rw[show val (pN x) (k+1)=val (pN x) k+18446744073709551616^k*pN x k from rfl,Nat.add_mul,<- h4,Nat.mul_assoc];rw[h3,Nat.mul_zero]at h1;omega
structure T2 (m N k be:Nat) (s:Nat->Nat):Prop where
 lt:∀ t,s t<18446744073709551616
 one:be<=1
 low:∀ t,t<k->s t=0
 sum:∃ Q,Q<18446744073709551616^k/\val s 8+18446744073709551616^(k+4)*be=N+Q*m
theorem T2.next{m N k be c d be':Nat}{s s':Nat->Nat}(h:T2 m N k be s)(ho:m%2=1)(hm:m<2^256)(hk:k<4)(H:RowI s (pN m) k (s k*nin m%18446744073709551616) 4 c s')(hd:d<18446744073709551616)(hb:be'<=1)(he:d+18446744073709551616*be'=s' (k+4)+c+be):T2 m N (k+1) be' (updN s' (k+4) d):=by
 have hv:val (pN m) 4=m:=by rw[val_pN,Nat.mod_eq_of_lt hm]
 refine⟨fun t=>?_,hb,fun t ht=>?_,?_⟩
 ·unfold updN;split
  ·exact hd
  ·exact H.lt t
 ·unfold updN
  rw[if_neg (by omega)];by_cases e:t=k
  ·subst e
   have h1:=H.sum;rw[hv,val_four,val_four]at h1;have h2:=nin_ok ho (s t);have h3:(s t*nin m%18446744073709551616*(m%18446744073709551616))%18446744073709551616=(s t*nin m%18446744073709551616*m)%18446744073709551616:=mul_mod_r _ _ _;have h4:=H.lt t;simp only[Nat.add_zero]at h1;obtain⟨q,hq⟩:∃ q,s t*nin m%18446744073709551616*m=q:=⟨_,rfl⟩
   obtain⟨q2,hq2⟩:∃ q2,s t*nin m%18446744073709551616*(m%18446744073709551616)=q2:=⟨_,rfl⟩
   rw[hq]at h1 h3;rw[hq2]at h2 h3;have h5:(18446744073709551616^4:Nat)*c=18446744073709551616*(18446744073709551616^3*c):=by rw[<- Nat.mul_assoc,<- Nat.pow_succ']
   rw[h5]at h1;generalize (18446744073709551616^3:Nat)*c=z at h1;omega
  ·rw[H.out t (.inl (by omega)),h.low t (by omega)]
 ·obtain⟨Q,hQ,hs⟩:=h.sum
  have h1:=val_setN s' (k+4) d 8 (by omega);have h2:=rowI_val H (by omega);rw[hv]at h2;obtain⟨q,hq⟩:∃ q,s k*nin m%18446744073709551616=q:=⟨_,rfl⟩
  have hql:q<18446744073709551616:=by rw[<- hq];exact Nat.mod_lt _ (by omega)
  rw[hq]at h2;refine⟨Q+18446744073709551616^k*q,?_,?_⟩
  ·rw[Nat.pow_succ]
   have:18446744073709551616^k*q<=18446744073709551616^k*(18446744073709551616 - 1):=Nat.mul_le_mul_left _ (by omega);have h3:18446744073709551616^k*(18446744073709551616 - 1)+18446744073709551616^k=18446744073709551616^k*18446744073709551616:=by rw[<- Nat.mul_succ]
   omega
  ·rw[show k+1+4=(k+4)+1 by omega,Nat.pow_succ,Nat.add_mul,Nat.mul_assoc]
   obtain⟨P,hP⟩:∃ P,18446744073709551616^(k+4)=P:=⟨_,rfl⟩
   rw[hP]at h1 h2 hs |-
   have h3:P*(d+18446744073709551616*be')=P*(s' (k+4)+c+be):=by rw[he]
   rw[Nat.mul_add,Nat.mul_add,Nat.mul_add]at h3;rw[Nat.mul_assoc];omega
theorem T2.done{m x y be:Nat}{s:Nat->Nat}(h:T2 m (x*y) 4 be s)(ho:m%2=1)(h1:1<m)(hm:m<2^256)(hb:x*y<2^256*m):wv (lessV m (val (fun j=>s (4+j)) 4) (decide (be=1)))=wv (mnt m x y):=by
 obtain⟨Q,hQ,hs⟩:=h.sum;have e8:val s 8=2^256*val (fun j=>s (4+j)) 4:=by
  rw[show 8=4+4 from rfl,vl_split];have:val s 4=0:=by rw[val_four,h.low 0 (by omega),h.low 1 (by omega),h.low 2 (by omega),h.low 3 (by omega)]
  rw[this,Nat.zero_add]
 obtain⟨u,hu⟩:∃ u,val (fun j=>s (4+j)) 4=u:=⟨_,rfl⟩
 have hul:u<2^256:=by
  rw[<- hu,val_four];have a0:=h.lt 4;have a1:=h.lt 5;have a2:=h.lt 6;have a3:=h.lt 7;show s 4+18446744073709551616*(s 5+18446744073709551616*(s 6+18446744073709551616*s 7))<_;omega
 rw[hu]at e8 |-
 rw[e8,show(18446744073709551616:Nat)^(4+4)=2^256*2^256 by decide]at hs;have hQ2:Q<2^256:=hQ;have hone:=h.one;obtain⟨N,hN⟩:∃ N,x*y=N:=⟨_,rfl⟩
 -- T*R=N+Q*m,T=u+be*R
 obtain⟨T,hT⟩:∃ T,u+2^256*be=T:=⟨_,rfl⟩
 have hTR:T*2^256=x*y+Q*m:=by rw[<- hs,<- hT,Nat.add_mul,Nat.mul_comm u,Nat.mul_assoc,Nat.mul_comm be,<- Nat.mul_assoc]
 have hT2:T<m+m:=by
  have h2:Q*m<=2^256*m:=Nat.mul_le_mul_right m (by omega);have h3:T*2^256<(m+m)*2^256:=by rw[hTR,Nat.add_mul,Nat.mul_comm m];omega
  exact Nat.lt_of_mul_lt_mul_right h3
 have key:∀ r,r<m->(r=T\/r+m=T)->r=mnt m x y:=fun r hr h2=>by
  refine mnt_uniq ho h1 hr ?_;have h3:T*2^256%m=x*y%m:=by rw[hTR,Nat.add_mul_mod_self_right]
  rcases h2 with rfl | h2
  ·exact h3
  ·rw[<- h3,<- h2,Nat.add_mul,Nat.mul_comm m,Nat.add_mul_mod_self_right]
 unfold lessV;by_cases hc:be=1\/m<=u
 ·rw[if_pos (by rw[Nat.mod_eq_of_lt hul];simpa using hc)]
  have h2:T - m=mnt m x y:=key _ (by omega) (.inr (by rcases hc with hc | hc <;> omega));rw[<- h2];apply wv_congr;rcases hc with hc | hc
  ·subst hc
   congr 1;omega
  ·have hb0:be=0\/be=1:=by omega
   rcases hb0 with hb0 | hb0
   ·subst hb0
    rw[show u+(2^256 - m)=(T - m)+2^256 by omega,Nat.add_mod_right]
   ·subst hb0
    congr 1;omega
 ·rw[if_neg (by rw[Nat.mod_eq_of_lt hul];simpa using hc)]
  have hb0:be=0:=by omega
  subst hb0;have h2:T=mnt m x y:=key _ (by omega) (.inl rfl);rw[<- h2,<- hT,Nat.mul_zero,Nat.add_zero]
open Go.RowKit
theorem idx_pw(x k:Nat)(hk:k<4)(w:World):(Instr.index 24 (.agg (pw x)) (.int .i64 (k:Nat))).run Tryz.prog w=.ok (.int .u64 (pN x k:Nat)) w:=by
 rw[pw_ar];exact index_ar w Tryz.underlying24 (by kernel_rfl) (by kernel_rfl) hk
theorem slice8(S k:Nat)(h:k<=4)(w:World):(Instr.sliceAt 69 (.pointer (some ⟨S,0,none⟩)) (some (.int .i64 (k:Nat))) none none).run Tryz.prog w=.ok (.slice (some ⟨S,k,none⟩) (8 - k) (8 - k)) w:=by
 have hlen:Tryz.prog.arrayLen 69=8:=by kernel_rfl
 have hsz:(sizeOf (Tryz.prog.elem 69)).run Tryz.prog w=.ok 1 w:=by kernel_rfl
 rw[run_sliceAt_array_l w 69 ⟨S,0,none⟩ (by kernel_rfl) .i64 _ (by omega) (by rw[hlen];omega),hsz,hlen];simp only[Result.andThen,slicedAt,Addr.add];rw[Int.toNat_natCast,if_neg (by omega)];simp;omega
theorem arr8(S k:Nat)(h:k<=4)(w:World):(Instr.arrayAt 24 (.slice (some ⟨S,k,none⟩) (8 - k) (8 - k))).run Tryz.prog w=.ok (.pointer (some ⟨S,k,none⟩)) w :=
 run_arrayAt _ 24 22 4 _ _ _ Tryz.underlying24 (by omega)
theorem at8f(V j:Nat)(hj:j<8)(w:World):(Instr.indexAt 69 (.pointer (some ⟨V,0,none⟩)) (.int .i64 (j:Nat))).run Tryz.prog w=.ok (.pointer (some ⟨V,j,none⟩)) w:=by
 have h0:(0:Int)<=j:=by omega
 have h1:(j:Int)<8:=by omega
 go_simp
theorem mul_u(a b q:Nat)(h:a*b%18446744073709551616=q)(w:World):(binOp BinOp.mul 22 (.int .u64 (a:Nat)) (.int .u64 (b:Nat))).run Tryz.prog w=.ok (.int .u64 (q:Nat)) w:=by
 have e:(a:Int)*(b:Int)=((a*b:Nat):Int):=by simp
 have e2:IntKind.u64.wrap ((a:Int)*(b:Int))=(q:Int):=by rw[e,IntKind.wrap_u64];omega
 clear h e
 go_simp
theorem heap4f(w:World)(A B C D:Obj):((((w.alloc A).alloc B).alloc C).alloc D).heap[w.heap.size]?=some A/\((((w.alloc A).alloc B).alloc C).alloc D).heap[w.heap.size+1]?=some B/\((((w.alloc A).alloc B).alloc C).alloc D).heap[w.heap.size+1+1]?=some C/\((((w.alloc A).alloc B).alloc C).alloc D).heap[w.heap.size+1+1+1]?=some D:=by
 have h:=heap3 w A B C;have hs:(((w.alloc A).alloc B).alloc C).heap.size=w.heap.size+1+1+1:=by simp
 refine⟨(heap_alloc_old _ _ (by omega)).trans h.1,(heap_alloc_old _ _ (by omega)).trans h.2.1,(heap_alloc_old _ _ (by omega)).trans h.2.2,?_⟩;rw[<- hs];exact heap_alloc_new _ _
structure CT3 (w:World) (F m x y:Nat) (s:Nat->Nat) (wx:World):Prop where
 old:Below w.heap.size w wx
 fld:FldAt wx F m
 r0:wx.heap[w.heap.size]?=some (.cells (pw x) 24 (0,0))
 r1:wx.heap[w.heap.size+1]?=some (.cells (pw y) 24 (0,0))
 r2:wx.heap[w.heap.size+1+1]?=some (.cells #[.int .u64 0,.int .u64 0,.int .u64 0,.int .u64 0] 24 (0,0))
 rS:wx.heap[w.heap.size+1+1+1]?=some (.cells (ar .u64 8 fun j=>((s j:Nat):Int)) 69 (0,0))
 hF:F<w.heap.size
theorem CT3.high{w wx:World}{F m x y:Nat}{s:Nat->Nat}(c:CT3 w F m x y s wx):w.heap.size+1+1+1+1<=wx.heap.size:=(Array.getElem?_eq_some_iff.1 c.rS).1
theorem CT3.below{w wx w':World}{F m x y:Nat}{s:Nat->Nat}(c:CT3 w F m x y s wx)(hb:Below wx.heap.size wx w'):CT3 w F m x y s w':=by
 have l:=c.high;exact⟨c.old.trans (hb.mono (by omega)),c.fld.below hb,(hb.block _ (by omega)).trans c.r0,(hb.block _ (by omega)).trans c.r1,(hb.block _ (by omega)).trans c.r2,(hb.block _ (by omega)).trans c.rS,c.hF⟩
theorem CT3.drew{w wx:World}{F m x y:Nat}{s:Nat->Nat}(c:CT3 w F m x y s wx):CT3 w F m x y s wx.drew:=c.below (Below.drew (Below.refl _ _))
theorem CT3.after{w wx w':World}{F m x y:Nat}{s s':Nat->Nat}(c:CT3 w F m x y s wx)(hb:Bt (w.heap.size+1+1+1) wx w')(hr:w'.heap[w.heap.size+1+1+1]?=some (.cells (ar .u64 8 fun j=>((s' j:Nat):Int)) 69 (0,0))):CT3 w F m x y s' w':=by
 have l:=c.high;have l2:=c.hF;exact⟨hb.below c.old (by omega) (by omega),⟨(hb.block _ (by omega) (by omega)).trans c.fld.row,c.fld.odd,c.fld.big,c.fld.lt⟩,(hb.block _ (by omega) (by omega)).trans c.r0,(hb.block _ (by omega) (by omega)).trans c.r1,(hb.block _ (by omega) (by omega)).trans c.r2,hr,c.hF⟩
theorem CT3.set{w wx:World}{F m x y:Nat}{s:Nat->Nat}(c:CT3 w F m x y s wx)(p z:Nat)(hp:p<8):CT3 w F m x y (updN s p z) (wx.setCell ⟨w.heap.size+1+1+1,p,none⟩ (.int .u64 (z:Nat))) :=
 c.after ((Bt.refl _ _).set _) ((heap_setCell_same _ _ _ _ _ _ c.rS).trans (by rw[ar_set _ _ _ _ _ hp,updI_N]))
theorem CT3.at_{w wx:World}{F m x y:Nat}{s:Nat->Nat}(c:CT3 w F m x y s wx)(j:Nat)(hj:j<8):wx.cell? ⟨w.heap.size+1+1+1,j,none⟩=some (.int .u64 (s j:Nat)):=(cell_of_row _ _ j _ _ _ c.rS).trans (ar_at _ _ _ _ hj)
theorem CT3.at_y{w wx:World}{F m x y:Nat}{s:Nat->Nat}(c:CT3 w F m x y s wx)(j:Nat)(hj:j<4):wx.cell? ⟨w.heap.size+1,0+j,none⟩=some (.int .u64 (pN y j:Nat)):=by
 rw[Nat.zero_add,cell_of_row _ _ j _ _ _ c.r1,pw_ar];exact ar_at _ _ _ _ hj
theorem CT3.at_m{w wx:World}{F m x y:Nat}{s:Nat->Nat}(c:CT3 w F m x y s wx)(j:Nat)(hj:j<4):wx.cell? ⟨F,0+j,none⟩=some (.int .u64 (pN m j:Nat)):=by
 rw[Nat.zero_add,c.fld.cell j (by omega)];unfold frw;rw[if_pos hj]
theorem pN_lt(x j:Nat):pN x j<18446744073709551616:=pN_le x j
theorem ld_top{w wx:World}{F m x y:Nat}{s:Nat->Nat}(c:CT3 w F m x y s wx)(hs:∀ t,s t<18446744073709551616):(Instr.loadAt 24 (.pointer (some ⟨w.heap.size+1+1+1,4,none⟩))).run Tryz.prog wx=.ok (.agg (pw (val (fun j=>s (4+j)) 4))) wx:=by
 rw[pw_ar];have e:∀ j,j<4->pN (val (fun j=>s (4+j)) 4) j=s (4+j):=fun j hj=>by
  have a0:=hs 4;have a1:=hs 5;have a2:=hs 6;have a3:=hs 7;have h:j=0\/j=1\/j=2\/j=3:=by omega
  rw[val_four];unfold pN;show(s 4+18446744073709551616*(s 5+18446744073709551616*(s 6+18446744073709551616*s 7)))%_ / _%_=_;rcases h with rfl | rfl | rfl | rfl
  ·simp;omega
  ·simp;omega
  ·simp;omega
  ·simp;omega
 simp only[Instr.loadAt,Instr.sureAddr,Sem.run_bind,Sem.run_pure,Result.andThen_ok,run_loadVar_part wx (w.heap.size+1+1+1) 4 4 24 .u64 (fun j=>((pN (val (fun j=>s (4+j)) 4) j:Nat):Int)) _ (fun j hj=>by
  show _=some (Value.int .u64 ((pN (val (fun j=>s (4+j)) 4) j:Nat):Int));rw[c.at_ (4+j) (by omega),e j hj]) Tryz.underlying24 rfl infoW4]
-- WHAT times COMES TO.
theorem times_any(F m x y:Nat)(hx:x<2^256)(hy:y<2^256)(hxy:x*y<2^256*m)(w:World)(hF:FldAt w F m):Calls Tryz.prog 95 #[.pointer (some ⟨F,0,none⟩),.agg (pw x),.agg (pw y)] w fun e w'=>e=.returned (.agg (pw (mnt m x y)))/\Below w.heap.size w w':=by
 have H4:=Lib.hid (heap4f w (.cells (pw x) 24) (.cells (pw y) 24) (.cells #[.int .u64 0,.int .u64 0,.int .u64 0,.int .u64 0] 24) (.cells #[.int .u64 0,.int .u64 0,.int .u64 0,.int .u64 0,.int .u64 0,.int .u64 0,.int .u64 0,.int .u64 0] 69));have H0:=Lib.hid (show CT3 w F m x y (fun _=>0) ((((w.alloc (.cells (pw x) 24)).alloc (.cells (pw y) 24)).alloc (.cells #[.int .u64 0,.int .u64 0,.int .u64 0,.int .u64 0] 24)).alloc (.cells #[.int .u64 0,.int .u64 0,.int .u64 0,.int .u64 0,.int .u64 0,.int .u64 0,.int .u64 0,.int .u64 0] 69)) from
  ⟨by go_grown,⟨(show Below w.heap.size w ((((w.alloc (.cells (pw x) 24)).alloc (.cells (pw y) 24)).alloc (.cells #[.int .u64 0,.int .u64 0,.int .u64 0,.int .u64 0] 24)).alloc (.cells #[.int .u64 0,.int .u64 0,.int .u64 0,.int .u64 0,.int .u64 0,.int .u64 0,.int .u64 0,.int .u64 0] 69)) from by go_grown).block _ hF.less |>.trans hF.row,hF.odd,hF.big,hF.lt⟩,H4.out.1,H4.out.2.1,H4.out.2.2.1,H4.out.2.2.2,hF.less⟩)
 have HI:=Lib.hid (show T1 x y 0 (fun _=>0) from⟨fun _=>by show 0<18446744073709551616;omega,fun _ _=>rfl,by simp only[val];simp⟩);have HB:=Lib.hid (And.intro hx (And.intro hy hxy));clear H4 hF hx hy hxy;go_enter Tryz.func95,Tryz.ntmps95
 go_wp2_with (refine wpList_ld rfl 24 _ rfl (.pointer (some ⟨w.heap.size,0,none⟩)) (.agg (pw x)) rfl (ld_pw H0.out.r0) ?_)
 go_loopw [14] (fun iv wr=>∃(k:Nat) (s:Nat->Nat),k<=4/\iv=.int .i64 k/\Hid (T1 x y k s/\CT3 w F m x y s wr)) (fun iv _=>4 - (intOf iv).toNat)
 case atStart=>exact⟨0,fun _=>0,by omega,rfl,Lib.hid ⟨HI.out,H0.out⟩⟩
 case round =>
  obtain⟨k,s,hk,rfl,H⟩:=hrel;clear HI H0;have hk0:(0:Int)<=k:=by omega
  by_cases hlt:k<4
  ·have hlt':(k:Int)<4:=by omega
   have hix:=idx_pw x k hlt;obtain⟨z,hz⟩:∃ z,pN x k=z:=⟨_,rfl⟩
   rw[hz]at hix;have hsl:=slice8 (w.heap.size+1+1+1) k (by omega);have har:=arr8 (w.heap.size+1+1+1) k (by omega);obtain⟨L,hL⟩:∃ L,8 - k=L:=⟨_,rfl⟩
   rw[hL]at hsl har;obtain⟨p,hp⟩:∃ p:Nat,(k:Int)+4=(p:Int):=⟨k+4,by omega⟩
   have hp0:(0:Int)<=p:=by omega
   have hp8:(p:Int)<8:=by omega
   have hwp:IntKind.i64.wrap (p:Int)=(p:Int):=by rw[IntKind.wrap_i64];omega
   have HP:=Lib.hid (And.intro hlt (show k+4=p by omega));have HZ:=Lib.hid hz;clear hz hL
   go_wp2_with fail
   refine(addTimes_any (w.heap.size+1+1+1) (w.heap.size+1) 0 k z (pN y) s (by omega) (by rw[<- HZ.out];exact pN_lt _ _) (pN_lt y) H.out.1.lt (by omega) wr H.out.2.rS (fun j hj=>H.out.2.at_y j hj)).mono ?_;rintro e w5 ⟨c,s1,rfl,hI,hCA⟩;have HC:=Lib.hid (H.out.2.after hCA.bt hCA.row);have HT:=Lib.hid (show T1 x y (k+1) (updN s1 p c) from by
    rw[<- HZ.out]at hI;have:=H.out.1.next HP.out.1 hI;rwa [HP.out.2]at this)
   have co:=HC.out.at_ p (by omega);have fo:=frozen_of_row w5 (w.heap.size+1+1+1) p _ _ HC.out.rS;clear hI hCA H
   go_wp2_with fail
   go_roundw
   case rel=>exact⟨k+1,updN s1 p c,by have:=HP.out.1;omega,by go_num,Lib.hid ⟨HT.out,HC.out.set p c (by omega)⟩⟩
   case measure=>simp[intOf];omega
  ·obtain rfl:k=4:=by omega
   have hlt':¬((4:Nat):Int)<4:=by omega
   have H2:=Lib.hid (show T2 m (x*y) 0 0 s/\CT3 w F m x y s wr from by
    refine⟨⟨H.out.1.lt,by omega,fun t ht=>by omega,0,by simp,?_⟩,H.out.2⟩;rw[H.out.1.sum,val_pN,val_pN,Nat.mod_eq_of_lt HB.out.1,Nat.mod_eq_of_lt HB.out.2.1];simp)
   clear H hlt hlt' hk0 hk;simp only[Int.cast_ofNat_Int]
   go_wp2_with fail
   go_loopw [10,27] (fun bv iv wr=>∃(k be:Nat) (s:Nat->Nat),k<=4/\be<=1/\bv=.int .u64 be/\iv=.int .i64 k/\Hid (T2 m (x*y) k be s/\CT3 w F m x y s wr)) (fun _ iv _=>4 - (intOf iv).toNat)
   case atStart=>exact⟨0,0,s,by omega,by omega,rfl,rfl,H2⟩
   case round =>
    obtain⟨k,be,s,hk,hbe,rfl,rfl,H⟩:=hrel;clear H2;have hk0:(0:Int)<=k:=by omega
    by_cases hlt:k<4
    ·have hlt':(k:Int)<4:=by omega
     obtain⟨p,hp⟩:∃ p:Nat,(k:Int)+4=(p:Int):=⟨k+4,by omega⟩
     have hp0:(0:Int)<=p:=by omega
     have hp8:(p:Int)<8:=by omega
     have hwp:IntKind.i64.wrap (p:Int)=(p:Int):=by rw[IntKind.wrap_i64];omega
     obtain⟨q,hq⟩:∃ q,s k*nin m%18446744073709551616=q:=⟨_,rfl⟩
     have HP:=Lib.hid (And.intro hlt (And.intro (show k+4=p by omega) (And.intro hq hbe)));obtain⟨L,hL⟩:∃ L,8 - k=L:=⟨_,rfl⟩
     have HL:=Lib.hid hL;clear hq hL
     go_wp2_with fail
     refine region_quiet_tail 14 (CT3 w F m x y s) (by kernel_rfl) (by kernel_rfl) (H.out.2.drew) ?_;simp only[List.take_succ_cons,List.take_zero,List.drop_succ_cons,List.drop_zero]
     with_reducible refine q_val (.int .i64 (k:Nat)) (by kernel_rfl) (fun _ _=>by kernel_rfl) ?_
     with_reducible refine q_sem2 (Instr.sliceAt 69 (.pointer (some ⟨w.heap.size+1+1+1,0,none⟩)) (some (.int .i64 (k:Nat))) none none) (.slice (some ⟨w.heap.size+1+1+1,k,none⟩) L L) (by kernel_rfl) (by kernel_rfl) (fun w' _=>by rw[<- HL.out];exact slice8 _ k (by have:=HP.out.1;omega) w') ?_
     with_reducible refine q_sem2 (Instr.arrayAt 24 (.slice (some ⟨w.heap.size+1+1+1,k,none⟩) L L)) (.pointer (some ⟨w.heap.size+1+1+1,k,none⟩)) (by kernel_rfl) (by kernel_rfl) (fun w' _=>by rw[<- HL.out];exact arr8 _ k (by have:=HP.out.1;omega) w') ?_
     with_reducible refine q_val (.pointer (some ⟨F,0,none⟩)) (by kernel_rfl) (fun _ _=>by kernel_rfl) ?_
     with_reducible refine q_val (.pointer (some ⟨F,0,none⟩)) (by kernel_rfl) (fun _ _=>run_nil (.tmp 33) _ rfl (by kernel_rfl)) ?_
     with_reducible refine q_sem2 (Instr.fieldAt 102 (.pointer (some ⟨F,0,none⟩)) 0) (.pointer (some ⟨F,0,none⟩)) (by kernel_rfl) (by kernel_rfl) (fun w' _=>fld_at F w') ?_
     with_reducible refine q_val (.int .i64 (k:Nat)) (by kernel_rfl) (fun _ _=>by kernel_rfl) ?_
     with_reducible refine q_sem2 (Instr.indexAt 69 (.pointer (some ⟨w.heap.size+1+1+1,0,none⟩)) (.int .i64 (k:Nat))) (.pointer (some ⟨w.heap.size+1+1+1,k,none⟩)) (by kernel_rfl) (by kernel_rfl) (fun w' _=>at8f _ k (by have:=HP.out.1;omega) w') ?_
     with_reducible refine q_load 22 (.tmp 37) (.pointer (some ⟨w.heap.size+1+1+1,k,none⟩)) (.int .u64 (s k:Nat)) rfl (by kernel_rfl) (by kernel_rfl) (fun _ c=>load_u64 _ _ _ _ (c.at_ k (by have:=HP.out.1;omega))) ?_
     with_reducible refine q_val (.pointer (some ⟨F,0,none⟩)) (by kernel_rfl) (fun _ _=>by kernel_rfl) ?_
     with_reducible refine q_val (.pointer (some ⟨F,0,none⟩)) (by kernel_rfl) (fun _ _=>run_nil (.tmp 39) _ rfl (by kernel_rfl)) ?_
     with_reducible refine q_sem2 (Instr.fieldAt 102 (.pointer (some ⟨F,0,none⟩)) 1) (.pointer (some ⟨F,4,none⟩)) (by kernel_rfl) (by kernel_rfl) (fun w' _=>fld_inv F w') ?_
     with_reducible refine q_load 22 (.tmp 41) (.pointer (some ⟨F,4,none⟩)) (.int .u64 (nin m:Nat)) rfl (by kernel_rfl) (by kernel_rfl) (fun _ c=>ld_inv c.fld) ?_
     with_reducible refine q_bin .mul 22 _ _ 22 (.int .u64 (s k:Nat)) (.int .u64 (nin m:Nat)) (.int .u64 (q:Nat)) rfl (by kernel_rfl) (by kernel_rfl) (by kernel_rfl) (fun _=>by kernel_rfl) (fun w'=>mul_u _ _ _ HP.out.2.2.1 w') ?_
     with_reducible refine wpQuiet_nil ?_
     intro wx hC;have HC:=Lib.hid hC;clear hC;simp only[Act.put,List.setIfInBounds_toArray,List.set_cons_succ,List.set_cons_zero]
     go_wp2_with fail
     refine(addTimes_any (w.heap.size+1+1+1) F 0 k q (pN m) s (by have:=HP.out.1;omega) (by rw[<- HP.out.2.2.1];exact Nat.mod_lt _ (by omega)) (pN_lt m) H.out.1.lt (by have:=HC.out.hF;omega) wx HC.out.rS (fun j hj=>HC.out.at_m j hj)).mono ?_;rintro e w5 ⟨c,s1,rfl,hI,hCA⟩;have HC5:=Lib.hid (HC.out.after hCA.bt hCA.row);obtain⟨d,be',hbe',hd,he,hA⟩:=add64_ex (s1 p) c be (hI.lt p) hI.clt HP.out.2.2.2;have HT:=Lib.hid (show T2 m (x*y) (k+1) be' (updN s1 p d) from by
      rw[<- HP.out.2.2.1]at hI;rw[<- HP.out.2.1]at he |-
      exact H.out.1.next HC.out.fld.odd HC.out.fld.lt HP.out.1 hI hd hbe' he)
     have co:=HC5.out.at_ p (by omega);have fo:=frozen_of_row w5 (w.heap.size+1+1+1) p _ _ HC5.out.rS;obtain⟨z,hz⟩:∃ z,s1 p=z:=⟨_,rfl⟩
     rw[hz]at hA co;have HBE:=Lib.hid hbe';clear hI hCA H HC he hd hz hbe'
     go_wp2_with fail
     go_roundw
     case rel=>exact⟨k+1,be',updN s1 p d,by have:=HP.out.1;omega,HBE.out,rfl,by go_num,Lib.hid ⟨HT.out,HC5.out.set p d (by omega)⟩⟩
     case measure=>simp[intOf];omega
    ·obtain rfl:k=4:=by omega
     have hlt':¬((4:Nat):Int)<4:=by omega
     have hsl:=slice8 (w.heap.size+1+1+1) 4 (by omega);have har:=arr8 (w.heap.size+1+1+1) 4 (by omega);have HD:=Lib.hid (H.out.1.done H.out.2.fld.odd H.out.2.fld.big H.out.2.fld.lt HB.out.2.2);have HLD:=Lib.hid (ld_top H.out.2 H.out.1.lt);obtain⟨u,hu⟩:∃ u,val (fun j=>s (4+j)) 4=u:=⟨_,rfl⟩
     rw[hu]at HD HLD;clear hu;have hbq:((be:Int) == 1)=decide (be=1):=by
      by_cases e:be=1
      ·subst e;rfl
      ·have:¬(be:Int)=1:=by omega
       simp[e,this]
     obtain⟨B,hB⟩:∃ B,decide (be=1)=B:=⟨_,rfl⟩
     rw[hB]at HD hbq;clear hB
     go_wp2_with (refine wpList_ld rfl 24 _ rfl (.pointer (some ⟨w.heap.size+1+1+1,4,none⟩)) (.agg (pw u)) rfl HLD.out ?_)
     refine(lessOnce_any F m u B _ H.out.2.fld).mono ?_;rintro e w6 ⟨rfl,hb6⟩;have H6:=Lib.hid (H.out.2.below hb6);clear hb6 HLD
     go_wp2_with (refine wpList_store_row rfl 24 _ _ rfl (w.heap.size+1+1) (pw (lessV m u B)) rfl rfl 24 #[.int .u64 0,.int .u64 0,.int .u64 0,.int .u64 0] (by exact H6.out.r2) (by rw[pw_size];exact infoW4) (by rw[pw_size];rfl) (pw_one _) ?_)
     (try simp only[Act.put])
     refine bodyPost_ret (v:=.agg (pw (lessV m u B))) (results_cell_row (p:=6) rfl _ _ (w.heap.size+1+1) 24 (pw (lessV m u B)) (0,0) _ rfl (setRow_heap _ _ _ _ _ _ H6.out.r2) Tryz.underlying24 rfl (by rw[pw_size];exact infoW4)) rfl ⟨?_,below_setRow H6.out.old (by omega) _⟩;exact congrArg Ending.returned HD.out
end Go.Proofs.YthnckclbeecnmaaGreat
