/- What the reference's field's Exp comes to. (Cut to what is reached, written closely: RMl · ROf · RBit · RExp.) -/
import Derived.Test.YtadfjjfklihaaaaGreatQ34
import Derived.Test.YtadfjjfklihaaaaGreatP14
import Derived.Test.YtadfjjfklihaaaaGreatQ33
import Derived.Test.YtadfjjfklihaaaaGreatP16
import Derived.Deep.DeepCutAuto
set_option linter.all false
set_option maxRecDepth 100000
set_option maxHeartbeats 8000000
namespace Go.Proofs.YtadfjjfklihaaaaGreat
open Go.RowKit
def RFld(w:World)(G m:Nat):Prop:=∃ lo,lo<4294967296/\(lo*qN m 0+1)%4294967296=0/\RFat w G m lo (2^256*2^256%m)
theorem RFld.below{w w':World}{G m:Nat}(h:RFld w G m)(hb:Below w.heap.size w w'):RFld w' G m:=by
 obtain⟨lo,h1,h2,h3⟩:=h;exact⟨lo,h1,h2,h3.below hb⟩
theorem rmul_w(G m a b:Nat)(hal:a<2^256)(hbl:b<2^256)(hm:m<2^256)(h1:1<m)(ho:m%2=1)(w:World)(hF:RFld w G m):Calls Tryz.prog 77 #[(.pointer (some ⟨G,0,none⟩)),.agg (pw a),.agg (pw b)] w fun e w'=>e=.returned (.agg (pw (a*b%m)))/\Below w.heap.size w w':=by
 obtain⟨lo,hll,hlo,hR⟩:=hF;obtain⟨sq,hsq⟩:∃ sq,2^256*2^256%m=sq:=⟨_,rfl⟩
 have hsl:sq<m:=by rw[<- hsq];exact Nat.mod_lt _ (by omega)
 have hq:mnt m a sq=a*2^256%m:=by rw[<- hsq];exact mnt_scaled ho h1 a
 have hy:mnt m (a*2^256%m) b=a*b%m:=mnt_back ho h1 a b;obtain⟨x,hx⟩:∃ x,a*2^256%m=x:=⟨_,rfl⟩
 obtain⟨y,hye⟩:∃ y,a*b%m=y:=⟨_,rfl⟩
 have hxl:x<m:=by rw[<- hx];exact Nat.mod_lt _ (by omega)
 rw[hsq]at hR;rw[hx]at hq hy;rw[hye]at hy |-
 have HC1:=Lib.hid (fun wx (hf:RFat wx G m lo sq)=>rcut_w G m lo sq a sq hal (Nat.lt_trans hsl hm) (Nat.mul_lt_mul_of_le_of_lt (Nat.le_of_lt hal) hsl (by omega)) hm h1 ho hll hlo wx hf);have HC2:=Lib.hid (fun wx (hf:RFat wx G m lo sq)=>rcut_w G m lo sq x b (Nat.lt_trans hxl hm) hbl (by rw[Nat.mul_comm x b];exact Nat.mul_lt_mul_of_le_of_lt (Nat.le_of_lt hbl) hxl (by omega)) hm h1 ho hll hlo wx hf);rw[hq]at HC1;rw[hy]at HC2;have H0:=Lib.hid (CRf.two hR a b);clear hR hsq hsl hq hy hx hye hxl hal hbl hm h1 ho hll hlo;go_enter Tryz.func77,Tryz.ntmps77
 go_wp2_with fail
 refine region_quiet_tail 10 (CRf w G m lo sq [(w.heap.size+1+1,#[.int .u64 0,.int .u64 0,.int .u64 0,.int .u64 0]),(w.heap.size+1,pw b),(w.heap.size,pw a)]) (by kernel_rfl) (by kernel_rfl) (H0.out.drew) ?_;simp only[List.take_succ_cons,List.take_zero,List.drop_succ_cons,List.drop_zero]
 with_reducible refine q_val (.pointer (some ⟨G,0,none⟩)) (by kernel_rfl) (fun _ _=>by kernel_rfl) ?_
 with_reducible refine q_val (.pointer (some ⟨G,0,none⟩)) (by kernel_rfl) (fun _ _=>by kernel_rfl) ?_
 with_reducible refine q_load 24 (.tmp 4) (.pointer (some ⟨w.heap.size,0,none⟩)) (.agg (pw a)) rfl (by kernel_rfl) (by kernel_rfl) (fun _ c=>ld_pw (c.is _ _ (by simp))) ?_
 with_reducible refine q_val (.pointer (some ⟨G,0,none⟩)) (by kernel_rfl) (fun _ _=>by kernel_rfl) ?_
 with_reducible refine q_val (.pointer (some ⟨G,0,none⟩)) (by kernel_rfl) (fun _ _=>run_nil (.tmp 10) _ rfl (by kernel_rfl)) ?_
 with_reducible refine q_sem2 (Instr.fieldAt 109 (.pointer (some ⟨G,0,none⟩)) 3) (.pointer (some ⟨G,13,none⟩)) (by kernel_rfl) (by kernel_rfl) (fun w' _=>(rf_at G w').2.2.2) ?_
 with_reducible refine q_load 24 (.tmp 12) (.pointer (some ⟨G,13,none⟩)) (.agg (pw sq)) rfl (by kernel_rfl) (by kernel_rfl) (fun _ c=>ld_rsq c.fld) ?_
 with_reducible refine q_call 114 #[.pointer (some ⟨G,0,none⟩),.agg (pw a),.agg (pw sq)] (.agg (pw x)) (by kernel_rfl) (fun _=>by kernel_rfl) (CRf.calls HC1.out) ?_
 with_reducible refine q_load 24 (.tmp 5) (.pointer (some ⟨w.heap.size+1,0,none⟩)) (.agg (pw b)) rfl (by kernel_rfl) (by kernel_rfl) (fun _ c=>ld_pw (c.is _ _ (by simp))) ?_
 with_reducible refine q_call 114 #[.pointer (some ⟨G,0,none⟩),.agg (pw x),.agg (pw b)] (.agg (pw y)) (by kernel_rfl) (fun _=>by kernel_rfl) (CRf.calls HC2.out) ?_
 with_reducible refine wpQuiet_nil ?_
 intro wx hC;have HC:=Lib.hid hC;clear hC H0 HC1 HC2;simp only[Act.put,List.setIfInBounds_toArray,List.set_cons_succ,List.set_cons_zero]
 go_wp2_with (refine wpList_store_row rfl 24 _ _ rfl (w.heap.size+1+1) (pw y) rfl rfl 24 (#[.int .u64 0,.int .u64 0,.int .u64 0,.int .u64 0]) (by exact HC.out.is _ _ (by simp)) (by rw[pw_size];exact infoW4) (by first | rfl | (rw[pw_size];rfl) | (rw[pw_size,pw_size])) (pw_one _) ?_)
 (try simp only[Act.put])
 refine bodyPost_ret (v:=.agg (pw y)) (results_cell_row (p:=6) rfl _ _ (w.heap.size+1+1) 24 (pw y) (0,0) _ rfl (setRow_heap _ _ _ _ _ _ (by exact HC.out.is _ (#[.int .u64 0,.int .u64 0,.int .u64 0,.int .u64 0]) (by simp))) Tryz.underlying24 rfl (by rw[pw_size];exact infoW4)) rfl ⟨rfl,below_setRow HC.out.old (by omega) _⟩
open Go.RowKit
theorem rdivmod_pw(a m:Nat)(ha:a<2^256)(h0:0<m)(hm:m<2^256)(w:World):Calls Tryz.prog 144 #[.agg (pw a),.agg (pw m)] w fun e w'=>e=.returned (.tuple #[.agg (pw (a / m)),.agg (pw (a%m))])/\Below w.heap.size w w':=by
 have h:=divmod_ref a m w;unfold quoV remV at h;rw[Nat.mod_eq_of_lt ha,Nat.mod_eq_of_lt hm,if_neg (by omega),if_neg (by omega)]at h;exact h
theorem rof_any(G m lo sq a:Nat)(ha:a<2^256)(h0:0<m)(hm:m<2^256)(w:World)(hF:RFat w G m lo sq):Calls Tryz.prog 137 #[(.pointer (some ⟨G,0,none⟩)),.agg (pw a)] w fun e w'=>e=.returned (.agg (pw (a%m)))/\Below w.heap.size w w':=by
 have H0:=Lib.hid (CRf.one hF a);have HMO:=Lib.hid (fun wx (_:RFat wx G m lo sq)=>moreW_any a m ha hm wx);have HDM:=Lib.hid (fun wx=>rdivmod_pw a m ha h0 hm wx);by_cases hq:m<=a
 ·rw[decide_eq_true hq]at HMO
  obtain⟨x,hx⟩:∃ x,a / m=x:=⟨_,rfl⟩
  obtain⟨y,hy⟩:∃ y,a%m=y:=⟨_,rfl⟩
  rw[hx,hy]at HDM;rw[hy];clear hF ha h0 hm hq hx hy;go_enter Tryz.func137,Tryz.ntmps137
  go_wp2_with fail
  refine wp_region_quiet (C:=CRf w G m lo sq [(w.heap.size+1,#[.int .u64 0,.int .u64 0,.int .u64 0,.int .u64 0]),(w.heap.size,pw a)]) (by kernel_rfl) (by kernel_rfl) (H0.out.drew) ?_;simp only
  with_reducible refine q_load 24 (.tmp 3) (.pointer (some ⟨w.heap.size,0,none⟩)) (.agg (pw a)) rfl (by kernel_rfl) (by kernel_rfl) (fun _ c=>ld_pw (c.is _ _ (by simp))) ?_
  with_reducible refine q_val (.pointer (some ⟨G,0,none⟩)) (by kernel_rfl) (fun _ _=>by kernel_rfl) ?_
  with_reducible refine q_val (.pointer (some ⟨G,0,none⟩)) (by kernel_rfl) (fun _ _=>run_nil (.tmp 8) _ rfl (by kernel_rfl)) ?_
  with_reducible refine q_sem2 (Instr.fieldAt 109 (.pointer (some ⟨G,0,none⟩)) 0) (.pointer (some ⟨G,0,none⟩)) (by kernel_rfl) (by kernel_rfl) (fun w' _=>(rf_at G w').1) ?_
  with_reducible refine q_load 24 (.tmp 10) (.pointer (some ⟨G,0,none⟩)) (.agg (pw m)) rfl (by kernel_rfl) (by kernel_rfl) (fun _ c=>ld_rm c.fld) ?_
  with_reducible refine q_call 99 #[.agg (pw a),.agg (pw m)] (.bool true) (by kernel_rfl) (fun _=>by kernel_rfl) (CRf.calls HMO.out) ?_
  with_reducible refine q_un4 .not 4 (.tmp 12) (.bool true) (.bool false) rfl (by kernel_rfl) (by kernel_rfl) (fun w'=>by kernel_rfl) ?_
  with_reducible refine wpQuiet_nil ?_
  intro wx hC;have HC:=Lib.hid hC;clear hC H0 HMO;simp only[Act.put,List.setIfInBounds_toArray,List.set_cons_succ,List.set_cons_zero]
  go_wp2_with fail
  refine region_many [.val 16 ((.agg (pw a))),.val 17 ((.pointer (some ⟨G,0,none⟩))),.val 18 ((.pointer (some ⟨G,0,none⟩))),.val 19 ((.pointer (some ⟨G,0,none⟩))),.val 20 ((.agg (pw m))),.val 21 ((.tuple #[.agg (pw x),.agg (pw y)])),.val 15 ((.tuple #[.agg (pw x),.agg (pw y)])),.val 22 ((.agg (pw x))),.val 23 ((.agg (pw y))),.blk 5 24,.blk 6 24,.laid 5 24,.laid 6 24] [5,6] (fun p=>if p=5 then pw x else pw y) (fun i=>i) (by kernel_rfl) (by kernel_rfl) (by exact⟨trivial,trivial,trivial,trivial,trivial,trivial,trivial,trivial,trivial,(by simp[Sp.ok]),(by simp[Sp.ok]),(by simp[Sp.ok]),(by simp[Sp.ok]),trivial⟩) (by intro p hp q hq hne D e;simp only[List.mem_cons,List.not_mem_nil,or_false]at hp;rcases hp with rfl | rfl <;> simp[undef]at e) ?_ ?_
  ·refine⟨?_,?_,?_,?_,?_,?_,?_,?_,?_,?_,?_,?_,?_,trivial⟩
   ·intro ac wx hC hsz hK
    have h0:ac.tmps.getD 3 undef=(.pointer (some ⟨w.heap.size,0,none⟩)):=hK.1 3 (by kernel_rfl);exact mm_load 24 (.tmp 3) ((.pointer (some ⟨w.heap.size,0,none⟩))) ((.agg (pw a))) rfl rfl (by kernel_rfl) h0 (ld_pw ((HC.out.below hC.1).is _ _ (by simp))) hC (by kernel_rfl) (by rw[hsz];exact of_decide_eq_true (by kernel_rfl)) rfl
   ·intro ac wx hC hsz hK
    have h0:ac.tmps.getD 0 undef=(.pointer (some ⟨G,0,none⟩)):=hK.1 0 (by kernel_rfl);exact mm_val ((.pointer (some ⟨G,0,none⟩))) rfl (by kernel_rfl) (by rw[<- h0];kernel_rfl) hC (by kernel_rfl) (by rw[hsz];exact of_decide_eq_true (by kernel_rfl)) rfl
   ·intro ac wx hC hsz hK
    have h0:ac.tmps.getD 17 undef=(.pointer (some ⟨G,0,none⟩)):=hK.2 ⟨1,.data⟩ (by simp) rfl _ rfl;exact mm_val ((.pointer (some ⟨G,0,none⟩))) rfl (by kernel_rfl) (run_nil (.tmp 17) _ rfl h0) hC (by kernel_rfl) (by rw[hsz];exact of_decide_eq_true (by kernel_rfl)) rfl
   ·intro ac wx hC hsz hK
    have h0:ac.tmps.getD 18 undef=(.pointer (some ⟨G,0,none⟩)):=hK.2 ⟨2,.data⟩ (by simp) rfl _ rfl;refine mm_sem (Instr.fieldAt 109 (ac.tmps.getD 18 undef) 0) ((.pointer (some ⟨G,0,none⟩))) rfl (by kernel_rfl) (by kernel_rfl) ?_ hC (by kernel_rfl) (by rw[hsz];exact of_decide_eq_true (by kernel_rfl)) rfl;rw[h0];exact(rf_at G wx).1
   ·intro ac wx hC hsz hK
    have h0:ac.tmps.getD 19 undef=(.pointer (some ⟨G,0,none⟩)):=hK.2 ⟨3,.data⟩ (by simp) rfl _ rfl;exact mm_load 24 (.tmp 19) ((.pointer (some ⟨G,0,none⟩))) ((.agg (pw m))) rfl rfl (by kernel_rfl) h0 (ld_rm (HC.out.below hC.1).fld) hC (by kernel_rfl) (by rw[hsz];exact of_decide_eq_true (by kernel_rfl)) rfl
   ·intro ac wx hC hsz hK
    have h0:ac.tmps.getD 16 undef=(.agg (pw a)):=hK.2 ⟨0,.data⟩ (by simp) rfl _ rfl;have h1:ac.tmps.getD 20 undef=(.agg (pw m)):=hK.2 ⟨4,.data⟩ (by simp) rfl _ rfl;refine mm_call 144 #[ac.tmps.getD 16 undef,ac.tmps.getD 20 undef] ((.tuple #[.agg (pw x),.agg (pw y)])) rfl (by kernel_rfl) (by kernel_rfl) ?_ hC (by kernel_rfl) (by rw[hsz];exact of_decide_eq_true (by kernel_rfl)) rfl;rw[h0,h1];exact HDM.out wx
   ·intro ac wx hC hsz hK
    have h0:ac.tmps.getD 21 undef=(.tuple #[.agg (pw x),.agg (pw y)]):=hK.2 ⟨5,.data⟩ (by simp) rfl _ rfl;exact mm_val ((.tuple #[.agg (pw x),.agg (pw y)])) rfl (by kernel_rfl) (by rw[<- h0];kernel_rfl) hC (by kernel_rfl) (by rw[hsz];exact of_decide_eq_true (by kernel_rfl)) rfl
   ·intro ac wx hC hsz hK
    have h0:ac.tmps.getD 15 undef=(.tuple #[.agg (pw x),.agg (pw y)]):=hK.2 ⟨6,.data⟩ (by simp) rfl _ rfl;refine mm_sem (Instr.extract (ac.tmps.getD 15 undef) 0) ((.agg (pw x))) rfl (by kernel_rfl) (by kernel_rfl) ?_ hC (by kernel_rfl) (by rw[hsz];exact of_decide_eq_true (by kernel_rfl)) rfl;rw[h0];exact(by kernel_rfl)
   ·intro ac wx hC hsz hK
    have h0:ac.tmps.getD 15 undef=(.tuple #[.agg (pw x),.agg (pw y)]):=hK.2 ⟨6,.data⟩ (by simp) rfl _ rfl;refine mm_sem (Instr.extract (ac.tmps.getD 15 undef) 1) ((.agg (pw y))) rfl (by kernel_rfl) (by kernel_rfl) ?_ hC (by kernel_rfl) (by rw[hsz];exact of_decide_eq_true (by kernel_rfl)) rfl;rw[h0];exact(by kernel_rfl)
   ·intro ac wx hC hsz hK
    exact mm_new 24 (#[.int .u64 0,.int .u64 0,.int .u64 0,.int .u64 0]) rfl (by kernel_rfl) (by kernel_rfl) hC (by simp[pw_size]) (by rw[hsz];exact of_decide_eq_true (by kernel_rfl)) rfl
   ·intro ac wx hC hsz hK
    exact mm_new 24 (#[.int .u64 0,.int .u64 0,.int .u64 0,.int .u64 0]) rfl (by kernel_rfl) (by kernel_rfl) hC (by simp[pw_size]) (by rw[hsz];exact of_decide_eq_true (by kernel_rfl)) rfl
   ·intro ac wx hC hsz hK
    have h0:ac.tmps.getD 22 undef=(.agg (pw x)):=hK.2 ⟨7,.data⟩ (by simp) rfl _ rfl;exact mm_store (p:=5) 24 (.tmp 5) (.tmp 22) _ rfl rfl (by kernel_rfl) rfl h0 (by simp) (hK.2 ⟨9,.data⟩ (by simp) rfl _ rfl) (fun D cs h3 h4=>store_w (h4.trans (pw_size _)) h3) hC rfl
   ·intro ac wx hC hsz hK
    have h0:ac.tmps.getD 23 undef=(.agg (pw y)):=hK.2 ⟨8,.data⟩ (by simp) rfl _ rfl;exact mm_store (p:=6) 24 (.tmp 6) (.tmp 23) _ rfl rfl (by kernel_rfl) rfl h0 (by simp) (hK.2 ⟨10,.data⟩ (by simp) rfl _ rfl) (fun D cs h3 h4=>store_w (h4.trans (pw_size _)) h3) hC rfl
  intro f1 w5 hb5 hap hf5;obtain⟨D6,s6,-,r6⟩:=hf5 12 _ rfl;have H5:=Lib.hid ((HC.out.below hb5).cons r6);clear hf5 hap hb5 HC HDM r6;generalize hAct:putAll _ _ _=A1 at *;have s6':A1.tmps.getD 6 undef=.pointer (some ⟨D6,0,none⟩):=s6;have s4:A1.tmps.getD 4 undef=.pointer (some ⟨w.heap.size+1,0,none⟩):=by subst hAct;kernel_rfl
  have hsz:A1.tmps.size=25:=by rw[<- hAct,putAll_size];rfl
  have hdf:A1.defers=[]:=by subst hAct;kernel_rfl
  clear hAct s6 f1;obtain⟨u0,t0⟩:∃ u,A1.tmps.getD 0 undef=u:=⟨_,rfl⟩
  obtain⟨u1,t1⟩:∃ u,A1.tmps.getD 1 undef=u:=⟨_,rfl⟩
  obtain⟨u2,t2⟩:∃ u,A1.tmps.getD 2 undef=u:=⟨_,rfl⟩
  obtain⟨u3,t3⟩:∃ u,A1.tmps.getD 3 undef=u:=⟨_,rfl⟩
  obtain⟨u5,t5⟩:∃ u,A1.tmps.getD 5 undef=u:=⟨_,rfl⟩
  obtain⟨u7,t7⟩:∃ u,A1.tmps.getD 7 undef=u:=⟨_,rfl⟩
  obtain⟨u8,t8⟩:∃ u,A1.tmps.getD 8 undef=u:=⟨_,rfl⟩
  obtain⟨u9,t9⟩:∃ u,A1.tmps.getD 9 undef=u:=⟨_,rfl⟩
  obtain⟨u10,t10⟩:∃ u,A1.tmps.getD 10 undef=u:=⟨_,rfl⟩
  obtain⟨u11,t11⟩:∃ u,A1.tmps.getD 11 undef=u:=⟨_,rfl⟩
  obtain⟨u12,t12⟩:∃ u,A1.tmps.getD 12 undef=u:=⟨_,rfl⟩
  obtain⟨u13,t13⟩:∃ u,A1.tmps.getD 13 undef=u:=⟨_,rfl⟩
  obtain⟨u14,t14⟩:∃ u,A1.tmps.getD 14 undef=u:=⟨_,rfl⟩
  obtain⟨u15,t15⟩:∃ u,A1.tmps.getD 15 undef=u:=⟨_,rfl⟩
  obtain⟨u16,t16⟩:∃ u,A1.tmps.getD 16 undef=u:=⟨_,rfl⟩
  obtain⟨u17,t17⟩:∃ u,A1.tmps.getD 17 undef=u:=⟨_,rfl⟩
  obtain⟨u18,t18⟩:∃ u,A1.tmps.getD 18 undef=u:=⟨_,rfl⟩
  obtain⟨u19,t19⟩:∃ u,A1.tmps.getD 19 undef=u:=⟨_,rfl⟩
  obtain⟨u20,t20⟩:∃ u,A1.tmps.getD 20 undef=u:=⟨_,rfl⟩
  obtain⟨u21,t21⟩:∃ u,A1.tmps.getD 21 undef=u:=⟨_,rfl⟩
  obtain⟨u22,t22⟩:∃ u,A1.tmps.getD 22 undef=u:=⟨_,rfl⟩
  obtain⟨u23,t23⟩:∃ u,A1.tmps.getD 23 undef=u:=⟨_,rfl⟩
  obtain⟨u24,t24⟩:∃ u,A1.tmps.getD 24 undef=u:=⟨_,rfl⟩
  obtain⟨tm,df⟩:=A1;simp only at *;have hLt:=arr_litS tm;rw[hsz]at hLt;simp only[List.range,List.range.loop,List.map]at hLt;rw[t0,t1,t2,t3,s4,t5,s6',t7,t8,t9,t10,t11,t12,t13,t14,t15,t16,t17,t18,t19,t20,t21,t22,t23,t24]at hLt;subst hLt hdf;clear t0 t1 t2 t3 s4 t5 s6' t7 t8 t9 t10 t11 t12 t13 t14 t15 t16 t17 t18 t19 t20 t21 t22 t23 t24 hsz
  go_wp2_with (first | (refine wpList_ld rfl 24 _ rfl (.pointer (some ⟨D6,0,none⟩)) (.agg (pw y)) rfl (ld_pw (by exact H5.out.is _ _ (by simp))) ?_) | (refine wpList_store_row rfl 24 _ _ rfl (w.heap.size+1) (pw y) rfl rfl 24 (#[.int .u64 0,.int .u64 0,.int .u64 0,.int .u64 0]) (by exact H5.out.is _ _ (by simp)) (by rw[pw_size];exact infoW4) (by first | rfl | (rw[pw_size];rfl) | (rw[pw_size,pw_size])) (pw_one _) ?_))
  (try simp only[Act.put])
  refine bodyPost_ret (v:=.agg (pw y)) (results_cell_row (p:=4) rfl _ _ (w.heap.size+1) 24 (pw y) (0,0) _ rfl (setRow_heap _ _ _ _ _ _ (by exact H5.out.is _ (#[.int .u64 0,.int .u64 0,.int .u64 0,.int .u64 0]) (by simp))) Tryz.underlying24 rfl (by rw[pw_size];exact infoW4)) rfl ⟨rfl,below_setRow H5.out.old (by omega) _⟩
 ·rw[decide_eq_false hq]at HMO
  have HQ:=Lib.hid (show a%m=a from Nat.mod_eq_of_lt (by omega));rw[HQ.out];clear hF ha h0 hm hq HDM HQ;go_enter Tryz.func137,Tryz.ntmps137
  go_wp2_with fail
  refine wp_region_quiet (C:=CRf w G m lo sq [(w.heap.size+1,#[.int .u64 0,.int .u64 0,.int .u64 0,.int .u64 0]),(w.heap.size,pw a)]) (by kernel_rfl) (by kernel_rfl) (H0.out.drew) ?_;simp only
  with_reducible refine q_load 24 (.tmp 3) (.pointer (some ⟨w.heap.size,0,none⟩)) (.agg (pw a)) rfl (by kernel_rfl) (by kernel_rfl) (fun _ c=>ld_pw (c.is _ _ (by simp))) ?_
  with_reducible refine q_val (.pointer (some ⟨G,0,none⟩)) (by kernel_rfl) (fun _ _=>by kernel_rfl) ?_
  with_reducible refine q_val (.pointer (some ⟨G,0,none⟩)) (by kernel_rfl) (fun _ _=>run_nil (.tmp 8) _ rfl (by kernel_rfl)) ?_
  with_reducible refine q_sem2 (Instr.fieldAt 109 (.pointer (some ⟨G,0,none⟩)) 0) (.pointer (some ⟨G,0,none⟩)) (by kernel_rfl) (by kernel_rfl) (fun w' _=>(rf_at G w').1) ?_
  with_reducible refine q_load 24 (.tmp 10) (.pointer (some ⟨G,0,none⟩)) (.agg (pw m)) rfl (by kernel_rfl) (by kernel_rfl) (fun _ c=>ld_rm c.fld) ?_
  with_reducible refine q_call 99 #[.agg (pw a),.agg (pw m)] (.bool false) (by kernel_rfl) (fun _=>by kernel_rfl) (CRf.calls HMO.out) ?_
  with_reducible refine q_un4 .not 4 (.tmp 12) (.bool false) (.bool true) rfl (by kernel_rfl) (by kernel_rfl) (fun w'=>by kernel_rfl) ?_
  with_reducible refine wpQuiet_nil ?_
  intro wx hC;have HC:=Lib.hid hC;clear hC H0 HMO;simp only[Act.put,List.setIfInBounds_toArray,List.set_cons_succ,List.set_cons_zero]
  go_wp2_with (first | (refine wpList_ld rfl 24 _ rfl (.pointer (some ⟨w.heap.size,0,none⟩)) (.agg (pw a)) rfl (ld_pw (by exact HC.out.is _ _ (by simp))) ?_) | (refine wpList_store_row rfl 24 _ _ rfl (w.heap.size+1) (pw a) rfl rfl 24 (#[.int .u64 0,.int .u64 0,.int .u64 0,.int .u64 0]) (by exact HC.out.is _ _ (by simp)) (by rw[pw_size];exact infoW4) (by first | rfl | (rw[pw_size];rfl) | (rw[pw_size,pw_size])) (pw_one _) ?_))
  (try simp only[Act.put])
  refine bodyPost_ret (v:=.agg (pw a)) (results_cell_row (p:=4) rfl _ _ (w.heap.size+1) 24 (pw a) (0,0) _ rfl (setRow_heap _ _ _ _ _ _ (by exact HC.out.is _ (#[.int .u64 0,.int .u64 0,.int .u64 0,.int .u64 0]) (by simp))) Tryz.underlying24 rfl (by rw[pw_size];exact infoW4)) rfl ⟨rfl,below_setRow HC.out.old (by omega) _⟩
open Go.RowKit
theorem bit_ref(x i:Nat)(hi:i<256)(w:World):Calls Tryz.prog 43 #[wv x,.int .i64 i] w fun e w'=>e=.returned (.int .u64 ((x%2^256 / 2^i%2:Nat):Int))/\Below w.heap.size w w':=by
 rw[wv_pw];obtain⟨p,hp⟩:∃ p:Nat,(i:Int) / 64=(p:Int):=⟨i / 64,by omega⟩
 obtain⟨s,hs⟩:∃ s:Nat,(i:Int)%64=(s:Int):=⟨i%64,by omega⟩
 have hv:bits .and .u64 (((pN x p:Nat):Int) / 2^s) 1=((x%2^256 / 2^i%2:Nat):Int):=by
  rw[<- bit_of x i p s (by omega) (by omega)];have h:=and_one (pN x p / 2^s) (Nat.lt_of_le_of_lt (Nat.div_le_self _ _) (pN_le x p));simpa using h
 have hpl:=pN_le x p;have hi0:(0:Int)<=i:=by omega
 have hi1:(i:Int)<256:=by omega
 have hp0:(0:Int)<=p:=by omega
 have hp1:(p:Int)<4:=by omega
 have hs0:(0:Int)<=s:=by omega
 have hs1:(s:Int)<64:=by omega
 have ca:(w.alloc (.cells (pw x) 24)).cell? ⟨w.heap.size,p,none⟩=some (.int .u64 (pN x p:Nat)):=(cell_of_row _ _ p _ _ _ (heap_alloc_new w _)).trans (pw_at x p (by omega));generalize x%2^256 / 2^i%2=c at *;go_enter Tryz.func43,Tryz.ntmps43;go_wp2;go_ret;exact⟨rfl,by go_grown⟩
open Go.RowKit
def rpq(m a x:Nat):Nat:=a^x*2^256%m
theorem rpq_lt{m:Nat}(h1:1<m)(a x:Nat):rpq m a x<m:=Nat.mod_lt _ (by omega)
theorem rpq_mul{m:Nat}(ho:m%2=1)(h1:1<m)(a x y:Nat):mnt m (rpq m a x) (rpq m a y)=rpq m a (x+y):=by
 unfold rpq;rw[mnt_both ho h1,Nat.pow_add]
theorem rpq_out{m:Nat}(ho:m%2=1)(h1:1<m)(a x:Nat):mnt m (rpq m a x) 1=a^x%m:=by
 unfold rpq;rw[mnt_back ho h1,Nat.mul_one]
theorem rpq_zero{m:Nat}(ho:m%2=1)(h1:1<m)(a:Nat):mnt m 1 (2^256*2^256%m)=rpq m a 0:=by
 unfold rpq;rw[mnt_scaled ho h1,Nat.pow_zero]
theorem rpq_one{m:Nat}(ho:m%2=1)(h1:1<m)(a:Nat):mnt m a (2^256*2^256%m)=rpq m a 1:=by
 unfold rpq;rw[mnt_scaled ho h1,Nat.pow_one]
theorem bit_next(e i:Nat):e / 2^(i+1)+e / 2^(i+1)+e / 2^i%2=e / 2^i:=by
 rw[Nat.pow_succ,<- Nat.div_div_eq_div_mul];omega
theorem CRf.put{w wx:World}{G m lo sq g:Nat}{L:List (Nat × Array Value)}{c0:Array Value}(c:CRf w G m lo sq ((g,c0)::L) wx)(hg:w.heap.size<=g)(hL:∀ p∈L,p.1≠g)(cs:Array Value):CRf w G m lo sq ((g,cs)::L) (wx.setRow g cs):=by
 have hG:=c.hG;refine⟨below_setRow c.old hg _,(setRow_other _ _ _ _ (by omega)).trans c.fld,hG,fun p hp=>?_⟩;rcases List.mem_cons.1 hp with rfl | hp
 ·exact setRow_heap _ _ _ _ _ _ (c.rows _ (List.mem_cons_self ..))
 ·exact(setRow_other _ _ _ _ (hL p hp)).trans (c.rows p (List.mem_cons_of_mem _ hp))
theorem rbit_pw(e i:Nat)(he:e<2^256)(hi:i<256)(w:World):Calls Tryz.prog 43 #[.agg (pw e),.int .i64 (i:Nat)] w fun r w'=>r=.returned (.int .u64 ((e / 2^i%2:Nat):Int))/\Below w.heap.size w w':=by
 have h:=bit_ref e i hi w;rw[Nat.mod_eq_of_lt he]at h;exact h
theorem rexp_w(G m a e:Nat)(hal:a<2^256)(he:e<2^256)(hm:m<2^256)(h1:1<m)(ho:m%2=1)(w:World)(hF:RFld w G m):Calls Tryz.prog 115 #[(.pointer (some ⟨G,0,none⟩)),.agg (pw a),.agg (pw e)] w fun r w'=>r=.returned (.agg (pw (a^e%m)))/\Below w.heap.size w w':=by
 obtain⟨lo,hll,hlo,hR⟩:=hF;obtain⟨sq,hsq⟩:∃ sq,2^256*2^256%m=sq:=⟨_,rfl⟩
 have hsl:sq<m:=by rw[<- hsq];exact Nat.mod_lt _ (by omega)
 have hp0:=rpq_zero ho h1 a;have hp1:=rpq_one ho h1 a;rw[hsq]at hp0 hp1 hR;have HOF:=Lib.hid (fun wx (hf:RFat wx G m lo sq)=>rof_any G m lo sq 1 (by omega) (by omega) hm wx hf);rw[show 1%m=1 from Nat.mod_eq_of_lt h1]at HOF;have HC0:=Lib.hid (fun wx (hf:RFat wx G m lo sq)=>rcut_any G m lo sq 1 sq h1 hsl hm h1 ho hll hlo wx hf);have HC1:=Lib.hid (fun wx (hf:RFat wx G m lo sq)=>rcut_w G m lo sq a sq hal (Nat.lt_trans hsl hm) (Nat.mul_lt_mul_of_le_of_lt (Nat.le_of_lt hal) hsl (by omega)) hm h1 ho hll hlo wx hf);rw[hp0]at HC0;rw[hp1]at HC1;have HCUT:=Lib.hid (fun(x y z:Nat) (hz:mnt m x y=z) (hx:x<m) (hy:y<m) wx (hf:RFat wx G m lo sq)=>(show Calls Tryz.prog 114 #[(.pointer (some ⟨G,0,none⟩)),.agg (pw x),.agg (pw y)] wx fun r w'=>r=.returned (.agg (pw z))/\Below wx.heap.size wx w' from hz ▸ rcut_any G m lo sq x y hx hy hm h1 ho hll hlo wx hf));have HBIT:=Lib.hid (fun i hi wx=>rbit_pw e i he hi wx);have H0:=Lib.hid (CRf.two hR a e);have HO:=Lib.hid (And.intro ho (And.intro h1 he));obtain⟨o,hoo⟩:∃ o,o=1:=⟨_,rfl⟩
 have HOO:=Lib.hid hoo;rw[show(pw 1:Array Value)=#[.int .u64 1,.int .u64 0,.int .u64 0,.int .u64 0] from rfl]at HOF;have HOF2:=Lib.hid (show ∀ wx,RFat wx G m lo sq->Calls Tryz.prog 137 #[(.pointer (some ⟨G,0,none⟩)),.agg #[.int .u64 1,.int .u64 0,.int .u64 0,.int .u64 0]] wx fun r w'=>r=.returned (.agg (pw o))/\Below wx.heap.size wx w' from by rw[hoo];exact HOF.out);have HC02:=Lib.hid (show ∀ wx,RFat wx G m lo sq->Calls Tryz.prog 114 #[(.pointer (some ⟨G,0,none⟩)),.agg (pw o),.agg (pw sq)] wx fun r w'=>r=.returned (.agg (pw (rpq m a 0)))/\Below wx.heap.size wx w' from by rw[hoo];exact HC0.out);obtain⟨p0,hp00⟩:∃ p0,rpq m a 0=p0:=⟨_,rfl⟩
 obtain⟨f,hf0⟩:∃ f,rpq m a 1=f:=⟨_,rfl⟩
 rw[hp00]at HC02;rw[hf0]at HC1;have HPF:=Lib.hid (And.intro hp00 hf0);clear hR hsq hsl hp0 hp1 hal hm h1 ho hll hlo he HOF HC0 hoo hp00 hf0;go_enter Tryz.func115,Tryz.ntmps115
 go_wp2_with fail
 refine(CRf.calls HOF2.out _ H0.out).mono ?_;rintro r w1 ⟨rfl,c1⟩;have H2:=Lib.hid (c1.lay (pw o));have HOD:=Lib.hid ((Array.getElem?_eq_some_iff.1 (c1.is (w.heap.size+1+1) (#[.int .u64 0,.int .u64 0,.int .u64 0,.int .u64 0]) (by simp))).1);have HN:=Lib.hid (heap_alloc_new w1 (.cells (#[.int .u64 0,.int .u64 0,.int .u64 0,.int .u64 0]) 24));clear c1 H0 HOF2
 go_upto_region 2 with(refine wpList_store_row rfl 24 _ _ rfl (w1.heap.size) (pw o) rfl rfl 24 (#[.int .u64 0,.int .u64 0,.int .u64 0,.int .u64 0]) (by exact HN.out) (by rw[pw_size];exact infoW4) (by first | rfl | (rw[pw_size];rfl) | (rw[pw_size,pw_size])) (pw_one _) ?_)
 obtain⟨w2,hw2⟩:∃ w2,(w1.alloc (.cells (#[.int .u64 0,.int .u64 0,.int .u64 0,.int .u64 0]) 24)).setRow w1.heap.size (pw o)=w2:=⟨_,rfl⟩
 have HS2:=Lib.hid (show w1.heap.size<w2.heap.size from by rw[<- hw2,setRow_size];simp);rw[hw2]at H2 |-
 obtain⟨O,hO⟩:∃ O,w1.heap.size=O:=⟨_,rfl⟩
 rw[hO]at H2 HS2 |-
 have HOL:=Lib.hid (show w.heap.size+1+1<O from by rw[<- hO];exact HOD.out);clear hw2 hO HN HOD;simp only[Act.put];refine region_many [.val 14 ((.pointer (some ⟨G,0,none⟩))),.val 15 ((.agg (pw o))),.val 16 ((.pointer (some ⟨G,0,none⟩))),.val 17 ((.pointer (some ⟨G,0,none⟩))),.val 18 ((.pointer (some ⟨G,13,none⟩))),.val 19 ((.agg (pw sq))),.val 20 ((.agg (pw p0))),.val 21 ((.pointer (some ⟨G,0,none⟩))),.val 22 ((.agg (pw a))),.val 23 ((.pointer (some ⟨G,0,none⟩))),.val 24 ((.pointer (some ⟨G,0,none⟩))),.val 25 ((.pointer (some ⟨G,13,none⟩))),.val 26 ((.agg (pw sq))),.val 27 ((.agg (pw f))),.blk 8 24,.blk 9 24,.laid 8 24,.laid 9 24] [8,9] (fun p=>if p=8 then pw p0 else pw f) (fun i=>i) (by kernel_rfl) (by kernel_rfl) (by exact⟨trivial,trivial,trivial,trivial,trivial,trivial,trivial,trivial,trivial,trivial,trivial,trivial,trivial,trivial,(by simp[Sp.ok]),(by simp[Sp.ok]),(by simp[Sp.ok]),(by simp[Sp.ok]),trivial⟩) (by intro p hp q hq hne D e;simp only[List.mem_cons,List.not_mem_nil,or_false]at hp;rcases hp with rfl | rfl <;> simp[undef]at e) ?_ ?_
 ·refine⟨?_,?_,?_,?_,?_,?_,?_,?_,?_,?_,?_,?_,?_,?_,?_,?_,?_,?_,trivial⟩
  ·intro ac wx hC hsz hK
   have h0:ac.tmps.getD 0 undef=(.pointer (some ⟨G,0,none⟩)):=hK.1 0 (by kernel_rfl);exact mm_val ((.pointer (some ⟨G,0,none⟩))) rfl (by kernel_rfl) (by rw[<- h0];kernel_rfl) hC (by kernel_rfl) (by rw[hsz];exact of_decide_eq_true (by kernel_rfl)) rfl
  ·intro ac wx hC hsz hK
   have h0:ac.tmps.getD 7 undef=(.pointer (some ⟨O,0,none⟩)):=hK.1 7 (by kernel_rfl);exact mm_load 24 (.tmp 7) ((.pointer (some ⟨O,0,none⟩))) ((.agg (pw o))) rfl rfl (by kernel_rfl) h0 (ld_pw ((H2.out.below hC.1).is _ _ (by simp))) hC (by kernel_rfl) (by rw[hsz];exact of_decide_eq_true (by kernel_rfl)) rfl
  ·intro ac wx hC hsz hK
   have h0:ac.tmps.getD 0 undef=(.pointer (some ⟨G,0,none⟩)):=hK.1 0 (by kernel_rfl);exact mm_val ((.pointer (some ⟨G,0,none⟩))) rfl (by kernel_rfl) (by rw[<- h0];kernel_rfl) hC (by kernel_rfl) (by rw[hsz];exact of_decide_eq_true (by kernel_rfl)) rfl
  ·intro ac wx hC hsz hK
   have h0:ac.tmps.getD 16 undef=(.pointer (some ⟨G,0,none⟩)):=hK.2 ⟨2,.data⟩ (by simp) rfl _ rfl;exact mm_val ((.pointer (some ⟨G,0,none⟩))) rfl (by kernel_rfl) (run_nil (.tmp 16) _ rfl h0) hC (by kernel_rfl) (by rw[hsz];exact of_decide_eq_true (by kernel_rfl)) rfl
  ·intro ac wx hC hsz hK
   have h0:ac.tmps.getD 17 undef=(.pointer (some ⟨G,0,none⟩)):=hK.2 ⟨3,.data⟩ (by simp) rfl _ rfl;refine mm_sem (Instr.fieldAt 109 (ac.tmps.getD 17 undef) 3) ((.pointer (some ⟨G,13,none⟩))) rfl (by kernel_rfl) (by kernel_rfl) ?_ hC (by kernel_rfl) (by rw[hsz];exact of_decide_eq_true (by kernel_rfl)) rfl;rw[h0];exact(rf_at G wx).2.2.2
  ·intro ac wx hC hsz hK
   have h0:ac.tmps.getD 18 undef=(.pointer (some ⟨G,13,none⟩)):=hK.2 ⟨4,.data⟩ (by simp) rfl _ rfl;exact mm_load 24 (.tmp 18) ((.pointer (some ⟨G,13,none⟩))) ((.agg (pw sq))) rfl rfl (by kernel_rfl) h0 (ld_rsq (H2.out.below hC.1).fld) hC (by kernel_rfl) (by rw[hsz];exact of_decide_eq_true (by kernel_rfl)) rfl
  ·intro ac wx hC hsz hK
   have h0:ac.tmps.getD 14 undef=(.pointer (some ⟨G,0,none⟩)):=hK.2 ⟨0,.data⟩ (by simp) rfl _ rfl;have h1:ac.tmps.getD 15 undef=(.agg (pw o)):=hK.2 ⟨1,.data⟩ (by simp) rfl _ rfl;have h2:ac.tmps.getD 19 undef=(.agg (pw sq)):=hK.2 ⟨5,.data⟩ (by simp) rfl _ rfl;refine mm_call 114 #[ac.tmps.getD 14 undef,ac.tmps.getD 15 undef,ac.tmps.getD 19 undef] ((.agg (pw p0))) rfl (by kernel_rfl) (by kernel_rfl) ?_ hC (by kernel_rfl) (by rw[hsz];exact of_decide_eq_true (by kernel_rfl)) rfl;rw[h0,h1,h2];exact HC02.out wx (H2.out.below hC.1).fld
  ·intro ac wx hC hsz hK
   have h0:ac.tmps.getD 0 undef=(.pointer (some ⟨G,0,none⟩)):=hK.1 0 (by kernel_rfl);exact mm_val ((.pointer (some ⟨G,0,none⟩))) rfl (by kernel_rfl) (by rw[<- h0];kernel_rfl) hC (by kernel_rfl) (by rw[hsz];exact of_decide_eq_true (by kernel_rfl)) rfl
  ·intro ac wx hC hsz hK
   have h0:ac.tmps.getD 4 undef=(.pointer (some ⟨w.heap.size,0,none⟩)):=hK.1 4 (by kernel_rfl);exact mm_load 24 (.tmp 4) ((.pointer (some ⟨w.heap.size,0,none⟩))) ((.agg (pw a))) rfl rfl (by kernel_rfl) h0 (ld_pw ((H2.out.below hC.1).is _ _ (by simp))) hC (by kernel_rfl) (by rw[hsz];exact of_decide_eq_true (by kernel_rfl)) rfl
  ·intro ac wx hC hsz hK
   have h0:ac.tmps.getD 0 undef=(.pointer (some ⟨G,0,none⟩)):=hK.1 0 (by kernel_rfl);exact mm_val ((.pointer (some ⟨G,0,none⟩))) rfl (by kernel_rfl) (by rw[<- h0];kernel_rfl) hC (by kernel_rfl) (by rw[hsz];exact of_decide_eq_true (by kernel_rfl)) rfl
  ·intro ac wx hC hsz hK
   have h0:ac.tmps.getD 23 undef=(.pointer (some ⟨G,0,none⟩)):=hK.2 ⟨9,.data⟩ (by simp) rfl _ rfl;exact mm_val ((.pointer (some ⟨G,0,none⟩))) rfl (by kernel_rfl) (run_nil (.tmp 23) _ rfl h0) hC (by kernel_rfl) (by rw[hsz];exact of_decide_eq_true (by kernel_rfl)) rfl
  ·intro ac wx hC hsz hK
   have h0:ac.tmps.getD 24 undef=(.pointer (some ⟨G,0,none⟩)):=hK.2 ⟨10,.data⟩ (by simp) rfl _ rfl;refine mm_sem (Instr.fieldAt 109 (ac.tmps.getD 24 undef) 3) ((.pointer (some ⟨G,13,none⟩))) rfl (by kernel_rfl) (by kernel_rfl) ?_ hC (by kernel_rfl) (by rw[hsz];exact of_decide_eq_true (by kernel_rfl)) rfl;rw[h0];exact(rf_at G wx).2.2.2
  ·intro ac wx hC hsz hK
   have h0:ac.tmps.getD 25 undef=(.pointer (some ⟨G,13,none⟩)):=hK.2 ⟨11,.data⟩ (by simp) rfl _ rfl;exact mm_load 24 (.tmp 25) ((.pointer (some ⟨G,13,none⟩))) ((.agg (pw sq))) rfl rfl (by kernel_rfl) h0 (ld_rsq (H2.out.below hC.1).fld) hC (by kernel_rfl) (by rw[hsz];exact of_decide_eq_true (by kernel_rfl)) rfl
  ·intro ac wx hC hsz hK
   have h0:ac.tmps.getD 21 undef=(.pointer (some ⟨G,0,none⟩)):=hK.2 ⟨7,.data⟩ (by simp) rfl _ rfl;have h1:ac.tmps.getD 22 undef=(.agg (pw a)):=hK.2 ⟨8,.data⟩ (by simp) rfl _ rfl;have h2:ac.tmps.getD 26 undef=(.agg (pw sq)):=hK.2 ⟨12,.data⟩ (by simp) rfl _ rfl;refine mm_call 114 #[ac.tmps.getD 21 undef,ac.tmps.getD 22 undef,ac.tmps.getD 26 undef] ((.agg (pw f))) rfl (by kernel_rfl) (by kernel_rfl) ?_ hC (by kernel_rfl) (by rw[hsz];exact of_decide_eq_true (by kernel_rfl)) rfl;rw[h0,h1,h2];exact HC1.out wx (H2.out.below hC.1).fld
  ·intro ac wx hC hsz hK
   exact mm_new 24 (#[.int .u64 0,.int .u64 0,.int .u64 0,.int .u64 0]) rfl (by kernel_rfl) (by kernel_rfl) hC (by first | (rw[pw_size];rfl) | (simp[pw_size];done) | rfl) (by rw[hsz];exact of_decide_eq_true (by kernel_rfl)) rfl
  ·intro ac wx hC hsz hK
   exact mm_new 24 (#[.int .u64 0,.int .u64 0,.int .u64 0,.int .u64 0]) rfl (by kernel_rfl) (by kernel_rfl) hC (by first | (rw[pw_size];rfl) | (simp[pw_size];done) | rfl) (by rw[hsz];exact of_decide_eq_true (by kernel_rfl)) rfl
  ·intro ac wx hC hsz hK
   have h0:ac.tmps.getD 20 undef=(.agg (pw p0)):=hK.2 ⟨6,.data⟩ (by simp) rfl _ rfl;exact mm_store (p:=8) 24 (.tmp 8) (.tmp 20) _ rfl rfl (by kernel_rfl) rfl h0 (by simp) (hK.2 ⟨14,.data⟩ (by simp) rfl _ rfl) (fun D cs h3 h4=>store_w (h4.trans (pw_size _)) h3) hC rfl
  ·intro ac wx hC hsz hK
   have h0:ac.tmps.getD 27 undef=(.agg (pw f)):=hK.2 ⟨13,.data⟩ (by simp) rfl _ rfl;exact mm_store (p:=9) 24 (.tmp 9) (.tmp 27) _ rfl rfl (by kernel_rfl) rfl h0 (by simp) (hK.2 ⟨15,.data⟩ (by simp) rfl _ rfl) (fun D cs h3 h4=>store_w (h4.trans (pw_size _)) h3) hC rfl
 intro f1 w5 hb5 hap hf5;obtain⟨D,s8,hD,r8⟩:=hf5 16 _ rfl;obtain⟨E,s9,hE,r9⟩:=hf5 17 _ rfl;have hne:D≠E:=hap.ne 8 (by simp) 9 (by simp) (by decide) D E s8 s9 hD hE;have H5:=Lib.hid (show CRf w G m lo sq [(D,pw p0),(E,pw f),(O,pw o),(w.heap.size+1+1,#[.int .u64 0,.int .u64 0,.int .u64 0,.int .u64 0]),(w.heap.size+1,pw e),(w.heap.size,pw a)] w5 from(((H2.out.below hb5).cons r9).cons r8));have HDE:=Lib.hid (show w.heap.size<=D/\∀ p∈([(E,pw f),(O,pw o),(w.heap.size+1+1,#[.int .u64 0,.int .u64 0,.int .u64 0,.int .u64 0]),(w.heap.size+1,pw e),(w.heap.size,pw a)]:List (Nat × Array Value)),p.1≠D from by
  have h1:=HOL.out;have h2:=HS2.out;refine⟨by omega,fun p hp=>?_⟩;simp only[List.mem_cons,List.not_mem_nil,or_false]at hp;rcases hp with rfl | rfl | rfl | rfl | rfl <;> simp only[] <;> omega)
 clear hf5 hap hb5 r8 r9 hD hE hne H2 HS2 HC02 HC1;generalize hAct:putAll _ _ _=A1 at *;have s8':A1.tmps.getD 8 undef=.pointer (some ⟨D,0,none⟩):=s8;have s9':A1.tmps.getD 9 undef=.pointer (some ⟨E,0,none⟩):=s9;have s0:A1.tmps.getD 0 undef=(.pointer (some ⟨G,0,none⟩)):=by subst hAct;kernel_rfl
 have s4:A1.tmps.getD 4 undef=.pointer (some ⟨w.heap.size,0,none⟩):=by subst hAct;kernel_rfl
 have s5:A1.tmps.getD 5 undef=.pointer (some ⟨w.heap.size+1,0,none⟩):=by subst hAct;kernel_rfl
 have s6:A1.tmps.getD 6 undef=.pointer (some ⟨w.heap.size+1+1,0,none⟩):=by subst hAct;kernel_rfl
 have s7:A1.tmps.getD 7 undef=.pointer (some ⟨O,0,none⟩):=by subst hAct;kernel_rfl
 have hsz:A1.tmps.size=48:=by rw[<- hAct,putAll_size];rfl
 have hdf:A1.defers=[]:=by subst hAct;kernel_rfl
 clear hAct s8 s9 f1;obtain⟨u1,t1⟩:∃ u,A1.tmps.getD 1 undef=u:=⟨_,rfl⟩
 obtain⟨u2,t2⟩:∃ u,A1.tmps.getD 2 undef=u:=⟨_,rfl⟩
 obtain⟨u3,t3⟩:∃ u,A1.tmps.getD 3 undef=u:=⟨_,rfl⟩
 obtain⟨u10,t10⟩:∃ u,A1.tmps.getD 10 undef=u:=⟨_,rfl⟩
 obtain⟨u11,t11⟩:∃ u,A1.tmps.getD 11 undef=u:=⟨_,rfl⟩
 obtain⟨u12,t12⟩:∃ u,A1.tmps.getD 12 undef=u:=⟨_,rfl⟩
 obtain⟨u13,t13⟩:∃ u,A1.tmps.getD 13 undef=u:=⟨_,rfl⟩
 obtain⟨u14,t14⟩:∃ u,A1.tmps.getD 14 undef=u:=⟨_,rfl⟩
 obtain⟨u15,t15⟩:∃ u,A1.tmps.getD 15 undef=u:=⟨_,rfl⟩
 obtain⟨u16,t16⟩:∃ u,A1.tmps.getD 16 undef=u:=⟨_,rfl⟩
 obtain⟨u17,t17⟩:∃ u,A1.tmps.getD 17 undef=u:=⟨_,rfl⟩
 obtain⟨u18,t18⟩:∃ u,A1.tmps.getD 18 undef=u:=⟨_,rfl⟩
 obtain⟨u19,t19⟩:∃ u,A1.tmps.getD 19 undef=u:=⟨_,rfl⟩
 obtain⟨u20,t20⟩:∃ u,A1.tmps.getD 20 undef=u:=⟨_,rfl⟩
 obtain⟨u21,t21⟩:∃ u,A1.tmps.getD 21 undef=u:=⟨_,rfl⟩
 obtain⟨u22,t22⟩:∃ u,A1.tmps.getD 22 undef=u:=⟨_,rfl⟩
 obtain⟨u23,t23⟩:∃ u,A1.tmps.getD 23 undef=u:=⟨_,rfl⟩
 obtain⟨u24,t24⟩:∃ u,A1.tmps.getD 24 undef=u:=⟨_,rfl⟩
 obtain⟨u25,t25⟩:∃ u,A1.tmps.getD 25 undef=u:=⟨_,rfl⟩
 obtain⟨u26,t26⟩:∃ u,A1.tmps.getD 26 undef=u:=⟨_,rfl⟩
 obtain⟨u27,t27⟩:∃ u,A1.tmps.getD 27 undef=u:=⟨_,rfl⟩
 obtain⟨u28,t28⟩:∃ u,A1.tmps.getD 28 undef=u:=⟨_,rfl⟩
 obtain⟨u29,t29⟩:∃ u,A1.tmps.getD 29 undef=u:=⟨_,rfl⟩
 obtain⟨u30,t30⟩:∃ u,A1.tmps.getD 30 undef=u:=⟨_,rfl⟩
 obtain⟨u31,t31⟩:∃ u,A1.tmps.getD 31 undef=u:=⟨_,rfl⟩
 obtain⟨u32,t32⟩:∃ u,A1.tmps.getD 32 undef=u:=⟨_,rfl⟩
 obtain⟨u33,t33⟩:∃ u,A1.tmps.getD 33 undef=u:=⟨_,rfl⟩
 obtain⟨u34,t34⟩:∃ u,A1.tmps.getD 34 undef=u:=⟨_,rfl⟩
 obtain⟨u35,t35⟩:∃ u,A1.tmps.getD 35 undef=u:=⟨_,rfl⟩
 obtain⟨u36,t36⟩:∃ u,A1.tmps.getD 36 undef=u:=⟨_,rfl⟩
 obtain⟨u37,t37⟩:∃ u,A1.tmps.getD 37 undef=u:=⟨_,rfl⟩
 obtain⟨u38,t38⟩:∃ u,A1.tmps.getD 38 undef=u:=⟨_,rfl⟩
 obtain⟨u39,t39⟩:∃ u,A1.tmps.getD 39 undef=u:=⟨_,rfl⟩
 obtain⟨u40,t40⟩:∃ u,A1.tmps.getD 40 undef=u:=⟨_,rfl⟩
 obtain⟨u41,t41⟩:∃ u,A1.tmps.getD 41 undef=u:=⟨_,rfl⟩
 obtain⟨u42,t42⟩:∃ u,A1.tmps.getD 42 undef=u:=⟨_,rfl⟩
 obtain⟨u43,t43⟩:∃ u,A1.tmps.getD 43 undef=u:=⟨_,rfl⟩
 obtain⟨u44,t44⟩:∃ u,A1.tmps.getD 44 undef=u:=⟨_,rfl⟩
 obtain⟨u45,t45⟩:∃ u,A1.tmps.getD 45 undef=u:=⟨_,rfl⟩
 obtain⟨u46,t46⟩:∃ u,A1.tmps.getD 46 undef=u:=⟨_,rfl⟩
 obtain⟨u47,t47⟩:∃ u,A1.tmps.getD 47 undef=u:=⟨_,rfl⟩
 obtain⟨tm,df⟩:=A1;simp only at *;have hLt:=arr_litS tm;rw[hsz]at hLt;simp only[List.range,List.range.loop,List.map]at hLt;rw[s0,t1,t2,t3,s4,s5,s6,s7,s8',s9',t10,t11,t12,t13,t14,t15,t16,t17,t18,t19,t20,t21,t22,t23,t24,t25,t26,t27,t28,t29,t30,t31,t32,t33,t34,t35,t36,t37,t38,t39,t40,t41,t42,t43,t44,t45,t46,t47]at hLt;subst hLt hdf;clear s0 t1 t2 t3 s4 s5 s6 s7 s8' s9' t10 t11 t12 t13 t14 t15 t16 t17 t18 t19 t20 t21 t22 t23 t24 t25 t26 t27 t28 t29 t30 t31 t32 t33 t34 t35 t36 t37 t38 t39 t40 t41 t42 t43 t44 t45 t46 t47 hsz
 go_wp2_with fail
 go_loopw [10] (fun iv wr=>∃ j:Nat,j<=256/\iv=.int .i64 ((j:Int) - 1)/\∃ x,x=rpq m a (e / 2^j)/\Hid (CRf w G m lo sq [(D,pw x),(E,pw f),(O,pw o),(w.heap.size+1+1,#[.int .u64 0,.int .u64 0,.int .u64 0,.int .u64 0]),(w.heap.size+1,pw e),(w.heap.size,pw a)] wr)) (fun iv _=>(intOf iv+1).toNat)
 case atStart=>exact⟨256,by omega,rfl,p0,by rw[Nat.div_eq_of_lt HO.out.2.2,HPF.out.1],H5⟩
 case round =>
  obtain⟨j,hj,rfl,x,hx,H⟩:=hrel;clear H5;by_cases h0:1<=j
  ·obtain⟨i,rfl⟩:∃ i,j=i+1:=⟨j - 1,by omega⟩
   rw[show(((i+1:Nat):Int) - 1)=(i:Int) by omega];have hi0:(0:Int)<=i:=by omega
   have HB:=Lib.hid (HBIT.out i (by omega));have HBN:=bit_next e i;obtain⟨q,hq⟩:∃ q,e / 2^(i+1)=q:=⟨_,rfl⟩
   rw[hq]at HBN hx;obtain⟨b,hb⟩:∃ b,e / 2^i%2=b:=⟨_,rfl⟩
   have hb2:b<2:=by rw[<- hb];exact Nat.mod_lt _ (by omega)
   rw[hb]at HB HBN;obtain⟨y,hy⟩:∃ y,rpq m a (q+q)=y:=⟨_,rfl⟩
   have hxl:x<m:=by rw[hx];exact rpq_lt HO.out.2.1 _ _
   have hyl:y<m:=by rw[<- hy];exact rpq_lt HO.out.2.1 _ _
   have HT:=Lib.hid (HCUT.out x x y (by rw[<- hy,hx];exact rpq_mul HO.out.1 HO.out.2.1 a q q) hxl hxl);have HIJ:=Lib.hid (show i<256/\wrap64 ((i:Int) - 1)=(i:Int) - 1 from⟨by omega,by have h:=hj;unfold wrap64;omega⟩);have HYL:=Lib.hid (And.intro hyl (And.intro hy HBN));clear hx hxl hyl hy HBN hq hb hj h0
   go_wp2_with (refine wpList_ld rfl 24 _ rfl (.pointer (some ⟨D,0,none⟩)) (.agg (pw x)) rfl (ld_pw (by exact H.out.is _ _ (by simp))) ?_)
   refine(CRf.calls HT.out _ H.out).mono ?_;rintro r w6 ⟨rfl,c6⟩;have H6:=Lib.hid (c6.put HDE.out.1 HDE.out.2 (pw y));have H6B:=Lib.hid c6;clear c6 H HT
   go_upto_region 7 with(refine wpList_store_row rfl 24 _ _ rfl (D) (pw y) rfl rfl 24 (pw x) (by exact H6B.out.is _ _ (by simp)) (by rw[pw_size];exact infoW4) (by first | rfl | (rw[pw_size];rfl) | (rw[pw_size,pw_size])) (pw_one _) ?_)
   obtain⟨w7,hw7⟩:∃ w7,w6.setRow D (pw y)=w7:=⟨_,rfl⟩
   rw[hw7]at H6 |-
   clear hw7 H6B
   go_wp2_with (refine wpList_ld rfl 24 _ rfl (.pointer (some ⟨w.heap.size+1,0,none⟩)) (.agg (pw e)) rfl (ld_pw (by exact H6.out.is _ _ (by simp))) ?_)
   refine(HB.out _).mono ?_;rintro r w8 ⟨rfl,hb8⟩;have H8:=Lib.hid (H6.out.below hb8);clear hb8 H6 HB;by_cases h1:b=1
   ·subst h1
    have hfl:f<m:=by rw[<- HPF.out.2];exact rpq_lt HO.out.2.1 _ _
    obtain⟨z,hz⟩:∃ z,rpq m a (q+q+1)=z:=⟨_,rfl⟩
    have HT:=Lib.hid (HCUT.out y f z (by rw[<- hz,<- HYL.out.2.1,<- HPF.out.2];exact rpq_mul HO.out.1 HO.out.2.1 a (q+q) 1) HYL.out.1 hfl);have HZ:=Lib.hid hz;clear hfl hz
    go_wp2_with (first | (refine wpList_ld rfl 24 _ rfl (.pointer (some ⟨D,0,none⟩)) (.agg (pw y)) rfl (ld_pw (by exact H8.out.is _ _ (by simp))) ?_) | (refine wpList_ld rfl 24 _ rfl (.pointer (some ⟨E,0,none⟩)) (.agg (pw f)) rfl (ld_pw (by exact H8.out.is _ _ (by simp))) ?_))
    refine(CRf.calls HT.out _ H8.out).mono ?_;rintro r w9 ⟨rfl,c9⟩;have H9:=Lib.hid c9;clear c9 H8 HT
    go_wp2_with (refine wpList_store_row rfl 24 _ _ rfl (D) (pw z) rfl rfl 24 (pw y) (by exact H9.out.is _ _ (by simp)) (by rw[pw_size];exact infoW4) (by first | rfl | (rw[pw_size];rfl) | (rw[pw_size,pw_size])) (pw_one _) ?_)
    go_roundw
    case rel=>exact⟨i,by have:=HIJ.out.1;omega,by rw[HIJ.out.2],z,by rw[<- HZ.out];exact congrArg _ HYL.out.2.2,Lib.hid (H9.out.put HDE.out.1 HDE.out.2 (pw z))⟩
    case measure=>first | (rw[HIJ.out.2];simp[intOf];done) | (rw[HIJ.out.2];simp[intOf];omega) | (simp only[intOf];rw[HIJ.out.2];omega)
   ·have hb0:b=0:=by omega
    subst hb0;clear h1
    go_wp2_with fail
    go_roundw
    case rel=>exact⟨i,by have:=HIJ.out.1;omega,by rw[HIJ.out.2],y,by rw[<- HYL.out.2.1];exact congrArg _ HYL.out.2.2,H8⟩
    case measure=>first | (rw[HIJ.out.2];simp[intOf];done) | (rw[HIJ.out.2];simp[intOf];omega) | (simp only[intOf];rw[HIJ.out.2];omega)
  ·obtain rfl:j=0:=by omega
   rw[Nat.pow_zero,Nat.div_one]at hx;have hxl:x<m:=by rw[hx];exact rpq_lt HO.out.2.1 _ _
   obtain⟨y,hy⟩:∃ y,a^e%m=y:=⟨_,rfl⟩
   have HT:=Lib.hid (HCUT.out x o y (by rw[HOO.out,hx,<- hy];exact rpq_out HO.out.1 HO.out.2.1 a e) hxl (by rw[HOO.out];exact HO.out.2.1));have HY:=Lib.hid hy;clear hx hxl hy hj h0 HPF HOO;rw[show(((0:Nat):Int) - 1)=-1 from rfl]
   go_wp2_with (first | (refine wpList_ld rfl 24 _ rfl (.pointer (some ⟨D,0,none⟩)) (.agg (pw x)) rfl (ld_pw (by exact H.out.is _ _ (by simp))) ?_) | (refine wpList_ld rfl 24 _ rfl (.pointer (some ⟨O,0,none⟩)) (.agg (pw o)) rfl (ld_pw (by exact H.out.is _ _ (by simp))) ?_))
   refine(CRf.calls HT.out _ H.out).mono ?_;rintro r w9 ⟨rfl,c9⟩;have H9:=Lib.hid c9;clear c9 H HT
   go_wp2_with (refine wpList_store_row rfl 24 _ _ rfl (w.heap.size+1+1) (pw y) rfl rfl 24 (#[.int .u64 0,.int .u64 0,.int .u64 0,.int .u64 0]) (by exact H9.out.is _ _ (by simp)) (by rw[pw_size];exact infoW4) (by first | rfl | (rw[pw_size];rfl) | (rw[pw_size,pw_size])) (pw_one _) ?_)
   (try simp only[Act.put])
   refine bodyPost_ret (v:=.agg (pw y)) (results_cell_row (p:=6) rfl _ _ (w.heap.size+1+1) 24 (pw y) (0,0) _ rfl (setRow_heap _ _ _ _ _ _ (by exact H9.out.is _ (#[.int .u64 0,.int .u64 0,.int .u64 0,.int .u64 0]) (by simp))) Tryz.underlying24 rfl (by rw[pw_size];exact infoW4)) rfl ⟨by rw[HY.out],below_setRow H9.out.old (by omega) _⟩
end Go.Proofs.YtadfjjfklihaaaaGreat
