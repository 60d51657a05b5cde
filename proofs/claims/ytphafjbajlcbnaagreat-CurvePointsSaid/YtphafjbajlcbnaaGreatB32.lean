/- The field of the points, the program's and the reference's. (Cut to what is reached, written closely: RMl · ROf · RCv · RNw · GPts.) -/
import Derived.Test.YtphafjbajlcbnaaGreatB31
import Derived.Test.YtphafjbajlcbnaaGreatB29
import Derived.Test.YtphafjbajlcbnaaGreatB7
import Derived.Test.YtphafjbajlcbnaaGreatB28
import Derived.Test.YtphafjbajlcbnaaGreatB17
set_option linter.all false
set_option maxRecDepth 100000
set_option maxHeartbeats 8000000
namespace Go.Proofs.YtphafjbajlcbnaaGreat
open Go.RowKit
def RFld(w:World)(G m:Nat):Prop:=∃ lo,lo<4294967296/\(lo*qN m 0+1)%4294967296=0/\RFat w G m lo (2^256*2^256%m)
theorem RFld.below{w w':World}{G m:Nat}(h:RFld w G m)(hb:Below w.heap.size w w'):RFld w' G m:=by
 obtain⟨lo,h1,h2,h3⟩:=h;exact⟨lo,h1,h2,h3.below hb⟩
theorem PV(G m a b:Nat)(hal:a<2^256)(hbl:b<2^256)(hm:m<2^256)(h1:1<m)(ho:m%2=1)(w:World)(hF:RFld w G m):Calls Tryz.prog 32 #[(.pointer (some ⟨G,0,none⟩)),.agg (pw a),.agg (pw b)] w fun e w'=>e=.returned (.agg (pw (a*b%m)))/\Below w.heap.size w w':=by
 obtain⟨lo,hll,hlo,hR⟩:=hF;obtain⟨sq,hsq⟩:∃ sq,2^256*2^256%m=sq:=⟨_,rfl⟩
 have hsl:sq<m:=by rw[<- hsq];exact Nat.mod_lt _ τ
 have hq:mnt m a sq=a*2^256%m:=by rw[<- hsq];exact Et ho h1 a
 have hy:mnt m (a*2^256%m) b=a*b%m:=EM ho h1 a b;obtain⟨x,hx⟩:∃ x,a*2^256%m=x:=⟨_,rfl⟩
 obtain⟨y,hye⟩:∃ y,a*b%m=y:=⟨_,rfl⟩
 have hxl:x<m:=by rw[<- hx];exact Nat.mod_lt _ τ
 rw[hsq]at hR;rw[hx]at hq hy;rw[hye]at hy |-
 have HC1:=Lib.hid (fun wx (hf:RFat wx G m lo sq)=>Mt G m lo sq a sq hal (Nat.lt_trans hsl hm) (Nat.mul_lt_mul_of_le_of_lt (Nat.le_of_lt hal) hsl τ) hm h1 ho hll hlo wx hf);have HC2:=Lib.hid (fun wx (hf:RFat wx G m lo sq)=>Mt G m lo sq x b (Nat.lt_trans hxl hm) hbl (by rw[Nat.mul_comm x b];exact Nat.mul_lt_mul_of_le_of_lt (Nat.le_of_lt hbl) hxl τ) hm h1 ho hll hlo wx hf);rw[hq]at HC1;rw[hy]at HC2;have H0:=Lib.hid (CRf.two hR a b);clear hR hsq hsl hq hy hx hye hxl hal hbl hm h1 ho hll hlo;go_enter Tryz.func32,Tryz.ntmps32
 go_wp2_with fail
 refine Aa 10 (CRf w G m lo sq [(w.heap.size+1+1,#[.int .u64 0,.int .u64 0,.int .u64 0,.int .u64 0]),(w.heap.size+1,pw b),(w.heap.size,pw a)]) ω ω (H0.out.drew) ?_;simp only[List.take_succ_cons,List.take_zero,List.drop_succ_cons,List.drop_zero]
 with_reducible refine q_val (.pointer (some ⟨G,0,none⟩)) ω (fun _ _=>by kernel_rfl) ?_
 with_reducible refine q_val (.pointer (some ⟨G,0,none⟩)) ω (fun _ _=>by kernel_rfl) ?_
 with_reducible refine Ac 24 (.tmp 4) (.pointer (some ⟨w.heap.size,0,none⟩)) (.agg (pw a)) rfl ω ω (fun _ c=>Ad (c.is _ _ υ)) ?_
 with_reducible refine q_val (.pointer (some ⟨G,0,none⟩)) ω (fun _ _=>by kernel_rfl) ?_
 with_reducible refine q_val (.pointer (some ⟨G,0,none⟩)) ω (fun _ _=>Ao (.tmp 10) _ rfl ω) ?_
 with_reducible refine Am (Instr.fieldAt 83 (.pointer (some ⟨G,0,none⟩)) 3) (.pointer (some ⟨G,13,none⟩)) ω ω (fun w' _=>(Cz G w').2.2.2) ?_
 with_reducible refine Ac 24 (.tmp 12) (.pointer (some ⟨G,13,none⟩)) (.agg (pw sq)) rfl ω ω (fun _ c=>K6 c.fld) ?_
 with_reducible refine Ah 55 #[.pointer (some ⟨G,0,none⟩),.agg (pw a),.agg (pw sq)] (.agg (pw x)) ω (fun _=>by kernel_rfl) (CRf.calls HC1.out) ?_
 with_reducible refine Ac 24 (.tmp 5) (.pointer (some ⟨w.heap.size+1,0,none⟩)) (.agg (pw b)) rfl ω ω (fun _ c=>Ad (c.is _ _ υ)) ?_
 with_reducible refine Ah 55 #[.pointer (some ⟨G,0,none⟩),.agg (pw x),.agg (pw b)] (.agg (pw y)) ω (fun _=>by kernel_rfl) (CRf.calls HC2.out) ?_
 with_reducible refine wpQuiet_nil ?_
 intro wx hC;have HC:=Lib.hid hC;clear hC H0 HC1 HC2;simp only[Act.put,List.setIfInBounds_toArray,List.set_cons_succ,List.set_cons_zero]
 go_wp2_with (refine wpList_store_row rfl 24 _ _ rfl (w.heap.size+1+1) (pw y) rfl rfl 24 (#[.int .u64 0,.int .u64 0,.int .u64 0,.int .u64 0]) (by exact HC.out.is _ _ υ) (by rw[A7];exact Ab) (by first | rfl | (rw[A7];rfl) | (rw[A7,A7])) (Ag _) ?_)
 (try simp only[Act.put])
 refine bodyPost_ret (v:=.agg (pw y)) (results_cell_row (p:=6) rfl _ _ (w.heap.size+1+1) 24 (pw y) (0,0) _ rfl (setRow_heap _ _ _ _ _ _ (by exact HC.out.is _ (#[.int .u64 0,.int .u64 0,.int .u64 0,.int .u64 0]) υ)) Tryz.underlying24 rfl (by rw[A7];exact Ab)) rfl ⟨rfl,below_setRow HC.out.old τ _⟩
theorem K8(G m a b:Nat)(hal:a<m)(hbl:b<m)(hm:m<2^256)(h1:1<m)(ho:m%2=1)(w:World)(hF:RFld w G m):Calls Tryz.prog 32 #[(.pointer (some ⟨G,0,none⟩)),.agg (pw a),.agg (pw b)] w fun e w'=>e=.returned (.agg (pw (a*b%m)))/\Below w.heap.size w w' :=
 PV G m a b (Nat.lt_trans hal hm) (Nat.lt_trans hbl hm) hm h1 ho w hF
open Go.RowKit
theorem PW(a m:Nat)(ha:a<2^256)(h0:0<m)(hm:m<2^256)(w:World):Calls Tryz.prog 79 #[.agg (pw a),.agg (pw m)] w fun e w'=>e=.returned (.tuple #[.agg (pw (a / m)),.agg (pw (a%m))])/\Below w.heap.size w w':=by
 have h:=Pf a m w;unfold BA AY at h;rw[Nat.mod_eq_of_lt ha,Nat.mod_eq_of_lt hm,if_neg τ,if_neg τ]at h;exact h
theorem QY(G m lo sq a:Nat)(ha:a<2^256)(h0:0<m)(hm:m<2^256)(w:World)(hF:RFat w G m lo sq):Calls Tryz.prog 54 #[(.pointer (some ⟨G,0,none⟩)),.agg (pw a)] w fun e w'=>e=.returned (.agg (pw (a%m)))/\Below w.heap.size w w':=by
 have H0:=Lib.hid (CRf.one hF a);have HMO:=Lib.hid (fun wx (_:RFat wx G m lo sq)=>FC a m ha hm wx);have HDM:=Lib.hid (fun wx=>PW a m ha h0 hm wx);by_cases hq:m<=a
 ·rw[decide_eq_true hq]at HMO
  obtain⟨x,hx⟩:∃ x,a / m=x:=⟨_,rfl⟩
  obtain⟨y,hy⟩:∃ y,a%m=y:=⟨_,rfl⟩
  rw[hx,hy]at HDM;rw[hy];clear hF ha h0 hm hq hx hy;go_enter Tryz.func54,Tryz.ntmps54
  go_wp2_with fail
  refine wp_region_quiet (C:=CRf w G m lo sq [(w.heap.size+1,#[.int .u64 0,.int .u64 0,.int .u64 0,.int .u64 0]),(w.heap.size,pw a)]) ω ω (H0.out.drew) ?_;simp only
  with_reducible refine Ac 24 (.tmp 3) (.pointer (some ⟨w.heap.size,0,none⟩)) (.agg (pw a)) rfl ω ω (fun _ c=>Ad (c.is _ _ υ)) ?_
  with_reducible refine q_val (.pointer (some ⟨G,0,none⟩)) ω (fun _ _=>by kernel_rfl) ?_
  with_reducible refine q_val (.pointer (some ⟨G,0,none⟩)) ω (fun _ _=>Ao (.tmp 8) _ rfl ω) ?_
  with_reducible refine Am (Instr.fieldAt 83 (.pointer (some ⟨G,0,none⟩)) 0) (.pointer (some ⟨G,0,none⟩)) ω ω (fun w' _=>(Cz G w').1) ?_
  with_reducible refine Ac 24 (.tmp 10) (.pointer (some ⟨G,0,none⟩)) (.agg (pw m)) rfl ω ω (fun _ c=>DV c.fld) ?_
  with_reducible refine Ah 56 #[.agg (pw a),.agg (pw m)] (.bool true) ω (fun _=>by kernel_rfl) (CRf.calls HMO.out) ?_
  with_reducible refine V5 .not 4 (.tmp 12) (.bool true) (.bool false) rfl ω ω (fun w'=>by kernel_rfl) ?_
  with_reducible refine wpQuiet_nil ?_
  intro wx hC;have HC:=Lib.hid hC;clear hC H0 HMO;simp only[Act.put,List.setIfInBounds_toArray,List.set_cons_succ,List.set_cons_zero]
  go_wp2_with fail
  refine Ct [.val 16 ((.agg (pw a))),.val 17 ((.pointer (some ⟨G,0,none⟩))),.val 18 ((.pointer (some ⟨G,0,none⟩))),.val 19 ((.pointer (some ⟨G,0,none⟩))),.val 20 ((.agg (pw m))),.val 21 ((.tuple #[.agg (pw x),.agg (pw y)])),.val 15 ((.tuple #[.agg (pw x),.agg (pw y)])),.val 22 ((.agg (pw x))),.val 23 ((.agg (pw y))),.blk 5 24,.blk 6 24,.laid 5 24,.laid 6 24] [5,6] (fun p=>if p=5 then pw x else pw y) (fun i=>i) ω ω (by exact⟨trivial,trivial,trivial,trivial,trivial,trivial,trivial,trivial,trivial,(by simp[Sp.ok]),(by simp[Sp.ok]),(by simp[Sp.ok]),(by simp[Sp.ok]),trivial⟩) (by intro p hp q hq hne D e;simp only[List.mem_cons,List.not_mem_nil,or_false]at hp;rcases hp with rfl | rfl <;> simp[undef]at e) ?_ ?_
  ·refine⟨?_,?_,?_,?_,?_,?_,?_,?_,?_,?_,?_,?_,?_,trivial⟩
   ·intro ac wx hC hsz hK
    have h0:ac.tmps.getD 3 undef=(.pointer (some ⟨w.heap.size,0,none⟩)):=hK.1 3 ω;exact Ak 24 (.tmp 3) ((.pointer (some ⟨w.heap.size,0,none⟩))) ((.agg (pw a))) rfl rfl ω h0 (Ad ((HC.out.below hC.1).is _ _ υ)) hC ω (by rw[hsz];exact of_decide_eq_true ω) rfl
   ·intro ac wx hC hsz hK
    have h0:ac.tmps.getD 0 undef=(.pointer (some ⟨G,0,none⟩)):=hK.1 0 ω;exact Ap ((.pointer (some ⟨G,0,none⟩))) rfl ω (by rw[<- h0];kernel_rfl) hC ω (by rw[hsz];exact of_decide_eq_true ω) rfl
   ·intro ac wx hC hsz hK
    have h0:ac.tmps.getD 17 undef=(.pointer (some ⟨G,0,none⟩)):=hK.2 ⟨1,.data⟩ υ rfl _ rfl;exact Ap ((.pointer (some ⟨G,0,none⟩))) rfl ω (Ao (.tmp 17) _ rfl h0) hC ω (by rw[hsz];exact of_decide_eq_true ω) rfl
   ·intro ac wx hC hsz hK
    have h0:ac.tmps.getD 18 undef=(.pointer (some ⟨G,0,none⟩)):=hK.2 ⟨2,.data⟩ υ rfl _ rfl;refine Be (Instr.fieldAt 83 (ac.tmps.getD 18 undef) 0) ((.pointer (some ⟨G,0,none⟩))) rfl ω ω ?_ hC ω (by rw[hsz];exact of_decide_eq_true ω) rfl;rw[h0];exact(Cz G wx).1
   ·intro ac wx hC hsz hK
    have h0:ac.tmps.getD 19 undef=(.pointer (some ⟨G,0,none⟩)):=hK.2 ⟨3,.data⟩ υ rfl _ rfl;exact Ak 24 (.tmp 19) ((.pointer (some ⟨G,0,none⟩))) ((.agg (pw m))) rfl rfl ω h0 (DV (HC.out.below hC.1).fld) hC ω (by rw[hsz];exact of_decide_eq_true ω) rfl
   ·intro ac wx hC hsz hK
    have h0:ac.tmps.getD 16 undef=(.agg (pw a)):=hK.2 ⟨0,.data⟩ υ rfl _ rfl;have h1:ac.tmps.getD 20 undef=(.agg (pw m)):=hK.2 ⟨4,.data⟩ υ rfl _ rfl;refine Bb 79 #[ac.tmps.getD 16 undef,ac.tmps.getD 20 undef] ((.tuple #[.agg (pw x),.agg (pw y)])) rfl ω ω ?_ hC ω (by rw[hsz];exact of_decide_eq_true ω) rfl;rw[h0,h1];exact HDM.out wx
   ·intro ac wx hC hsz hK
    have h0:ac.tmps.getD 21 undef=(.tuple #[.agg (pw x),.agg (pw y)]):=hK.2 ⟨5,.data⟩ υ rfl _ rfl;exact Ap ((.tuple #[.agg (pw x),.agg (pw y)])) rfl ω (by rw[<- h0];kernel_rfl) hC ω (by rw[hsz];exact of_decide_eq_true ω) rfl
   ·intro ac wx hC hsz hK
    have h0:ac.tmps.getD 15 undef=(.tuple #[.agg (pw x),.agg (pw y)]):=hK.2 ⟨6,.data⟩ υ rfl _ rfl;refine Be (Instr.extract (ac.tmps.getD 15 undef) 0) ((.agg (pw x))) rfl ω ω ?_ hC ω (by rw[hsz];exact of_decide_eq_true ω) rfl;rw[h0];exact ω
   ·intro ac wx hC hsz hK
    have h0:ac.tmps.getD 15 undef=(.tuple #[.agg (pw x),.agg (pw y)]):=hK.2 ⟨6,.data⟩ υ rfl _ rfl;refine Be (Instr.extract (ac.tmps.getD 15 undef) 1) ((.agg (pw y))) rfl ω ω ?_ hC ω (by rw[hsz];exact of_decide_eq_true ω) rfl;rw[h0];exact ω
   ·intro ac wx hC hsz hK
    exact Cx 24 (#[.int .u64 0,.int .u64 0,.int .u64 0,.int .u64 0]) rfl ω ω hC (by simp[A7]) (by rw[hsz];exact of_decide_eq_true ω) rfl
   ·intro ac wx hC hsz hK
    exact Cx 24 (#[.int .u64 0,.int .u64 0,.int .u64 0,.int .u64 0]) rfl ω ω hC (by simp[A7]) (by rw[hsz];exact of_decide_eq_true ω) rfl
   ·intro ac wx hC hsz hK
    have h0:ac.tmps.getD 22 undef=(.agg (pw x)):=hK.2 ⟨7,.data⟩ υ rfl _ rfl;exact Br (p:=5) 24 (.tmp 5) (.tmp 22) _ rfl rfl ω rfl h0 υ (hK.2 ⟨9,.data⟩ υ rfl _ rfl) (fun D cs h3 h4=>BS (h4.trans (A7 _)) h3) hC rfl
   ·intro ac wx hC hsz hK
    have h0:ac.tmps.getD 23 undef=(.agg (pw y)):=hK.2 ⟨8,.data⟩ υ rfl _ rfl;exact Br (p:=6) 24 (.tmp 6) (.tmp 23) _ rfl rfl ω rfl h0 υ (hK.2 ⟨10,.data⟩ υ rfl _ rfl) (fun D cs h3 h4=>BS (h4.trans (A7 _)) h3) hC rfl
  intro f1 w5 hb5 hap hf5;obtain⟨D6,s6,-,r6⟩:=hf5 12 _ rfl;have H5:=Lib.hid ((HC.out.below hb5).cons r6);clear hf5 hap hb5 HC HDM r6;generalize hAct:Aj _ _ _=A1 at *;have s6':A1.tmps.getD 6 undef=.pointer (some ⟨D6,0,none⟩):=s6;have s4:A1.tmps.getD 4 undef=.pointer (some ⟨w.heap.size+1,0,none⟩):=by subst hAct;kernel_rfl
  have hsz:A1.tmps.size=25:=by rw[<- hAct,Az];rfl
  have hdf:A1.defers=[]:=by subst hAct;kernel_rfl
  clear hAct s6 f1;obtain⟨u0,t0⟩:∃ u,A1.tmps.getD 0 undef=u:=⟨_,rfl⟩
  obtain⟨u1,t1⟩:∃ u,A1.tmps.getD 1 undef=u:=⟨_,rfl⟩
  obtain⟨u2,t2⟩:∃ u,A1.tmps.getD 2 undef=u:=⟨_,rfl⟩
  obtain⟨u3,t3⟩:∃ u,A1.tmps.getD 3 undef=u:=⟨_,rfl⟩
  obtain⟨u5,t5⟩:∃ u,A1.tmps.getD 5 undef=u:=⟨_,rfl⟩
  obtain⟨u7,t7⟩:∃ u,A1.tmps.getD 7 undef=u:=⟨_,rfl⟩
  obtain⟨u8,t8⟩:∃ u,A1.tmps.getD 8 undef=u:=⟨_,rfl⟩
  obtain⟨u9,t9⟩:∃ u,A1.tmps.getD 9 undef=u:=⟨_,rfl⟩
  obtain⟨u10,t10⟩:∃ u,A1.tmps.getD 10 undef=u:=⟨_,rfl⟩
  obtain⟨u11,t11⟩:∃ u,A1.tmps.getD 11 undef=u:=⟨_,rfl⟩
  obtain⟨u12,t12⟩:∃ u,A1.tmps.getD 12 undef=u:=⟨_,rfl⟩
  obtain⟨u13,t13⟩:∃ u,A1.tmps.getD 13 undef=u:=⟨_,rfl⟩
  obtain⟨u14,t14⟩:∃ u,A1.tmps.getD 14 undef=u:=⟨_,rfl⟩
  obtain⟨u15,t15⟩:∃ u,A1.tmps.getD 15 undef=u:=⟨_,rfl⟩
  obtain⟨u16,t16⟩:∃ u,A1.tmps.getD 16 undef=u:=⟨_,rfl⟩
  obtain⟨u17,t17⟩:∃ u,A1.tmps.getD 17 undef=u:=⟨_,rfl⟩
  obtain⟨u18,t18⟩:∃ u,A1.tmps.getD 18 undef=u:=⟨_,rfl⟩
  obtain⟨u19,t19⟩:∃ u,A1.tmps.getD 19 undef=u:=⟨_,rfl⟩
  obtain⟨u20,t20⟩:∃ u,A1.tmps.getD 20 undef=u:=⟨_,rfl⟩
  obtain⟨u21,t21⟩:∃ u,A1.tmps.getD 21 undef=u:=⟨_,rfl⟩
  obtain⟨u22,t22⟩:∃ u,A1.tmps.getD 22 undef=u:=⟨_,rfl⟩
  obtain⟨u23,t23⟩:∃ u,A1.tmps.getD 23 undef=u:=⟨_,rfl⟩
  obtain⟨u24,t24⟩:∃ u,A1.tmps.getD 24 undef=u:=⟨_,rfl⟩
  obtain⟨tm,df⟩:=A1;simp only at *;have hLt:=Fb tm;rw[hsz]at hLt;simp only[List.range,List.range.loop,List.map]at hLt;rw[t0,t1,t2,t3,s4,t5,s6',t7,t8,t9,t10,t11,t12,t13,t14,t15,t16,t17,t18,t19,t20,t21,t22,t23,t24]at hLt;subst hLt hdf;clear t0 t1 t2 t3 s4 t5 s6' t7 t8 t9 t10 t11 t12 t13 t14 t15 t16 t17 t18 t19 t20 t21 t22 t23 t24 hsz
  go_wp2_with (first | (refine Ae rfl 24 _ rfl (.pointer (some ⟨D6,0,none⟩)) (.agg (pw y)) rfl (Ad (by exact H5.out.is _ _ υ)) ?_) | (refine wpList_store_row rfl 24 _ _ rfl (w.heap.size+1) (pw y) rfl rfl 24 (#[.int .u64 0,.int .u64 0,.int .u64 0,.int .u64 0]) (by exact H5.out.is _ _ υ) (by rw[A7];exact Ab) (by first | rfl | (rw[A7];rfl) | (rw[A7,A7])) (Ag _) ?_))
  (try simp only[Act.put])
  refine bodyPost_ret (v:=.agg (pw y)) (results_cell_row (p:=4) rfl _ _ (w.heap.size+1) 24 (pw y) (0,0) _ rfl (setRow_heap _ _ _ _ _ _ (by exact H5.out.is _ (#[.int .u64 0,.int .u64 0,.int .u64 0,.int .u64 0]) υ)) Tryz.underlying24 rfl (by rw[A7];exact Ab)) rfl ⟨rfl,below_setRow H5.out.old τ _⟩
 ·rw[decide_eq_false hq]at HMO
  have HQ:=Lib.hid (show a%m=a from Nat.mod_eq_of_lt τ);rw[HQ.out];clear hF ha h0 hm hq HDM HQ;go_enter Tryz.func54,Tryz.ntmps54
  go_wp2_with fail
  refine wp_region_quiet (C:=CRf w G m lo sq [(w.heap.size+1,#[.int .u64 0,.int .u64 0,.int .u64 0,.int .u64 0]),(w.heap.size,pw a)]) ω ω (H0.out.drew) ?_;simp only
  with_reducible refine Ac 24 (.tmp 3) (.pointer (some ⟨w.heap.size,0,none⟩)) (.agg (pw a)) rfl ω ω (fun _ c=>Ad (c.is _ _ υ)) ?_
  with_reducible refine q_val (.pointer (some ⟨G,0,none⟩)) ω (fun _ _=>by kernel_rfl) ?_
  with_reducible refine q_val (.pointer (some ⟨G,0,none⟩)) ω (fun _ _=>Ao (.tmp 8) _ rfl ω) ?_
  with_reducible refine Am (Instr.fieldAt 83 (.pointer (some ⟨G,0,none⟩)) 0) (.pointer (some ⟨G,0,none⟩)) ω ω (fun w' _=>(Cz G w').1) ?_
  with_reducible refine Ac 24 (.tmp 10) (.pointer (some ⟨G,0,none⟩)) (.agg (pw m)) rfl ω ω (fun _ c=>DV c.fld) ?_
  with_reducible refine Ah 56 #[.agg (pw a),.agg (pw m)] (.bool false) ω (fun _=>by kernel_rfl) (CRf.calls HMO.out) ?_
  with_reducible refine V5 .not 4 (.tmp 12) (.bool false) (.bool true) rfl ω ω (fun w'=>by kernel_rfl) ?_
  with_reducible refine wpQuiet_nil ?_
  intro wx hC;have HC:=Lib.hid hC;clear hC H0 HMO;simp only[Act.put,List.setIfInBounds_toArray,List.set_cons_succ,List.set_cons_zero]
  go_wp2_with (first | (refine Ae rfl 24 _ rfl (.pointer (some ⟨w.heap.size,0,none⟩)) (.agg (pw a)) rfl (Ad (by exact HC.out.is _ _ υ)) ?_) | (refine wpList_store_row rfl 24 _ _ rfl (w.heap.size+1) (pw a) rfl rfl 24 (#[.int .u64 0,.int .u64 0,.int .u64 0,.int .u64 0]) (by exact HC.out.is _ _ υ) (by rw[A7];exact Ab) (by first | rfl | (rw[A7];rfl) | (rw[A7,A7])) (Ag _) ?_))
  (try simp only[Act.put])
  refine bodyPost_ret (v:=.agg (pw a)) (results_cell_row (p:=4) rfl _ _ (w.heap.size+1) 24 (pw a) (0,0) _ rfl (setRow_heap _ _ _ _ _ _ (by exact HC.out.is _ (#[.int .u64 0,.int .u64 0,.int .u64 0,.int .u64 0]) υ)) Tryz.underlying24 rfl (by rw[A7];exact Ab)) rfl ⟨rfl,below_setRow HC.out.old τ _⟩
open Go.RowKit
theorem PX(w:World):Calls Tryz.prog 53 #[] w fun e w'=>e=.returned (.agg (pw 115792089237316195423570985008687907853269984665640564039457584007908834671663))/\Below w.heap.size w w':=by
 go_enter Tryz.func53,Tryz.ntmps53
 go_wp2_with (refine wpList_store_row rfl 24 _ _ rfl w.heap.size (pw 115792089237316195423570985008687907853269984665640564039457584007908834671663) rfl ω 24 (#[.int .u64 0,.int .u64 0,.int .u64 0,.int .u64 0]) (heap_alloc_new _ _) (by rw[A7];exact Ab) (by rw[A7];rfl) (Ag _) ?_)
 (try simp only[Act.put])
 refine bodyPost_ret (v:=.agg (pw 115792089237316195423570985008687907853269984665640564039457584007908834671663)) (results_cell_row (p:=0) rfl _ _ (w.heap.size) 24 (pw 115792089237316195423570985008687907853269984665640564039457584007908834671663) (0,0) _ rfl (setRow_heap _ _ _ _ _ _ (by exact heap_alloc_new _ _)) Tryz.underlying24 rfl (by rw[A7];exact Ab)) rfl ⟨rfl,below_setRow ((Below.refl _ _).alloc (Nat.le_refl _) _) (Nat.le_refl _) _⟩
open Go.RowKit
theorem sq_pow(m k e:Nat)(hk:k=e+e)(he:2^e=2^256):2^k%m=2^256*2^256%m:=by rw[hk,Nat.pow_add,he]
theorem A3v(m:Nat):(#[.int .u64 ((pN m 0:Nat):Int),.int .u64 ((pN m 1:Nat):Int),.int .u64 ((pN m 2:Nat):Int),.int .u64 ((pN m 3:Nat):Int),.int .u64 ((qN m 0:Nat):Int),.int .u64 ((qN m 1:Nat):Int),.int .u64 ((qN m 2:Nat):Int),.int .u64 ((qN m 3:Nat):Int),.int .u64 ((qN m 4:Nat):Int),.int .u64 ((qN m 5:Nat):Int),.int .u64 ((qN m 6:Nat):Int),.int .u64 ((qN m 7:Nat):Int),.int .u64 1,.int .u64 0,.int .u64 0,.int .u64 0,.int .u64 0]:Array Value)=ar .u64 17 fun j=>((rfw m 1 0 j:Nat):Int):=by kernel_rfl
theorem A26(m:Nat):(ar .u64 8 fun j=>((qN m j:Nat):Int))=#[.int .u64 ((qN m 0:Nat):Int),.int .u64 ((qN m 1:Nat):Int),.int .u64 ((qN m 2:Nat):Int),.int .u64 ((qN m 3:Nat):Int),.int .u64 ((qN m 4:Nat):Int),.int .u64 ((qN m 5:Nat):Int),.int .u64 ((qN m 6:Nat):Int),.int .u64 ((qN m 7:Nat):Int)]:=by kernel_rfl
structure CNw (w:World) (G m lo sq:Nat) (wx:World):Prop where
 old:Below w.heap.size w wx
 hG:w.heap.size<=G
 fld:RFat wx G m lo sq
theorem CNw.below{w wx w':World}{G m lo sq:Nat}(c:CNw w G m lo sq wx)(hb:Below wx.heap.size wx w'):CNw w G m lo sq w':=⟨c.old.trans (hb.mono c.old.size),c.hG,c.fld.below hb⟩
theorem CNw.drew{w wx:World}{G m lo sq:Nat}(c:CNw w G m lo sq wx):CNw w G m lo sq wx.drew:=c.below (Below.drew (Below.refl _ _))
theorem CNw.calls{w:World}{G m lo sq:Nat}{f:FuncId}{args:Array Value}{v:Value}(h:∀ wx,RFat wx G m lo sq->Calls Tryz.prog f args wx fun e w'=>e=.returned v/\Below wx.heap.size wx w'):∀ wx,CNw w G m lo sq wx->Calls Tryz.prog f args wx fun e w'=>e=.returned v/\CNw w G m lo sq w' :=
 fun wx c=>(h wx c.fld).mono fun _ _ hh=>⟨hh.1,c.below hh.2⟩
def L6(G:Nat)(w:World):Nat:=match w.cell? ⟨G,12,none⟩with | some (.int _ x)=>x.toNat | _=>0
theorem O7{w:World}{G m lo sq:Nat}(h:RFat w G m lo sq):L6 G w=lo:=by
 unfold L6;rw[h.cell 12 τ,PT];simp
theorem VZ(m:Nat)(hm:m<2^256)(ho:m%2=1)(h1:1<m)(w:World):Calls Tryz.prog 52 #[.agg (pw m)] w fun e w'=>∃ v,e=.returned v/\(∃ G,v=(.pointer (some ⟨G,0,none⟩))/\w.heap.size<=G/\∃ lo,lo<4294967296/\(lo*qN m 0+1)%4294967296=0/\RFat w' G m lo (2^256*2^256%m))/\Below w.heap.size w w':=by
 have H0:=Lib.hid (CBm.start w m);have HP:=Lib.hid (fun wx=>Ga m wx);rw[A26]at HP;have HO:=Lib.hid (And.intro hm (And.intro ho h1));have HQ0:=Lib.hid (show qN m 0%2=1 from by unfold qN;simp;omega);clear hm ho h1;go_enter Tryz.func52,Tryz.ntmps52
 go_wp2_with fail
 refine Aa 4 (CBm w m) ω ω (H0.out.drew) ?_;simp only[List.take_succ_cons,List.take_zero,List.drop_succ_cons,List.drop_zero]
 with_reducible refine Ac 24 (.tmp 1) (.pointer (some ⟨w.heap.size,0,none⟩)) (.agg #[.int .u64 ((pN m 0:Nat):Int),.int .u64 ((pN m 1:Nat):Int),.int .u64 ((pN m 2:Nat):Int),.int .u64 ((pN m 3:Nat):Int)]) rfl ω ω (fun _ c=>(by rw[<- pw4];exact Ad c.r0)) ?_
 with_reducible refine Ac 24 (.tmp 1) (.pointer (some ⟨w.heap.size,0,none⟩)) (.agg (pw m)) rfl ω ω (fun _ c=>Ad c.r0) ?_
 with_reducible refine Ah 78 #[.agg (pw m)] (.agg #[.int .u64 ((qN m 0:Nat):Int),.int .u64 ((qN m 1:Nat):Int),.int .u64 ((qN m 2:Nat):Int),.int .u64 ((qN m 3:Nat):Int),.int .u64 ((qN m 4:Nat):Int),.int .u64 ((qN m 5:Nat):Int),.int .u64 ((qN m 6:Nat):Int),.int .u64 ((qN m 7:Nat):Int)]) ω (fun _=>by kernel_rfl) (CBm.calls HP.out) ?_
 with_reducible refine q_val (.agg #[.int .u64 ((pN m 0:Nat):Int),.int .u64 ((pN m 1:Nat):Int),.int .u64 ((pN m 2:Nat):Int),.int .u64 ((pN m 3:Nat):Int),.int .u64 ((qN m 0:Nat):Int),.int .u64 ((qN m 1:Nat):Int),.int .u64 ((qN m 2:Nat):Int),.int .u64 ((qN m 3:Nat):Int),.int .u64 ((qN m 4:Nat):Int),.int .u64 ((qN m 5:Nat):Int),.int .u64 ((qN m 6:Nat):Int),.int .u64 ((qN m 7:Nat):Int),.int .u64 1,.int .u64 0,.int .u64 0,.int .u64 0,.int .u64 0]) ω (fun _ _=>by kernel_rfl) ?_
 with_reducible refine wpQuiet_nil ?_
 intro wx hC;have HC:=Lib.hid hC;clear hC H0 HP;simp only[Act.put,List.setIfInBounds_toArray,List.set_cons_succ,List.set_cons_zero]
 go_wp2_with fail
 obtain⟨w1,hw1⟩:∃ w1,wx.alloc (.cells (#[.int .u64 ((pN m 0:Nat):Int),.int .u64 ((pN m 1:Nat):Int),.int .u64 ((pN m 2:Nat):Int),.int .u64 ((pN m 3:Nat):Int),.int .u64 ((qN m 0:Nat):Int),.int .u64 ((qN m 1:Nat):Int),.int .u64 ((qN m 2:Nat):Int),.int .u64 ((qN m 3:Nat):Int),.int .u64 ((qN m 4:Nat):Int),.int .u64 ((qN m 5:Nat):Int),.int .u64 ((qN m 6:Nat):Int),.int .u64 ((qN m 7:Nat):Int),.int .u64 1,.int .u64 0,.int .u64 0,.int .u64 0,.int .u64 0]) 83)=w1:=⟨_,rfl⟩
 obtain⟨G,hG⟩:∃ G,wx.heap.size=G:=⟨_,rfl⟩
 have H1:=Lib.hid (show CNw w G m 1 0 w1 from by
  refine⟨by rw[<- hw1];exact HC.out.old.alloc HC.out.old.size _,by rw[<- hG];exact HC.out.old.size,?_⟩;unfold RFat;rw[<- hw1,<- hG,A3v];exact heap_alloc_new _ _)
 rw[hw1,hG];clear hw1 hG HC
 go_loopw [] (fun wr=>∃ lo:Nat,Hid (LowI (qN m 0) lo/\CNw w G m lo 0 wr)) (fun wr=>4294967296 - L6 G wr)
 case atStart=>exact⟨1,Lib.hid ⟨LowI.start HQ0.out,H1.out⟩⟩
 case round =>
  obtain⟨lo,H⟩:=hrel;clear H1;have hll:=H.out.1.lt;have hql:=K5 m 0;have c12:=H.out.2.fld.cell 12 τ;have c4:=H.out.2.fld.cell 4 τ;have f12:=frozen_of_row wr G 12 _ _ H.out.2.fld;rw[PT]at c12;rw[show rfw m lo 0 4=qN m 0 from A0D m lo 0 0 τ]at c4;obtain⟨q,hq⟩:∃ q,qN m 0=q:=⟨_,rfl⟩
  rw[hq]at c4 hql;have hpl:lo*q<=4294967295*4294967295:=Nat.mul_le_mul τ τ;obtain⟨pr,hpr⟩:∃ pr,lo*q=pr:=⟨_,rfl⟩
  obtain⟨c,hc⟩:∃ c,pr%4294967296=c:=⟨_,rfl⟩
  rw[hpr]at hpl;have hW:IntKind.u64.wrap ((lo:Int)*(q:Int))=(pr:Int):=by (rw[IntKind.wrap_u64,<- hpr,Int.natCast_mul];have:(lo:Int)*q=(pr:Int):=by rw[<- hpr,Int.natCast_mul]);omega
  have hA:bits .and .u64 (pr:Int) 4294967295=(c:Int):=by rw[and_low32 pr τ,hc]
  have HPR:=Lib.hid (And.intro hq (And.intro hpr hc));by_cases he:c=4294967295
  ·subst he
   have HF:=Lib.hid (show lo<4294967296/\(lo*qN m 0+1)%4294967296=0 from⟨hll,LowI.done (by rw[hq,hpr,hc])⟩);clear hc hll hql hpl hq hpr HPR
   go_wp2_with fail
   go_region
   go_wp2_with (refine wpList_store_mid rfl 24 _ _ rfl G 13 (pw 1) rfl rfl (by exact H.out.2.drew.fld.there 1) (by rw[A7];exact Ab) (Ag _) ?_)
   obtain⟨w3,hw3⟩:∃ w3,wr.drew.setCells G 13 (pw 1).toList=w3:=⟨_,rfl⟩
   have H3:=Lib.hid (show CNw w G m lo (2^0%m) w3 from by
    rw[show 2^0%m=1 from by rw[Nat.pow_zero];exact Nat.mod_eq_of_lt HO.out.2.2,<- hw3];exact⟨Ik _ _ H.out.2.drew.old H.out.2.hG,H.out.2.hG,H.out.2.drew.fld.sq 1⟩)
   rw[hw3];clear hw3 H hW hA c12 c4 f12
   go_loopw [5] (fun iv wr=>∃ k:Nat,k<=512/\iv=.int .i64 k/\Hid (CNw w G m lo (2^k%m) wr)) (fun iv _=>512 - (intOf iv).toNat)
   case atStart=>exact⟨0,τ,rfl,H3⟩
   case round =>
    obtain⟨k,hk,rfl,H⟩:=hrel;clear H3;have hk0:(0:Int)<=k:=by omega
    by_cases hlt:k<512
    ·have hlt':(k:Int)<512:=by omega
     have hm0:0<m:=by have:=HO.out.2.2;omega
     obtain⟨x,hx⟩:∃ x,2^k%m=x:=⟨_,rfl⟩
     have hxm:x<m:=by rw[<- hx];exact Nat.mod_lt _ hm0
     have HX:=Lib.hid (show(x+x)%m=2^(k+1)%m from by rw[<- hx,Nat.pow_succ,Nat.mul_two,<- Nat.add_mod]);obtain⟨y,hy⟩:∃ y,(x+x)%m=y:=⟨_,rfl⟩
     rw[hx]at H;have HAD:=Lib.hid (fun wx (hf:RFat wx G m lo x)=>O5 G m lo x x x hxm hxm HO.out.1 wx hf);rw[hy]at HX HAD;have HK:=Lib.hid hlt;clear hx hxm hy hm0 hlt hk
     go_wp2_with fail
     refine Aa 11 (CNw w G m lo x) ω ω (H.out.drew) ?_;simp only[List.take_succ_cons,List.take_zero,List.drop_succ_cons,List.drop_zero]
     with_reducible refine q_val (.pointer (some ⟨G,0,none⟩)) ω (fun _ _=>by kernel_rfl) ?_
     with_reducible refine q_val (.pointer (some ⟨G,0,none⟩)) ω (fun _ _=>by kernel_rfl) ?_
     with_reducible refine q_val (.pointer (some ⟨G,0,none⟩)) ω (fun _ _=>by kernel_rfl) ?_
     with_reducible refine q_val (.pointer (some ⟨G,0,none⟩)) ω (fun _ _=>Ao (.tmp 57) _ rfl ω) ?_
     with_reducible refine Am (Instr.fieldAt 83 (.pointer (some ⟨G,0,none⟩)) 3) (.pointer (some ⟨G,13,none⟩)) ω ω (fun w' _=>(Cz G w').2.2.2) ?_
     with_reducible refine Ac 24 (.tmp 59) (.pointer (some ⟨G,13,none⟩)) (.agg (pw x)) rfl ω ω (fun _ c=>K6 c.fld) ?_
     with_reducible refine q_val (.pointer (some ⟨G,0,none⟩)) ω (fun _ _=>by kernel_rfl) ?_
     with_reducible refine q_val (.pointer (some ⟨G,0,none⟩)) ω (fun _ _=>Ao (.tmp 61) _ rfl ω) ?_
     with_reducible refine Am (Instr.fieldAt 83 (.pointer (some ⟨G,0,none⟩)) 3) (.pointer (some ⟨G,13,none⟩)) ω ω (fun w' _=>(Cz G w').2.2.2) ?_
     with_reducible refine Ac 24 (.tmp 63) (.pointer (some ⟨G,13,none⟩)) (.agg (pw x)) rfl ω ω (fun _ c=>K6 c.fld) ?_
     with_reducible refine Ah 39 #[.pointer (some ⟨G,0,none⟩),.agg (pw x),.agg (pw x)] (.agg (pw y)) ω (fun _=>by kernel_rfl) (CNw.calls HAD.out) ?_
     with_reducible refine wpQuiet_nil ?_
     intro wx hC;have HC:=Lib.hid hC;clear hC H;simp only[Act.put,List.setIfInBounds_toArray,List.set_cons_succ,List.set_cons_zero]
     go_wp2_with (refine wpList_store_mid rfl 24 _ _ rfl G 13 (pw y) rfl rfl (by exact HC.out.fld.there y) (by rw[A7];exact Ab) (Ag _) ?_)
     go_roundw
     case rel=>exact⟨k+1,by have:=HK.out;omega,by go_num,Lib.hid (by rw[<- HX.out];exact⟨Ik _ _ HC.out.old HC.out.hG,HC.out.hG,HC.out.fld.sq y⟩)⟩
     case measure=>have:=HK.out;simp[intOf];omega
    ·have hlt':¬(k:Int)<512:=by omega
     have HK:=Lib.hid (show k=512 by omega);clear hlt hk
     go_wp2_with fail
     go_ret;refine⟨_,rfl,⟨G,rfl,H.out.hG,lo,HF.out.1,HF.out.2,?_⟩,H.out.old⟩;have h:=H.out.fld;rwa [sq_pow m k 256 (by have:=HK.out;omega) rfl]at h
  ·obtain⟨L,hL⟩:∃ L,4294967295 - c=L:=⟨_,rfl⟩
   have hcl:c<4294967296:=by rw[<- hc];exact Nat.mod_lt _ τ
   obtain⟨b,hb,hb0,hbl,hst⟩:=LowI.step H.out.1 HQ0.out (by rw[hq,hpr,hc]) he hL;have hne:¬(c:Int)=4294967295:=by omega
   have hx1:bits .xor .u64 (if IntKind.u64.signed=true then -1 else IntKind.u64.max) (pr:Int)=((18446744073709551615 - pr:Nat):Int):=EQ τ;have hX:bits .and .u64 ((18446744073709551615 - pr:Nat):Int) 4294967295=(L:Int):=by
    have h:=and_low32 (18446744073709551615 - pr) τ;rwa [show(18446744073709551615 - pr)%4294967296=L by omega]at h
   have hN:IntKind.u64.wrap (-(L:Int))=((18446744073709551616 - L:Nat):Int):=by rw[IntKind.wrap_u64];omega
   have hB:bits .and .u64 (L:Int) ((18446744073709551616 - L:Nat):Int)=(b:Int):=by rw[bits_and_u64_nat _ _ τ τ,hb]
   have hS:IntKind.u64.wrap ((lo:Int)+(b:Int))=((lo+b:Nat):Int):=by rw[IntKind.wrap_u64];omega
   have HS:=Lib.hid (And.intro hst (And.intro hb0 hbl));obtain⟨NL,hNL⟩:∃ NL,18446744073709551616 - L=NL:=⟨_,rfl⟩
   obtain⟨l2,hl2⟩:∃ l2,lo+b=l2:=⟨_,rfl⟩
   rw[hNL]at hN hB;rw[hl2]at hS HS;have hE:IntKind.u64.wrap ((lo:Int)+bits .and .u64 (bits .and .u64 (bits .xor .u64 (if IntKind.u64.signed=true then -1 else IntKind.u64.max) (pr:Int)) 4294967295) (IntKind.u64.wrap (-bits .and .u64 (bits .xor .u64 (if IntKind.u64.signed=true then -1 else IntKind.u64.max) (pr:Int)) 4294967295)))=(l2:Int):=by rw[hx1,hX,hN,hB,hS]
   have HE:=Lib.hid hE;clear hE hx1 hX hN hB hS;have HL2:=Lib.hid (And.intro hl2 (O7 H.out.2.fld));have hcn:¬c=4294967295:=he;clear hst hb hb0 hbl hNL hl2 hL hcl he hc hll hql hpl hq hpr HPR
   go_wp2_with fail
   go_region
   go_wp2_with fail
   go_region
   go_wp2_with fail
   go_roundw
   case rel=>exact⟨l2,Lib.hid ⟨HS.out.1,by rw[HE.out];exact⟨H.out.2.old.drew.drew.setCell H.out.2.hG _,H.out.2.hG,H.out.2.fld.lo l2⟩⟩⟩
   case measure =>
    rw[HE.out];have h1:L6 G (wr.setCell ⟨G,12,none⟩ (.int .u64 (l2:Nat))).drew.drew=l2:=O7 (H.out.2.fld.lo l2);have h2:=HS.out.2;have h3:=HL2.out;show 4294967296 - L6 G _<4294967296 - L6 G _;rw[h1,h3.2];omega
open Go.RowKit
theorem PY(w:World):Calls Tryz.prog 26 #[] w fun e w'=>∃ F,e=.returned (.agg #[.pointer (some ⟨F,0,none⟩)])/\FldAt w' F 115792089237316195423570985008687907853269984665640564039457584007908834671663/\w.heap.size<=F/\Below w.heap.size w w':=by
 have HCR:=Lib.hid (fun wx=>Z8 wx);go_enter Tryz.func26,Tryz.ntmps26
 go_wp2_with fail
 refine(HCR.out _).mono ?_;rintro e w5 ⟨F,rfl,hF,hs,hb⟩;have HF:=Lib.hid hF;have HS:=Lib.hid hs;have HB:=Lib.hid hb;have hr:=(HB.out.block w.heap.size υ).trans (heap_alloc_new w _);have HR:=Lib.hid hr;clear hF hs hb hr HCR
 go_wp2_with (refine wpList_store_row rfl 53 _ _ rfl w.heap.size #[.pointer (some ⟨F,0,none⟩)] rfl rfl 53 _ (by exact HR.out) ω (by rfl) ω ?_)
 (try simp only[Act.put])
 refine bodyPost_ret (v:=.agg #[.pointer (some ⟨F,0,none⟩)]) (results_cell_row (p:=0) rfl _ _ w.heap.size 53 #[.pointer (some ⟨F,0,none⟩)] (0,0) _ rfl (setRow_heap _ _ _ _ _ _ HR.out) Tryz.underlying53 rfl ω) rfl ⟨F,rfl,?_,?_,?_⟩
 ·have h:=HS.out
  simp at h;exact Fu HF.out τ
 ·have h:=HS.out
  simp at h;omega
 ·exact below_setRow (((Below.refl _ _).alloc (Nat.le_refl _) _).trans (HB.out.mono υ)) (Nat.le_refl _) _
theorem A27(w:World):Calls Tryz.prog 30 #[] w fun e w'=>∃ G,e=.returned (.pointer (some ⟨G,0,none⟩))/\RFld w' G 115792089237316195423570985008687907853269984665640564039457584007908834671663/\w.heap.size<=G/\Below w.heap.size w w':=by
 have HCR:=Lib.hid (fun wx=>PX wx);have HNW:=Lib.hid (fun wx=>VZ 115792089237316195423570985008687907853269984665640564039457584007908834671663 τ τ τ wx);go_enter Tryz.func30,Tryz.ntmps30
 go_wp2_with fail
 refine(HCR.out _).mono ?_;rintro e w5 ⟨rfl,hb⟩;have HB:=Lib.hid hb;clear hb HCR
 go_wp2_with fail
 refine(HNW.out _).mono ?_;rintro e w6 ⟨v,rfl,⟨G,rfl,hs,lo,h1,h2,h3⟩,hb6⟩;have HG:=Lib.hid (show RFld w6 G 115792089237316195423570985008687907853269984665640564039457584007908834671663/\w.heap.size<=G/\Below w.heap.size w w6 from⟨⟨lo,h1,h2,h3⟩,Nat.le_trans HB.out.size hs,HB.out.trans (hb6.mono HB.out.size)⟩);clear hs h1 h2 h3 hb6 HB HNW
 go_wp2_with fail
 go_ret;exact⟨G,rfl,HG.out⟩
end Go.Proofs.YtphafjbajlcbnaaGreat
