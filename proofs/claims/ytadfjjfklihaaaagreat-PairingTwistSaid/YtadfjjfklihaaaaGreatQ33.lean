/- The worlds of the reference's Cut. (Cut to what is reached, written closely: RSb · RCutN · RWh · RCw.) -/
import Derived.Test.YtadfjjfklihaaaaGreatQ32
import Derived.Test.YtadfjjfklihaaaaGreatP16
import Derived.Test.YtadfjjfklihaaaaGreatQ31
import Derived.Test.YtadfjjfklihaaaaGreatP4
set_option linter.all false
set_option maxRecDepth 100000
set_option maxHeartbeats 8000000
namespace Go.Proofs.YtadfjjfklihaaaaGreat
open Go.RowKit
theorem arr_litS(t:Array Value):t=((List.range t.size).map fun i=>t.getD i undef).toArray:=by
 apply Array.ext
 ·simp
 ·intro i h1 h2
  simp[h1]
theorem rsub_w(G m lo sq a b:Nat)(hal:a<2^256)(hbl:b<2^256)(hm:m<2^256)(w:World)(hF:RFat w G m lo sq):Calls Tryz.prog 76 #[(.pointer (some ⟨G,0,none⟩)),.agg (pw a),.agg (pw b)] w fun e w'=>e=.returned (.agg (pw (rS m a b)))/\Below w.heap.size w w':=by
 have H0:=Lib.hid (CRf.two hF a b);have HMO:=Lib.hid (fun wx=>moreW_any a b (by omega) (by omega) wx);have HMI:=Lib.hid (fun wx=>minusW_any a b (by omega) (by omega) wx);by_cases hq:b<=a
 ·have HQ:=Lib.hid (show pw (a+2^256 - b)=pw (rS m a b) from by
   unfold rS;rw[if_pos hq,pw_modn])
  rw[decide_eq_true hq]at HMO;obtain⟨y,hy⟩:∃ y,a+2^256 - b=y:=⟨_,rfl⟩
  rw[hy]at HMI HQ;obtain⟨z,hz⟩:∃ z,pw (rS m a b)=z:=⟨_,rfl⟩
  rw[hz]at HQ |-
  clear hF hal hbl hm hq hy hz;go_enter Tryz.func76,Tryz.ntmps76
  go_wp2_with (first | (refine wpList_ld rfl 24 _ rfl (.pointer (some ⟨w.heap.size,0,none⟩)) (.agg (pw a)) rfl (ld_pw (by exact H0.out.is _ _ (by simp))) ?_) | (refine wpList_ld rfl 24 _ rfl (.pointer (some ⟨w.heap.size+1,0,none⟩)) (.agg (pw b)) rfl (ld_pw (by exact H0.out.is _ _ (by simp))) ?_))
  refine(HMO.out _).mono ?_;rintro e w1 ⟨rfl,hb1⟩;have H1:=Lib.hid (H0.out.below hb1);clear hb1 H0 HMO
  go_wp2_with (first | (refine wpList_ld rfl 24 _ rfl (.pointer (some ⟨w.heap.size,0,none⟩)) (.agg (pw a)) rfl (ld_pw (by exact H1.out.is _ _ (by simp))) ?_) | (refine wpList_ld rfl 24 _ rfl (.pointer (some ⟨w.heap.size+1,0,none⟩)) (.agg (pw b)) rfl (ld_pw (by exact H1.out.is _ _ (by simp))) ?_))
  refine(HMI.out _).mono ?_;rintro e w2 ⟨rfl,hb2⟩;have H2:=Lib.hid (H1.out.below hb2);clear hb2 H1 HMI
  go_wp2_with (refine wpList_store_row rfl 24 _ _ rfl (w.heap.size+1+1) (pw y) rfl rfl 24 (#[.int .u64 0,.int .u64 0,.int .u64 0,.int .u64 0]) (by exact H2.out.is _ _ (by simp)) (by rw[pw_size];exact infoW4) (by first | rfl | (rw[pw_size];rfl) | (rw[pw_size,pw_size])) (pw_one _) ?_)
  (try simp only[Act.put])
  refine bodyPost_ret (v:=.agg (pw y)) (results_cell_row (p:=6) rfl _ _ (w.heap.size+1+1) 24 (pw y) (0,0) _ rfl (setRow_heap _ _ _ _ _ _ (by exact H2.out.is _ (#[.int .u64 0,.int .u64 0,.int .u64 0,.int .u64 0]) (by simp))) Tryz.underlying24 rfl (by rw[pw_size];exact infoW4)) rfl ⟨by rw[HQ.out],below_setRow H2.out.old (by omega) _⟩
 ·have hd:a+2^256 - b<2^256:=by omega
  have HPL:=Lib.hid (fun wx=>plusW_any (a+2^256 - b) m hd hm wx);have HQ:=Lib.hid (show pw (a+2^256 - b+m)=pw (rS m a b) from by
   unfold rS;rw[if_neg hq,pw_modn])
  rw[decide_eq_false hq]at HMO;obtain⟨d,hd2⟩:∃ d,a+2^256 - b=d:=⟨_,rfl⟩
  rw[hd2]at HMI HPL HQ;obtain⟨y,hy⟩:∃ y,d+m=y:=⟨_,rfl⟩
  obtain⟨ov,hov⟩:∃ ov,decide (2^256<=d+m)=ov:=⟨_,rfl⟩
  rw[hov,hy]at HPL;rw[hy]at HQ;obtain⟨z,hz⟩:∃ z,pw (rS m a b)=z:=⟨_,rfl⟩
  rw[hz]at HQ |-
  clear hF hal hbl hm hq hy hz hd hd2 hov;go_enter Tryz.func76,Tryz.ntmps76
  go_wp2_with (first | (refine wpList_ld rfl 24 _ rfl (.pointer (some ⟨w.heap.size,0,none⟩)) (.agg (pw a)) rfl (ld_pw (by exact H0.out.is _ _ (by simp))) ?_) | (refine wpList_ld rfl 24 _ rfl (.pointer (some ⟨w.heap.size+1,0,none⟩)) (.agg (pw b)) rfl (ld_pw (by exact H0.out.is _ _ (by simp))) ?_))
  refine(HMO.out _).mono ?_;rintro e w1 ⟨rfl,hb1⟩;have H1:=Lib.hid (H0.out.below hb1);clear hb1 H0 HMO
  go_wp2_with fail
  refine region_many [.val 16 ((.agg (pw a))),.val 17 ((.agg (pw b))),.val 18 ((.agg (pw d))),.val 19 ((.pointer (some ⟨G,0,none⟩))),.val 20 ((.pointer (some ⟨G,0,none⟩))),.val 21 ((.pointer (some ⟨G,0,none⟩))),.val 22 ((.agg (pw m))),.val 23 ((.tuple #[.agg (pw y),.bool ov])),.val 15 ((.tuple #[.agg (pw y),.bool ov])),.val 24 ((.agg (pw y))),.val 25 ((.bool ov)),.blk 7 24,.laid 7 24,.val 8 ((.bool ov))] [7] (fun p=>pw y) (fun i=>i) (by kernel_rfl) (by kernel_rfl) (by exact⟨trivial,trivial,trivial,trivial,trivial,trivial,trivial,trivial,trivial,trivial,trivial,(by simp[Sp.ok]),(by simp[Sp.ok]),trivial,trivial⟩) (by intro p hp q hq hne;simp only[List.mem_cons,List.not_mem_nil,or_false]at hp hq;exact absurd (hp.trans hq.symm) hne) ?_ ?_
  ·refine⟨?_,?_,?_,?_,?_,?_,?_,?_,?_,?_,?_,?_,?_,?_,trivial⟩
   ·intro ac wx hC hsz hK
    have h0:ac.tmps.getD 4 undef=(.pointer (some ⟨w.heap.size,0,none⟩)):=hK.1 4 (by kernel_rfl);exact mm_load 24 (.tmp 4) ((.pointer (some ⟨w.heap.size,0,none⟩))) ((.agg (pw a))) rfl rfl (by kernel_rfl) h0 (ld_pw ((H1.out.below hC.1).is _ _ (by simp))) hC (by kernel_rfl) (by rw[hsz];exact of_decide_eq_true (by kernel_rfl)) rfl
   ·intro ac wx hC hsz hK
    have h0:ac.tmps.getD 5 undef=(.pointer (some ⟨w.heap.size+1,0,none⟩)):=hK.1 5 (by kernel_rfl);exact mm_load 24 (.tmp 5) ((.pointer (some ⟨w.heap.size+1,0,none⟩))) ((.agg (pw b))) rfl rfl (by kernel_rfl) h0 (ld_pw ((H1.out.below hC.1).is _ _ (by simp))) hC (by kernel_rfl) (by rw[hsz];exact of_decide_eq_true (by kernel_rfl)) rfl
   ·intro ac wx hC hsz hK
    have h0:ac.tmps.getD 16 undef=(.agg (pw a)):=hK.2 ⟨0,.data⟩ (by simp) rfl _ rfl;have h1:ac.tmps.getD 17 undef=(.agg (pw b)):=hK.2 ⟨1,.data⟩ (by simp) rfl _ rfl;refine mm_call 100 #[ac.tmps.getD 16 undef,ac.tmps.getD 17 undef] ((.agg (pw d))) rfl (by kernel_rfl) (by kernel_rfl) ?_ hC (by kernel_rfl) (by rw[hsz];exact of_decide_eq_true (by kernel_rfl)) rfl;rw[h0,h1];exact HMI.out wx
   ·intro ac wx hC hsz hK
    have h0:ac.tmps.getD 0 undef=(.pointer (some ⟨G,0,none⟩)):=hK.1 0 (by kernel_rfl);exact mm_val ((.pointer (some ⟨G,0,none⟩))) rfl (by kernel_rfl) (by rw[<- h0];kernel_rfl) hC (by kernel_rfl) (by rw[hsz];exact of_decide_eq_true (by kernel_rfl)) rfl
   ·intro ac wx hC hsz hK
    have h0:ac.tmps.getD 19 undef=(.pointer (some ⟨G,0,none⟩)):=hK.2 ⟨3,.data⟩ (by simp) rfl _ rfl;exact mm_val ((.pointer (some ⟨G,0,none⟩))) rfl (by kernel_rfl) (run_nil (.tmp 19) _ rfl h0) hC (by kernel_rfl) (by rw[hsz];exact of_decide_eq_true (by kernel_rfl)) rfl
   ·intro ac wx hC hsz hK
    have h0:ac.tmps.getD 20 undef=(.pointer (some ⟨G,0,none⟩)):=hK.2 ⟨4,.data⟩ (by simp) rfl _ rfl;refine mm_sem (Instr.fieldAt 109 (ac.tmps.getD 20 undef) 0) ((.pointer (some ⟨G,0,none⟩))) rfl (by kernel_rfl) (by kernel_rfl) ?_ hC (by kernel_rfl) (by rw[hsz];exact of_decide_eq_true (by kernel_rfl)) rfl;rw[h0];exact(rf_at G wx).1
   ·intro ac wx hC hsz hK
    have h0:ac.tmps.getD 21 undef=(.pointer (some ⟨G,0,none⟩)):=hK.2 ⟨5,.data⟩ (by simp) rfl _ rfl;exact mm_load 24 (.tmp 21) ((.pointer (some ⟨G,0,none⟩))) ((.agg (pw m))) rfl rfl (by kernel_rfl) h0 (ld_rm (H1.out.below hC.1).fld) hC (by kernel_rfl) (by rw[hsz];exact of_decide_eq_true (by kernel_rfl)) rfl
   ·intro ac wx hC hsz hK
    have h0:ac.tmps.getD 18 undef=(.agg (pw d)):=hK.2 ⟨2,.data⟩ (by simp) rfl _ rfl;have h1:ac.tmps.getD 22 undef=(.agg (pw m)):=hK.2 ⟨6,.data⟩ (by simp) rfl _ rfl;refine mm_call 98 #[ac.tmps.getD 18 undef,ac.tmps.getD 22 undef] ((.tuple #[.agg (pw y),.bool ov])) rfl (by kernel_rfl) (by kernel_rfl) ?_ hC (by kernel_rfl) (by rw[hsz];exact of_decide_eq_true (by kernel_rfl)) rfl;rw[h0,h1];exact HPL.out wx
   ·intro ac wx hC hsz hK
    have h0:ac.tmps.getD 23 undef=(.tuple #[.agg (pw y),.bool ov]):=hK.2 ⟨7,.data⟩ (by simp) rfl _ rfl;exact mm_val ((.tuple #[.agg (pw y),.bool ov])) rfl (by kernel_rfl) (by rw[<- h0];kernel_rfl) hC (by kernel_rfl) (by rw[hsz];exact of_decide_eq_true (by kernel_rfl)) rfl
   ·intro ac wx hC hsz hK
    have h0:ac.tmps.getD 15 undef=(.tuple #[.agg (pw y),.bool ov]):=hK.2 ⟨8,.data⟩ (by simp) rfl _ rfl;refine mm_sem (Instr.extract (ac.tmps.getD 15 undef) 0) ((.agg (pw y))) rfl (by kernel_rfl) (by kernel_rfl) ?_ hC (by kernel_rfl) (by rw[hsz];exact of_decide_eq_true (by kernel_rfl)) rfl;rw[h0];exact(by kernel_rfl)
   ·intro ac wx hC hsz hK
    have h0:ac.tmps.getD 15 undef=(.tuple #[.agg (pw y),.bool ov]):=hK.2 ⟨8,.data⟩ (by simp) rfl _ rfl;refine mm_sem (Instr.extract (ac.tmps.getD 15 undef) 1) ((.bool ov)) rfl (by kernel_rfl) (by kernel_rfl) ?_ hC (by kernel_rfl) (by rw[hsz];exact of_decide_eq_true (by kernel_rfl)) rfl;rw[h0];exact(by kernel_rfl)
   ·intro ac wx hC hsz hK
    exact mm_new 24 (#[.int .u64 0,.int .u64 0,.int .u64 0,.int .u64 0]) rfl (by kernel_rfl) (by kernel_rfl) hC (by rw[pw_size];rfl) (by rw[hsz];exact of_decide_eq_true (by kernel_rfl)) rfl
   ·intro ac wx hC hsz hK
    have h0:ac.tmps.getD 24 undef=(.agg (pw y)):=hK.2 ⟨9,.data⟩ (by simp) rfl _ rfl;exact mm_store (p:=7) 24 (.tmp 7) (.tmp 24) _ rfl rfl (by kernel_rfl) rfl h0 (by simp) (hK.2 ⟨11,.data⟩ (by simp) rfl _ rfl) (fun D cs h3 h4=>store_w (h4.trans (pw_size _)) h3) hC rfl
   ·intro ac wx hC hsz hK
    have h0:ac.tmps.getD 25 undef=(.bool ov):=hK.2 ⟨10,.data⟩ (by simp) rfl _ rfl;exact mm_val ((.bool ov)) rfl (by kernel_rfl) (by rw[<- h0];kernel_rfl) hC (by kernel_rfl) (by rw[hsz];exact of_decide_eq_true (by kernel_rfl)) rfl
  intro f1 w5 hb5 hap hf5;obtain⟨D7,s7,-,r7⟩:=hf5 12 _ rfl;have H5:=Lib.hid ((H1.out.below hb5).cons r7);clear hf5 hap hb5 H1 HMI HPL r7;generalize hAct:putAll _ _ _=A1 at *;have s7':A1.tmps.getD 7 undef=.pointer (some ⟨D7,0,none⟩):=s7;have s6:A1.tmps.getD 6 undef=.pointer (some ⟨w.heap.size+1+1,0,none⟩):=by subst hAct;kernel_rfl
  have hsz:A1.tmps.size=27:=by rw[<- hAct,putAll_size];rfl
  have hdf:A1.defers=[]:=by subst hAct;kernel_rfl
  clear hAct s7 f1;obtain⟨u0,t0⟩:∃ u,A1.tmps.getD 0 undef=u:=⟨_,rfl⟩
  obtain⟨u1,t1⟩:∃ u,A1.tmps.getD 1 undef=u:=⟨_,rfl⟩
  obtain⟨u2,t2⟩:∃ u,A1.tmps.getD 2 undef=u:=⟨_,rfl⟩
  obtain⟨u3,t3⟩:∃ u,A1.tmps.getD 3 undef=u:=⟨_,rfl⟩
  obtain⟨u4,t4⟩:∃ u,A1.tmps.getD 4 undef=u:=⟨_,rfl⟩
  obtain⟨u5,t5⟩:∃ u,A1.tmps.getD 5 undef=u:=⟨_,rfl⟩
  obtain⟨u8,t8⟩:∃ u,A1.tmps.getD 8 undef=u:=⟨_,rfl⟩
  obtain⟨u9,t9⟩:∃ u,A1.tmps.getD 9 undef=u:=⟨_,rfl⟩
  obtain⟨u10,t10⟩:∃ u,A1.tmps.getD 10 undef=u:=⟨_,rfl⟩
  obtain⟨u11,t11⟩:∃ u,A1.tmps.getD 11 undef=u:=⟨_,rfl⟩
  obtain⟨u12,t12⟩:∃ u,A1.tmps.getD 12 undef=u:=⟨_,rfl⟩
  obtain⟨u13,t13⟩:∃ u,A1.tmps.getD 13 undef=u:=⟨_,rfl⟩
  obtain⟨u14,t14⟩:∃ u,A1.tmps.getD 14 undef=u:=⟨_,rfl⟩
  obtain⟨u15,t15⟩:∃ u,A1.tmps.getD 15 undef=u:=⟨_,rfl⟩
  obtain⟨u16,t16⟩:∃ u,A1.tmps.getD 16 undef=u:=⟨_,rfl⟩
  obtain⟨u17,t17⟩:∃ u,A1.tmps.getD 17 undef=u:=⟨_,rfl⟩
  obtain⟨u18,t18⟩:∃ u,A1.tmps.getD 18 undef=u:=⟨_,rfl⟩
  obtain⟨u19,t19⟩:∃ u,A1.tmps.getD 19 undef=u:=⟨_,rfl⟩
  obtain⟨u20,t20⟩:∃ u,A1.tmps.getD 20 undef=u:=⟨_,rfl⟩
  obtain⟨u21,t21⟩:∃ u,A1.tmps.getD 21 undef=u:=⟨_,rfl⟩
  obtain⟨u22,t22⟩:∃ u,A1.tmps.getD 22 undef=u:=⟨_,rfl⟩
  obtain⟨u23,t23⟩:∃ u,A1.tmps.getD 23 undef=u:=⟨_,rfl⟩
  obtain⟨u24,t24⟩:∃ u,A1.tmps.getD 24 undef=u:=⟨_,rfl⟩
  obtain⟨u25,t25⟩:∃ u,A1.tmps.getD 25 undef=u:=⟨_,rfl⟩
  obtain⟨u26,t26⟩:∃ u,A1.tmps.getD 26 undef=u:=⟨_,rfl⟩
  obtain⟨tm,df⟩:=A1;simp only at *;have hLt:=arr_litS tm;rw[hsz]at hLt;simp only[List.range,List.range.loop,List.map]at hLt;rw[t0,t1,t2,t3,t4,t5,s6,s7',t8,t9,t10,t11,t12,t13,t14,t15,t16,t17,t18,t19,t20,t21,t22,t23,t24,t25,t26]at hLt;subst hLt hdf;clear t0 t1 t2 t3 t4 t5 s6 s7' t8 t9 t10 t11 t12 t13 t14 t15 t16 t17 t18 t19 t20 t21 t22 t23 t24 t25 t26 hsz
  go_wp2_with (first | (refine wpList_ld rfl 24 _ rfl (.pointer (some ⟨D7,0,none⟩)) (.agg (pw y)) rfl (ld_pw (by exact H5.out.is _ _ (by simp))) ?_) | (refine wpList_store_row rfl 24 _ _ rfl (w.heap.size+1+1) (pw y) rfl rfl 24 (#[.int .u64 0,.int .u64 0,.int .u64 0,.int .u64 0]) (by exact H5.out.is _ _ (by simp)) (by rw[pw_size];exact infoW4) (by first | rfl | (rw[pw_size];rfl) | (rw[pw_size,pw_size])) (pw_one _) ?_))
  (try simp only[Act.put])
  refine bodyPost_ret (v:=.agg (pw y)) (results_cell_row (p:=6) rfl _ _ (w.heap.size+1+1) 24 (pw y) (0,0) _ rfl (setRow_heap _ _ _ _ _ _ (by exact H5.out.is _ (#[.int .u64 0,.int .u64 0,.int .u64 0,.int .u64 0]) (by simp))) Tryz.underlying24 rfl (by rw[pw_size];exact infoW4)) rfl ⟨by rw[HQ.out],below_setRow H5.out.old (by omega) _⟩
def vq(f:Nat->Nat):Nat->Nat
 | 0=>0
 | n+1=>vq f n+2^(32*n)*f n
theorem vq_congr{f g:Nat->Nat}:∀ {n:Nat},(∀ j,j<n->f j=g j)->vq f n=vq g n
 | 0,_=>rfl
 | n+1,h=>by
  show vq f n+_=vq g n+_;rw[vq_congr (fun j hj=>h j (by omega)),h n (by omega)]
theorem p32(n:Nat):2^(32*(n+1))=2^(32*n)*4294967296:=by rw[show 32*(n+1)=32*n+32 by omega,Nat.pow_add]
theorem vq_lt{f:Nat->Nat}:∀ {n:Nat},(∀ j,j<n->f j<4294967296)->vq f n<2^(32*n)
 | 0,_=>by simp[vq]
 | n+1,h=>by
  have h1:=vq_lt (n:=n) (fun j hj=>h j (by omega));have h2:=Nat.mul_le_mul_left (2^(32*n)) (h n (by omega));rw[Nat.succ_eq_add_one,Nat.mul_add,Nat.mul_one]at h2;show vq f n+_<_;rw[p32];omega
theorem vq_qN(x:Nat):∀ n,vq (qN x) n=x%2^256%2^(32*n)
 | 0=>by simp[vq,Nat.mod_one]
 | n+1=>by
  show vq (qN x) n+_=_;rw[vq_qN x n,p32,Nat.mod_mul];rfl
theorem vq_8{x:Nat}(h:x<2^256):vq (qN x) 8=x:=by
 rw[vq_qN,Nat.mod_eq_of_lt h,Nat.mod_eq_of_lt (Nat.lt_of_lt_of_le h (by decide))]
theorem updN_ge{f:Nat->Nat}{p v n:Nat}(h:n<=p):vq (updN f p v) n=vq f n:=vq_congr fun j hj=>by unfold updN;rw[if_neg (by omega)]
theorem updN_at(f:Nat->Nat)(p v:Nat):updN f p v p=v:=by unfold updN;rw[if_pos rfl]
theorem updN_ne(f:Nat->Nat)(p v:Nat){j:Nat}(h:j≠p):updN f p v j=f j:=by unfold updN;rw[if_neg h]
structure In1 (f0 x:Nat->Nat) (y j c:Nat) (f:Nat->Nat):Prop where
 lo:∀ k,k<j->f k<4294967296
 hi:∀ k,j<=k->f k=f0 k
 eq:vq f j+2^(32*j)*c=vq f0 j+vq x j*y
 cl:c<4294967296
theorem In1.start(f0 x:Nat->Nat)(y:Nat):In1 f0 x y 0 0 f0:=⟨fun k h=>by omega,fun _ _=>rfl,by simp[vq],by omega⟩
theorem In1.big{f0 x:Nat->Nat}{y j c:Nat}{f:Nat->Nat}(h:In1 f0 x y j c f)(h0:f0 j<4294967296)(hx:x j<4294967296)(hy:y<4294967296):x j*y<=4294967295*4294967295/\c+f0 j+x j*y<18446744073709551616:=by
 have h1:x j*y<=4294967295*4294967295:=Nat.mul_le_mul (by omega) (by omega);have:=h.cl;exact⟨h1,by omega⟩
theorem In1.step{f0 x:Nat->Nat}{y j c d:Nat}{f:Nat->Nat}(h:In1 f0 x y j c f)(h0:f0 j<4294967296)(hx:x j<4294967296)(hy:y<4294967296)(hd:c+f0 j+x j*y=d):In1 f0 x y (j+1) (d / 4294967296) (updN f j (d%4294967296)):=by
 have hb:=(h.big h0 hx hy).2;have he:=h.eq;refine⟨fun k hk=>?_,fun k hk=>?_,?_,by omega⟩
 ·by_cases e:k=j
  ·subst e;rw[updN_at];omega
  ·rw[updN_ne _ _ _ e];exact h.lo k (by omega)
 ·rw[updN_ne _ _ _ (by omega)];exact h.hi k (by omega)
 ·show vq (updN f j _) j+2^(32*j)*updN f j _ j+_=vq f0 j+2^(32*j)*f0 j+(vq x j+2^(32*j)*x j)*y
  rw[updN_ge (Nat.le_refl _),updN_at,p32];obtain⟨P,hP⟩:∃ P,2^(32*j)=P:=⟨_,rfl⟩
  rw[hP]at he |-
  have h1:P*(d%4294967296)+P*4294967296*(d / 4294967296)=P*d:=by
   rw[Nat.mul_assoc,<- Nat.mul_add,Nat.mod_add_div]
  have h2:P*d=P*c+P*f0 j+P*(x j*y):=by rw[<- hd,Nat.mul_add,Nat.mul_add]
  have h3:(vq x j+P*x j)*y=vq x j*y+P*(x j*y):=by rw[Nat.add_mul,Nat.mul_assoc]
  omega
structure In2 (f1 p:Nat->Nat) (k i c:Nat) (g:Nat->Nat):Prop where
 lo:∀ a,a<i->g a<4294967296
 hi:∀ a,i<=a->g a=f1 a
 eq:4294967296*(vq g i+2^(32*i)*c)=vq f1 (i+1)+k*vq p (i+1)
 cl:c<4294967296
theorem In2.start{f1 p:Nat->Nat}{k d c:Nat}(hd:f1 0+k*p 0=d)(hm:d%4294967296=0)(hb:d<18446744073709551616)(hc:d / 4294967296=c):In2 f1 p k 0 c f1:=by
 refine⟨fun a h=>by omega,fun _ _=>rfl,?_,by omega⟩;simp only[vq,Nat.mul_zero,Nat.pow_zero,Nat.one_mul,Nat.zero_add];omega
theorem In2.big{f1 p:Nat->Nat}{k i c:Nat}{g:Nat->Nat}(h:In2 f1 p k i c g)(h0:f1 (i+1)<4294967296)(hp:p (i+1)<4294967296)(hk:k<4294967296):k*p (i+1)<=4294967295*4294967295/\c+f1 (i+1)+k*p (i+1)<18446744073709551616:=by
 have h1:k*p (i+1)<=4294967295*4294967295:=Nat.mul_le_mul (by omega) (by omega);have:=h.cl;exact⟨h1,by omega⟩
theorem In2.step{f1 p:Nat->Nat}{k i c d:Nat}{g:Nat->Nat}(h:In2 f1 p k i c g)(h0:f1 (i+1)<4294967296)(hp:p (i+1)<4294967296)(hk:k<4294967296)(hd:c+f1 (i+1)+k*p (i+1)=d):In2 f1 p k (i+1) (d / 4294967296) (updN g i (d%4294967296)):=by
 have hb:=(h.big h0 hp hk).2;have he:=h.eq;refine⟨fun a ha=>?_,fun a ha=>?_,?_,by omega⟩
 ·by_cases e:a=i
  ·subst e;rw[updN_at];omega
  ·rw[updN_ne _ _ _ e];exact h.lo a (by omega)
 ·rw[updN_ne _ _ _ (by omega)];exact h.hi a (by omega)
 ·show 4294967296*(vq (updN g i _) i+2^(32*i)*updN g i _ i+_)=vq f1 (i+1)+2^(32*(i+1))*f1 (i+1)+k*(vq p (i+1)+2^(32*(i+1))*p (i+1))
  rw[updN_ge (Nat.le_refl _),updN_at,p32];obtain⟨P,hP⟩:∃ P,2^(32*i)=P:=⟨_,rfl⟩
  rw[hP]at he |-
  have h1:P*(d%4294967296)+P*4294967296*(d / 4294967296)=P*d:=by
   rw[Nat.mul_assoc,<- Nat.mul_add,Nat.mod_add_div]
  have h2:P*d=P*c+P*f1 (i+1)+P*(k*p (i+1)):=by rw[<- hd,Nat.mul_add,Nat.mul_add]
  have h3:k*(vq p (i+1)+P*4294967296*p (i+1))=k*vq p (i+1)+4294967296*(P*(k*p (i+1))):=by
   rw[Nat.mul_add];congr 1;rw[Nat.mul_comm P 4294967296,Nat.mul_assoc,Nat.mul_left_comm k,Nat.mul_left_comm k]
  have h4:P*4294967296*f1 (i+1)=4294967296*(P*f1 (i+1)):=by rw[Nat.mul_comm P,Nat.mul_assoc]
  omega
structure CutI (m x:Nat) (y:Nat->Nat) (i:Nat) (f:Nat->Nat):Prop where
 lo:∀ j,j<8->f j<4294967296
 lt:vq f 9<x+m
 eq:∃ K,2^(32*i)*vq f 9=x*vq y i+K*m/\K<2^(32*i)
theorem CutI.top{m x i:Nat}{y f:Nat->Nat}(h:CutI m x y i f)(hx:x<2^256)(hm:m<2^256):f 8<=1:=by
 have h1:=h.lt;have h2:vq f 9=vq f 8+2^256*f 8:=rfl;omega
theorem CutI.start{m:Nat}(x:Nat)(y:Nat->Nat)(hm:0<m):CutI m x y 0 (fun _=>0):=by
 have h:∀ n,vq (fun _=>0) n=0:=fun n=>by
  induction n with
  | zero=>rfl
  | succ n ih=>show vq _ n+_=0;rw[ih];simp
 exact⟨fun _ _=>by omega,by rw[h];omega,0,by rw[h];simp[vq],Nat.pow_pos (by omega)⟩
theorem CutI.step{m x i c c2 e e2 k:Nat}{y f f1 g:Nat->Nat}(h:CutI m x y i f)(hx:x<2^256)(hm:m<2^256)(hy:y i<4294967296)(hk:k<4294967296)
  (h1:In1 f (qN x) (y i) 8 c f1) (hd:c+f1 8=e) (h2:In2 (updN (updN f1 8 (e%4294967296)) 9 (e / 4294967296)) (qN m) k 7 c2 g) (he:c2+g 8=e2):CutI m x y (i+1) (updN (updN g 7 (e2%4294967296)) 8 (g 9+e2 / 4294967296)):=by
 obtain⟨K,hK,hKl⟩:=h.eq;have ht:=h.top hx hm;have hl:=h.lt;have e1:=h1.eq;rw[vq_8 hx]at e1;have q2:=h2.eq;rw[vq_8 hm]at q2;obtain⟨F,hF⟩:∃ F,updN (updN f1 8 (e%4294967296)) 9 (e / 4294967296)=F:=⟨_,rfl⟩
 have F8:F 8=e%4294967296:=by rw[<- hF,updN_ne _ _ _ (by omega),updN_at]
 have F9:F 9=e / 4294967296:=by rw[<- hF,updN_at]
 have FV:vq F 8=vq f1 8:=by rw[<- hF,updN_ge (by omega),updN_ge (by omega)]
 rw[hF]at h2 q2;have g8:g 8=F 8:=h2.hi 8 (by omega);have g9:g 9=F 9:=h2.hi 9 (by omega);have f18:f1 8=f 8:=h1.hi 8 (by omega);obtain⟨U,hU⟩:∃ U,updN (updN g 7 (e2%4294967296)) 8 (g 9+e2 / 4294967296)=U:=⟨_,rfl⟩
 have U7:U 7=e2%4294967296:=by rw[<- hU,updN_ne _ _ _ (by omega),updN_at]
 have U8:U 8=g 9+e2 / 4294967296:=by rw[<- hU,updN_at]
 have UV:vq U 7=vq g 7:=by rw[<- hU,updN_ge (by omega),updN_ge (by omega)]
 rw[hU];have d9:vq U 9=vq g 7+2^224*(e2%4294967296)+2^256*(g 9+e2 / 4294967296):=by
  show vq U 7+2^(32*7)*U 7+2^(32*8)*U 8=_;rw[UV,U7,U8]
 have df:vq f 9=vq f 8+2^256*f 8:=rfl;simp only[Nat.reduceMul,Nat.reducePow]at e1 q2 d9;have key:4294967296*vq U 9=vq f 9+x*y i+k*m:=by
  rw[d9,df];rw[FV]at q2;omega
 have a1:x*y i<=x*4294967295:=Nat.mul_le_mul (Nat.le_refl _) (by omega);have a2:k*m<=4294967295*m:=Nat.mul_le_mul (by omega) (Nat.le_refl _);refine⟨fun j hj=>?_,by omega,K+2^(32*i)*k,?_,?_⟩
 ·rw[<- hU,updN_ne _ _ _ (by omega)]
  by_cases q:j=7
  ·subst q;rw[updN_at];omega
  ·rw[updN_ne _ _ _ q];exact h2.lo j (by omega)
 ·show _=x*(vq y i+2^(32*i)*y i)+_
  rw[p32,Nat.mul_assoc,key];obtain⟨P,hP⟩:∃ P,2^(32*i)=P:=⟨_,rfl⟩
  rw[hP]at hK |-
  rw[Nat.mul_add,Nat.mul_add,hK,Nat.mul_add,Nat.add_mul,Nat.mul_left_comm x P,Nat.mul_assoc P k m];omega
 ·rw[p32]
  have hPk:2^(32*i)*k<=2^(32*i)*4294967295:=Nat.mul_le_mul (Nat.le_refl _) (by omega);omega
theorem CutI.done{m x y:Nat}{f:Nat->Nat}(h:CutI m x (qN y) 8 f)(hm:m<2^256)(h1:1<m)(ho:m%2=1)(hy:y<2^256)(hxy:x*y<2^256*m):vq f 9%m=mnt m x y/\vq f 9<2*m:=by
 obtain⟨K,hK,hKl⟩:=h.eq;rw[vq_8 hy]at hK;simp only[Nat.reduceMul,Nat.reducePow]at hK hKl;have hKm:K*m<2^256*m:=Nat.mul_lt_mul_of_pos_right hKl (by omega);refine⟨mnt_uniq ho h1 (Nat.mod_lt _ (by omega)) ?_,by omega⟩;rw[mul_mod_l,Nat.mul_comm,hK,Nat.mul_comm K,Nat.add_mul_mod_self_left]
open Go.RowKit
def hw(f:Nat->Nat)(k p:Nat):Nat:=if 2*p+1<k then f (2*p)+4294967296*f (2*p+1)else if 2*p<k then f (2*p)else 0
theorem hw_zero(f:Nat->Nat):(ar .u64 4 fun j=>((hw f 0 j:Nat):Int))=#[.int .u64 0,.int .u64 0,.int .u64 0,.int .u64 0]:=by kernel_rfl
theorem hw_full(f:Nat->Nat)(hf:∀ j,j<8->f j<4294967296):(ar .u64 4 fun j=>((hw f 8 j:Nat):Int))=pw (vq f 8):=by
 have h0:=hf 0 (by omega);have h1:=hf 1 (by omega);have h2:=hf 2 (by omega);have h3:=hf 3 (by omega);have h4:=hf 4 (by omega);have h5:=hf 5 (by omega);have h6:=hf 6 (by omega);have h7:=hf 7 (by omega);rw[pw_ar];refine ar_congr fun j hj=>?_;have e:vq f 8=f 0+4294967296*f 1+18446744073709551616*f 2+79228162514264337593543950336*f 3+340282366920938463463374607431768211456*f 4+1461501637330902918203684832716283019655932542976*f 5+6277101735386680763835789423207666416102355444464034512896*f 6+26959946667150639794667015087019630673637144422540572481103610249216*f 7:=by
  simp only[vq,Nat.reduceMul,Nat.reducePow];omega
 have:hw f 8 j=pN (vq f 8) j:=by
  unfold hw pN;rw[if_pos (by omega),e];have:j=0\/j=1\/j=2\/j=3:=by omega
  rcases this with rfl | rfl | rfl | rfl <;> simp only[Nat.reduceMul,Nat.reduceAdd,Nat.reducePow] <;> omega
 rw[this]
theorem hw_next(f:Nat->Nat)(k p r:Nat)(hk:k=2*p+r)(hr:r<2)(j:Nat):hw f (k+1) j=if j=p then hw f k p+2^(32*r)*f k else hw f k j:=by
 unfold hw;by_cases e:j=p
 ·subst e
  have:r=0\/r=1:=by omega
  rcases this with rfl | rfl
  ·rw[if_neg (by omega),if_pos (by omega),if_pos rfl,if_neg (by omega),if_neg (by omega)]
   simp at hk;rw[hk];simp
  ·rw[if_pos (by omega),if_pos rfl,if_neg (by omega),if_pos (by omega),hk]
 ·rw[if_neg e]
  by_cases h1:2*j+1<k
  ·rw[if_pos (by omega),if_pos h1]
  ·rw[if_neg h1]
   by_cases h2:2*j<k
   ·rw[if_pos h2,if_neg (by omega),if_pos (by omega)]
   ·rw[if_neg h2,if_neg (by omega),if_neg (by omega)]
theorem hw_low(f:Nat->Nat)(k p r:Nat)(hk:k=2*p+r)(hr:r<2)(hf:∀ j,j<8->f j<4294967296)(h8:k<8):hw f k p<2^(32*r):=by
 unfold hw;have:r=0\/r=1:=by omega
 rcases this with rfl | rfl
 ·rw[if_neg (by omega),if_neg (by omega)];simp
 ·rw[if_neg (by omega),if_pos (by omega)];have:=hf (2*p) (by omega);simpa using this
theorem or_up64{D x s:Nat}(hx:x<4294967296)(hs:s<=32)(hD:D<2^s):bits .or .u64 (D:Int) ((2^s*x:Nat):Int)=((D+2^s*x:Nat):Int)/\IntKind.u64.wrap ((x:Int)*2^s)=((2^s*x:Nat):Int):=by
 have hp:2^s<=2^32:=Nat.pow_le_pow_right (by omega) hs;have h1:2^s*x<=2^32*4294967295:=Nat.mul_le_mul hp (by omega);constructor
 ·rw[bits_or_u64_nat _ _ (by omega) (by omega),Nat.or_comm,<- Nat.two_pow_add_eq_or_of_lt hD,Nat.add_comm]
 ·have e:(x:Int)*2^s=((2^s*x:Nat):Int):=by simp[Int.mul_comm]
  rw[e,IntKind.wrap_u64];omega
structure CWh (w:World) (f:Nat->Nat) (k:Nat) (wx:World):Prop where
 old:Below w.heap.size w wx
 ra:wx.heap[w.heap.size]?=some (.cells (ar .u64 8 fun j=>((f j:Nat):Int)) 106 (0,0))
 rr:wx.heap[w.heap.size+1]?=some (.cells (#[.int .u64 0,.int .u64 0,.int .u64 0,.int .u64 0]) 24 (0,0))
 rp:wx.heap[w.heap.size+1+1]?=some (.cells (ar .u64 4 fun j=>((hw f k j:Nat):Int)) 24 (0,0))
theorem CWh.drew{w wx:World}{f:Nat->Nat}{k:Nat}(c:CWh w f k wx):CWh w f k wx.drew:=⟨c.old.drew,c.ra,c.rr,c.rp⟩
theorem CWh.put{w wx:World}{f:Nat->Nat}{k p r v:Nat}(c:CWh w f k wx)(hk:k=2*p+r)(hr:r<2)(h8:k<8)(hv:v=hw f k p+2^(32*r)*f k):CWh w f (k+1) (wx.setCell ⟨w.heap.size+1+1,p,none⟩ (.int .u64 (v:Nat))):=by
 subst hv;refine⟨c.old.setCell (by simp;omega) _,(heap_setCell_other _ _ _ _ (by simp;omega)).trans c.ra,(heap_setCell_other _ _ _ _ (by simp)).trans c.rr,?_⟩;refine(heap_setCell_same _ _ _ _ _ _ c.rp).trans ?_;rw[ar_set _ _ _ _ _ (by omega)];congr 2;refine ar_congr fun j _=>?_;unfold updI;rw[hw_next f k p r hk hr j];by_cases e:j=p
 ·rw[if_pos e,if_pos e]
 ·rw[if_neg e,if_neg e]
theorem CWh.start(w:World)(f:Nat->Nat):CWh w f 0 (((w.alloc (.cells (ar .u64 8 fun j=>((f j:Nat):Int)) 106)).alloc (.cells (#[.int .u64 0,.int .u64 0,.int .u64 0,.int .u64 0]) 24)).alloc (.cells (#[.int .u64 0,.int .u64 0,.int .u64 0,.int .u64 0]) 24)):=by
 refine⟨(((Below.refl _ _).alloc (Nat.le_refl _) _).alloc (by simp) _).alloc (by simp;omega) _,?_,?_,?_⟩
 ·rw[Below.heap_alloc _ _ _ (by simp;omega),Below.heap_alloc _ _ _ (by simp),heap_alloc_new]
 ·rw[Below.heap_alloc _ _ _ (by simp)]
  have:=heap_alloc_new (w.alloc (.cells (ar .u64 8 fun j=>((f j:Nat):Int)) 106)) (.cells (#[.int .u64 0,.int .u64 0,.int .u64 0,.int .u64 0]) 24);rwa [World.size_alloc]at this
 ·rw[hw_zero]
  have:=heap_alloc_new ((w.alloc (.cells (ar .u64 8 fun j=>((f j:Nat):Int)) 106)).alloc (.cells (#[.int .u64 0,.int .u64 0,.int .u64 0,.int .u64 0]) 24)) (.cells (#[.int .u64 0,.int .u64 0,.int .u64 0,.int .u64 0]) 24);rwa [World.size_alloc,World.size_alloc]at this
theorem rwhole_any(f:Nat->Nat)(hf:∀ j,j<8->f j<4294967296)(w:World):Calls Tryz.prog 136 #[.agg (ar .u64 8 fun j=>((f j:Nat):Int))] w fun e w'=>e=.returned (.agg (pw (vq f 8)))/\Below w.heap.size w w':=by
 have HI:Hid ((Tryz.prog.info? 24).map (·.size)=some (ar .u64 4 fun j=>((hw f 8 j:Nat):Int)).size):=Lib.hid (by rw[ar_size];exact infoW4);have HR:=Lib.hid (CWh.start w f);have HF:=Lib.hid hf;have HE:=Lib.hid (hw_full f hf);clear hf;go_enter Tryz.func136,Tryz.ntmps136
 go_wp2_with fail
 go_loopw [4] (fun iv wr=>∃ k:Nat,k<=8/\iv=.int .i64 k/\Hid (CWh w f k wr)) (fun iv _=>8 - (intOf iv).toNat)
 case atStart=>exact⟨0,by omega,rfl,HR⟩
 case round =>
  obtain⟨k,hk,rfl,H⟩:=hrel;clear HR;have hk0:(0:Int)<=k:=by omega
  have hk1:(k:Int)<=8:=by omega
  by_cases hlt:k<8
  ·obtain⟨p,hp⟩:∃ p:Nat,(k:Int) / 2=(p:Int):=⟨k / 2,by omega⟩
   obtain⟨r,hr⟩:∃ r:Nat,(k:Int)%2=(r:Int):=⟨k%2,by omega⟩
   obtain⟨s,hs⟩:∃ s:Nat,32*(r:Int)=(s:Int):=⟨32*r,by omega⟩
   have hp0:(0:Int)<=p:=by omega
   have hp1:(p:Int)<4:=by omega
   have hs0:(0:Int)<=s:=by omega
   have hs1:(s:Int)<64:=by omega
   have hlt':(k:Int)<8:=by omega
   have hkp:k=2*p+r:=by omega
   have hr2:r<2:=by omega
   have ca:wr.cell? ⟨w.heap.size,k,none⟩=some (.int .u64 (f k:Nat)):=(cell_of_row _ _ k _ _ _ H.out.ra).trans (ar_at _ _ _ _ (by omega));have co:wr.cell? ⟨w.heap.size+1+1,p,none⟩=some (.int .u64 (hw f k p:Nat)):=(cell_of_row _ _ p _ _ _ H.out.rp).trans (ar_at _ _ _ _ (by omega));have fo:wr.frozen? ⟨w.heap.size+1+1,p,none⟩=false:=frozen_of_row wr _ p _ _ H.out.rp;have hlow:=hw_low f k p r hkp hr2 HF.out hlt;have hfk:=HF.out k hlt;rw[show 32*r=s by omega]at hlow;obtain⟨hor,hw1⟩:=or_up64 hfk (show s<=32 by omega) hlow;obtain⟨X,hX⟩:∃ X,2^s*f k=X:=⟨_,rfl⟩
   rw[hX]at hor hw1;have HY:=Lib.hid (show hw f k p+X=hw f k p+2^(32*r)*f k from by rw[<- hX,show 32*r=s by omega]);obtain⟨x,hx⟩:∃ x,f k=x:=⟨_,rfl⟩
   obtain⟨o,ho⟩:∃ o,hw f k p=o:=⟨_,rfl⟩
   rw[hx]at hw1 ca;rw[ho]at co hor;have HV:=Lib.hid hor;have HK:=Lib.hid (And.intro hlt (And.intro hkp (And.intro hr2 ho)));clear hor hfk hlow hX hx ho hkp hr2 hlt hk
   go_wp2_with fail
   go_region
   go_wp2_with fail
   go_roundw
   case rel=>exact⟨k+1,by have:=HK.out.1;omega,by go_num,Lib.hid (by rw[HV.out];exact H.out.drew.put HK.out.2.1 HK.out.2.2.1 HK.out.1 (by rw[<- HY.out,HK.out.2.2.2]))⟩
   case measure=>have:=HK.out.1;simp[intOf];omega
  ·obtain rfl:k=8:=by omega
   go_wp2_with (first | (refine wpList_load_row rfl 24 _ rfl (w.heap.size+1+1) rfl 24 _ (0,0) _ H.out.rp Tryz.underlying24 rfl HI.out ?_) | (refine wpList_store_row rfl 24 _ _ rfl (w.heap.size+1) (ar .u64 4 fun j=>((hw f 8 j:Nat):Int)) rfl rfl 24 _ (by exact H.out.rr) HI.out (by rw[ar_size];rfl) (ar_one _ _ _) ?_))
   refine bodyPost_ret (v:=.agg (ar .u64 4 fun j=>((hw f 8 j:Nat):Int))) (results_cell_row (p:=2) rfl _ _ (w.heap.size+1) 24 _ (0,0) _ rfl (setRow_heap _ _ _ _ _ _ H.out.rr) Tryz.underlying24 rfl HI.out) rfl ⟨by rw[HE.out],below_setRow H.out.old (by omega) _⟩
open Go.RowKit
structure CCt (w:World) (G m lo sq a b d7 d8 d9:Nat) (f:Nat->Nat) (wx:World):Prop where
 old:Below w.heap.size w wx
 fld:RFat wx G m lo sq
 hG:G<w.heap.size
 rr:wx.heap[w.heap.size+1+1]?=some (.cells (#[.int .u64 0,.int .u64 0,.int .u64 0,.int .u64 0]) 24 (0,0))
 rx:wx.heap[d7]?=some (.cells (ar .u64 8 fun j=>((qN a j:Nat):Int)) 106 (0,0))
 ry:wx.heap[d8]?=some (.cells (ar .u64 8 fun j=>((qN b j:Nat):Int)) 106 (0,0))
 rt:wx.heap[d9]?=some (.cells (ar .u64 10 fun j=>((f j:Nat):Int)) 166 (0,0))
 h9:w.heap.size+1+1<d9
 n7:d7≠d9
 n8:d8≠d9
section
variable {w wx w':World} {G m lo sq a b d7 d8 d9:Nat} {f:Nat->Nat}
theorem CCt.below(c:CCt w G m lo sq a b d7 d8 d9 f wx)(hb:Below wx.heap.size wx w'):CCt w G m lo sq a b d7 d8 d9 f w' :=
 ⟨c.old.trans (hb.mono c.old.size),c.fld.below hb,c.hG,(hb.block _ (Array.getElem?_eq_some_iff.1 c.rr).1).trans c.rr,(hb.block _ (Array.getElem?_eq_some_iff.1 c.rx).1).trans c.rx,(hb.block _ (Array.getElem?_eq_some_iff.1 c.ry).1).trans c.ry,(hb.block _ (Array.getElem?_eq_some_iff.1 c.rt).1).trans c.rt,c.h9,c.n7,c.n8⟩
theorem CCt.drew(c:CCt w G m lo sq a b d7 d8 d9 f wx):CCt w G m lo sq a b d7 d8 d9 f wx.drew:=c.below (Below.drew (Below.refl _ _))
theorem CCt.cx(c:CCt w G m lo sq a b d7 d8 d9 f wx)(j:Nat)(hj:j<8):wx.cell? ⟨d7,j,none⟩=some (.int .u64 (qN a j:Nat)):=(cell_of_row _ _ j _ _ _ c.rx).trans (ar_at _ _ _ _ hj)
theorem CCt.cy(c:CCt w G m lo sq a b d7 d8 d9 f wx)(j:Nat)(hj:j<8):wx.cell? ⟨d8,j,none⟩=some (.int .u64 (qN b j:Nat)):=(cell_of_row _ _ j _ _ _ c.ry).trans (ar_at _ _ _ _ hj)
theorem CCt.ct(c:CCt w G m lo sq a b d7 d8 d9 f wx)(j:Nat)(hj:j<10):wx.cell? ⟨d9,j,none⟩=some (.int .u64 (f j:Nat)):=(cell_of_row _ _ j _ _ _ c.rt).trans (ar_at _ _ _ _ hj)
theorem CCt.cq(c:CCt w G m lo sq a b d7 d8 d9 f wx)(j:Nat)(hj:j<8):wx.cell? ⟨G,4+j,none⟩=some (.int .u64 (qN m j:Nat)):=(c.fld.cell (4+j) (by omega)).trans (by rw[rfw_q _ _ _ _ hj])
theorem CCt.cl(c:CCt w G m lo sq a b d7 d8 d9 f wx):wx.cell? ⟨G,12,none⟩=some (.int .u64 (lo:Nat)):=(c.fld.cell 12 (by omega)).trans (by rw[rfw_lo])
theorem CCt.fz(c:CCt w G m lo sq a b d7 d8 d9 f wx)(j:Nat):wx.frozen? ⟨d9,j,none⟩=false:=frozen_of_row wx _ j _ _ c.rt
theorem ar_upd(n:Nat)(f:Nat->Nat)(j v:Nat)(h:j<n):(ar .u64 n fun j=>((f j:Nat):Int)).setIfInBounds j (.int .u64 (v:Nat))=ar .u64 n fun i=>((updN f j v i:Nat):Int):=by
 rw[ar_set _ _ _ _ _ h];refine ar_congr fun i _=>?_;unfold updI updN;by_cases e:i=j
 ·rw[if_pos e,if_pos e]
 ·rw[if_neg e,if_neg e]
theorem CCt.put(c:CCt w G m lo sq a b d7 d8 d9 f wx)(j v:Nat)(hj:j<10):CCt w G m lo sq a b d7 d8 d9 (updN f j v) (wx.setCell ⟨d9,j,none⟩ (.int .u64 (v:Nat))):=by
 have h9:=c.h9;have hG:=c.hG;refine⟨c.old.setCell (by simp;omega) _,(heap_setCell_other _ _ _ _ (by simp;omega)).trans c.fld,c.hG,(heap_setCell_other _ _ _ _ (by simp;omega)).trans c.rr,(heap_setCell_other _ _ _ _ (by simpa using c.n7)).trans c.rx,(heap_setCell_other _ _ _ _ (by simpa using c.n8)).trans c.ry,?_,c.h9,c.n7,c.n8⟩;refine(heap_setCell_same _ _ _ _ _ _ c.rt).trans ?_;rw[ar_upd _ _ _ _ hj]
end
theorem cut_low{F0 lo q0 k:Nat}(hl:(lo*q0+1)%4294967296=0)(hk:F0*lo%4294967296=k):(F0+k*q0)%4294967296=0:=by
 have h:(F0+k*q0)%4294967296=F0*(lo*q0+1)%4294967296:=by
  rw[<- hk,Nat.add_mod,Nat.mod_mul_mod,<- Nat.add_mod,Nat.mul_add,Nat.mul_one,Nat.mul_assoc,Nat.add_comm]
 rw[h,Nat.mul_mod,hl,Nat.mul_zero,Nat.zero_mod]
theorem info8r(f:Nat->Nat):(Tryz.prog.info? 106).map (·.size)=some (ar .u64 8 fun j=>((f j:Nat):Int)).size:=by rw[ar_size];exact info8
theorem info10:(Tryz.prog.info? 166).map (·.size)=some 10:=by kernel_rfl
theorem store_8{g:Nat}{f:Nat->Nat}{w:World}{cs:Array Value}(hs:cs.size=8)(hg:w.heap[g]?=some (.cells cs 106 (0,0))):(Instr.storeAt 106 (.pointer (some ⟨g,0,none⟩)) (.agg (ar .u64 8 fun j=>((f j:Nat):Int)))).run Tryz.prog w=.ok () (w.setRow g (ar .u64 8 fun j=>((f j:Nat):Int))):=by
 simp only[Instr.storeAt,Instr.sureAddr,Sem.run_bind,Sem.run_pure,Result.andThen_ok,run_storeVar_row w g 106 106 cs (ar .u64 8 fun j=>((f j:Nat):Int)) hg (info8r f) (by rw[hs,ar_size]) (ar_one _ _ _)]
theorem store_10{g:Nat}{f:Nat->Nat}{w:World}{cs:Array Value}(hs:cs.size=10)(hg:w.heap[g]?=some (.cells cs 166 (0,0))):(Instr.storeAt 166 (.pointer (some ⟨g,0,none⟩)) (.agg (ar .u64 10 fun j=>((f j:Nat):Int)))).run Tryz.prog w=.ok () (w.setRow g (ar .u64 10 fun j=>((f j:Nat):Int))):=by
 simp only[Instr.storeAt,Instr.sureAddr,Sem.run_bind,Sem.run_pure,Result.andThen_ok,run_storeVar_row w g 166 166 cs (ar .u64 10 fun j=>((f j:Nat):Int)) hg (by rw[ar_size];exact info10) (by rw[hs,ar_size]) (ar_one _ _ _)]
def prt(f:Nat->Nat)(k j:Nat):Nat:=if j<k then f j else 0
theorem prt_zero(f:Nat->Nat):(ar .u64 8 fun j=>((prt f 0 j:Nat):Int))=#[.int .u64 0,.int .u64 0,.int .u64 0,.int .u64 0,.int .u64 0,.int .u64 0,.int .u64 0,.int .u64 0]:=by kernel_rfl
theorem prt_next(f:Nat->Nat)(k:Nat):updN (prt f k) k (f k)=prt f (k+1):=by
 funext j
 unfold updN prt;by_cases e:j=k
 ·subst e;rw[if_pos rfl,if_pos (by omega)]
 ·rw[if_neg e]
  by_cases h:j<k
  ·rw[if_pos h,if_pos (by omega)]
  ·rw[if_neg h,if_neg (by omega)]
section
variable {w wx w':World} {G m lo sq a b d7 d8 d9:Nat} {f:Nat->Nat}
theorem CCt.far(c:CCt w G m lo sq a b d7 d8 d9 f wx){d:Nat}(h:G<d/\w.heap.size+1+1<d/\d7<d/\d8<d/\d9<d)(j:Nat)(v:Value):CCt w G m lo sq a b d7 d8 d9 f (wx.setCell ⟨d,j,none⟩ v) :=
 ⟨c.old.setCell (by simp;omega) _,(heap_setCell_other _ _ _ _ (by simp;omega)).trans c.fld,c.hG,(heap_setCell_other _ _ _ _ (by simp;omega)).trans c.rr,(heap_setCell_other _ _ _ _ (by simp;omega)).trans c.rx,(heap_setCell_other _ _ _ _ (by simp;omega)).trans c.ry,(heap_setCell_other _ _ _ _ (by simp;omega)).trans c.rt,c.h9,c.n7,c.n8⟩
theorem CCt.all(c:CCt w G m lo sq a b d7 d8 d9 f wx):G<wx.heap.size/\w.heap.size+1+1<wx.heap.size/\d7<wx.heap.size/\d8<wx.heap.size/\d9<wx.heap.size :=
 ⟨c.fld.less,(Array.getElem?_eq_some_iff.1 c.rr).1,(Array.getElem?_eq_some_iff.1 c.rx).1,(Array.getElem?_eq_some_iff.1 c.ry).1,(Array.getElem?_eq_some_iff.1 c.rt).1⟩
theorem prt_put{d k:Nat}(h:wx.heap[d]?=some (.cells (ar .u64 8 fun j=>((prt f k j:Nat):Int)) 106 (0,0)))(hk:k<8):(wx.setCell ⟨d,k,none⟩ (.int .u64 (f k:Nat))).heap[d]?=some (.cells (ar .u64 8 fun j=>((prt f (k+1) j:Nat):Int)) 106 (0,0)):=by
 refine(heap_setCell_same _ _ _ _ _ _ h).trans ?_;rw[ar_upd _ _ _ _ hk,prt_next]
end
structure CCu (w:World) (G m lo sq a b d7 d8 d9:Nat) (f:Nat->Nat) (g v:Nat) (wx:World):Prop where
 c:CCt w G m lo sq a b d7 d8 d9 f wx
 rv:wx.heap[g]?=some (.cells (pw v) 24 (0,0))
section
variable {w wx w':World} {G m lo sq a b d7 d8 d9 g v:Nat} {f:Nat->Nat}
theorem CCu.below(h:CCu w G m lo sq a b d7 d8 d9 f g v wx)(hb:Below wx.heap.size wx w'):CCu w G m lo sq a b d7 d8 d9 f g v w':=⟨h.c.below hb,(hb.block _ (Array.getElem?_eq_some_iff.1 h.rv).1).trans h.rv⟩
theorem CCu.drew(h:CCu w G m lo sq a b d7 d8 d9 f g v wx):CCu w G m lo sq a b d7 d8 d9 f g v wx.drew:=h.below (Below.drew (Below.refl _ _))
theorem CCu.calls{fn:FuncId}{args:Array Value}{r:Value}(h:∀ wx,Calls Tryz.prog fn args wx fun e w'=>e=.returned r/\Below wx.heap.size wx w'):∀ wx,CCu w G m lo sq a b d7 d8 d9 f g v wx->Calls Tryz.prog fn args wx fun e w'=>e=.returned r/\CCu w G m lo sq a b d7 d8 d9 f g v w' :=
 fun wx c=>(h wx).mono fun _ _ hh=>⟨hh.1,c.below hh.2⟩
theorem CCt.lay(c:CCt w G m lo sq a b d7 d8 d9 f wx)(v:Nat):CCu w G m lo sq a b d7 d8 d9 f wx.heap.size v ((wx.alloc (.cells (#[.int .u64 0,.int .u64 0,.int .u64 0,.int .u64 0]) 24)).setRow wx.heap.size (pw v)):=by
 have hb:Below wx.heap.size wx ((wx.alloc (.cells (#[.int .u64 0,.int .u64 0,.int .u64 0,.int .u64 0]) 24)).setRow wx.heap.size (pw v)):=below_setRow ((Below.refl _ _).alloc (Nat.le_refl _) _) (Nat.le_refl _) _;exact⟨c.below hb,setRow_heap _ _ _ _ _ _ (heap_alloc_new _ _)⟩
end
theorem ix_10(d:Nat)(w:World):(Instr.indexAt 166 (.pointer (some ⟨d,0,none⟩)) (.int .i64 8)).run Tryz.prog w=.ok (.pointer (some ⟨d,8,none⟩)) w:=by go_simp
theorem zero10:(ar .u64 10 fun j=>(((fun _=>0:Nat->Nat) j:Nat):Int))=#[.int .u64 0,.int .u64 0,.int .u64 0,.int .u64 0,.int .u64 0,.int .u64 0,.int .u64 0,.int .u64 0,.int .u64 0,.int .u64 0]:=by kernel_rfl
end Go.Proofs.YtadfjjfklihaaaaGreat
