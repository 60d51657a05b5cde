/- Identities for two points of the curve. (Cut to what is reached, written closely: RInv · RShr · RSqrt · RCub · Rsp · SyR · SyS · FSqrt · Kron · EcId · EcK · EcSm.) -/
import Derived.Test.YtfmpjjhdocejiaaGreatL9
import Derived.Test.YtfmpjjhdocejiaaGreatL7
import Derived.Test.YtfmpjjhdocejiaaGreatL4
import Derived.Test.YtfmpjjhdocejiaaGreatL8
set_option linter.all false
set_option maxRecDepth 100000
set_option maxHeartbeats 8000000
namespace Go.Proofs.YtfmpjjhdocejiaaGreat
open Go.RowKit
theorem rres_cell_tmp{P:Program}{fn:Func}{p u:Tmp}{ty:TypeId}{vb:Value}(h:fn.results=#[.cell p ty,.tmp u])(tmps:Array Value)(w:World)(g:Nat)(t:TypeId)(cs:Array Value)(fr:Nat × Nat)(d:TypeDesc)
  (hp:tmps.getD p undef=.pointer (some ⟨g,0,none⟩)) (hb:tmps.getD u undef=vb) (hg:w.heap[g]?=some (.cells cs t fr))
  (hu:P.underlying ty=some d) (hd:(match d with | .struct _ | .array _ _=>true | _=>false)=true) (hi:(P.info? ty).map (·.size)=some cs.size) :
  (results fn tmps).run P w=.ok (.tuple #[.agg cs,vb]) w:=by
 have hp':tmps[p]?.getD undef=.pointer (some ⟨g,0,none⟩):=by simpa using hp
 have hb':tmps[u]?.getD undef=vb:=by simpa using hb
 simp[results,h,hp',hb',asAddr,run_loadVar_row w g t ty cs fr d hg hu hd hi]
theorem rinv_w(G m a:Nat)(hal:a<2^256)(hm:m<2^256)(h1:1<m)(ho:m%2=1)(w:World)(hF:RFld w G m):Calls Tryz.prog 40 #[(.pointer (some ⟨G,0,none⟩)),.agg (pw a)] w fun r w'=>r=.returned (.tuple #[.agg (pw (if a*(a^(m - 2)%m)%m=1 then a^(m - 2)%m else 0)),.bool (decide (a*(a^(m - 2)%m)%m=1))])/\Below w.heap.size w w':=by
 obtain⟨lo,hll,hlo,hR⟩:=hF;obtain⟨sq,hsq⟩:∃ sq,2^256*2^256%m=sq:=⟨_,rfl⟩
 have HFL:=Lib.hid (show ∀ wx,RFat wx G m lo sq->RFld wx G m from fun wx h=>⟨lo,hll,hlo,by rw[hsq];exact h⟩);rw[hsq]at hR;have H0:=Lib.hid (CRf.one hR a);have HEX:=Lib.hid (fun wx (c:RFat wx G m lo sq)=>rexp_w G m a (m - 2) hal (by omega) hm h1 ho wx (HFL.out wx c));have HMI:=Lib.hid (fun wx=>minusW_any m 2 hm (by omega) wx);rw[show pw (m+2^256 - 2)=pw (m - 2) from pw_less (by omega)]at HMI;rw[show(pw 2:Array Value)=#[.int .u64 2,.int .u64 0,.int .u64 0,.int .u64 0] from rfl]at HMI;have hil:a^(m - 2)%m<m:=Nat.mod_lt _ (by omega);obtain⟨v,hv⟩:∃ v,a^(m - 2)%m=v:=⟨_,rfl⟩
 rw[hv]at HEX hil |-
 have HML:=Lib.hid (fun wx (c:RFat wx G m lo sq)=>rmul_w G m a v hal (Nat.lt_trans hil hm) hm h1 ho wx (HFL.out wx c));obtain⟨u,hu⟩:∃ u,a*v%m=u:=⟨_,rfl⟩
 have HNE:=Lib.hid (fun wx=>new_run u 1 (by rw[<- hu];exact Nat.lt_trans (Nat.mod_lt _ (by omega)) hm) (by omega) wx);rw[hu]at HML |-
 clear hsq hR hal hm h1 ho hll hlo hil hv hu HFL;go_enter Tryz.func40,Tryz.ntmps40
 go_wp2_with fail
 refine region_many [.val 7 ((.pointer (some ⟨G,0,none⟩))),.val 8 ((.agg (pw a))),.val 9 ((.pointer (some ⟨G,0,none⟩))),.val 10 ((.pointer (some ⟨G,0,none⟩))),.val 11 ((.pointer (some ⟨G,0,none⟩))),.val 12 ((.agg (pw m))),.val 13 ((.agg #[.int .u64 2,.int .u64 0,.int .u64 0,.int .u64 0])),.val 14 ((.agg (pw (m - 2)))),.val 15 ((.agg (pw v))),.blk 6 24,.laid 6 24] [6] (fun p=>pw v) (fun i=>i) (by kernel_rfl) (by kernel_rfl) (by exact⟨trivial,trivial,trivial,trivial,trivial,trivial,trivial,trivial,trivial,(by simp[Sp.ok]),(by simp[Sp.ok]),trivial⟩) (by intro p hp q hq hne;simp only[List.mem_cons,List.not_mem_nil,or_false]at hp hq;exact absurd (hp.trans hq.symm) hne) ?_ ?_
 ·refine⟨?_,?_,?_,?_,?_,?_,?_,?_,?_,?_,?_,trivial⟩
  ·intro ac wx hC hsz hK
   have h0:ac.tmps.getD 0 undef=(.pointer (some ⟨G,0,none⟩)):=hK.1 0 (by kernel_rfl);exact mm_val ((.pointer (some ⟨G,0,none⟩))) rfl (by kernel_rfl) (by rw[<- h0];kernel_rfl) hC (by kernel_rfl) (by rw[hsz];exact of_decide_eq_true (by kernel_rfl)) rfl
  ·intro ac wx hC hsz hK
   have h0:ac.tmps.getD 3 undef=(.pointer (some ⟨w.heap.size,0,none⟩)):=hK.1 3 (by kernel_rfl);exact mm_load 24 (.tmp 3) ((.pointer (some ⟨w.heap.size,0,none⟩))) ((.agg (pw a))) rfl rfl (by kernel_rfl) h0 (ld_pw ((H0.out.below hC.1).is _ _ (by simp))) hC (by kernel_rfl) (by rw[hsz];exact of_decide_eq_true (by kernel_rfl)) rfl
  ·intro ac wx hC hsz hK
   have h0:ac.tmps.getD 0 undef=(.pointer (some ⟨G,0,none⟩)):=hK.1 0 (by kernel_rfl);exact mm_val ((.pointer (some ⟨G,0,none⟩))) rfl (by kernel_rfl) (by rw[<- h0];kernel_rfl) hC (by kernel_rfl) (by rw[hsz];exact of_decide_eq_true (by kernel_rfl)) rfl
  ·intro ac wx hC hsz hK
   have h0:ac.tmps.getD 9 undef=(.pointer (some ⟨G,0,none⟩)):=hK.2 ⟨2,.data⟩ (by simp) rfl _ rfl;exact mm_val ((.pointer (some ⟨G,0,none⟩))) rfl (by kernel_rfl) (run_nil (.tmp 9) _ rfl h0) hC (by kernel_rfl) (by rw[hsz];exact of_decide_eq_true (by kernel_rfl)) rfl
  ·intro ac wx hC hsz hK
   have h0:ac.tmps.getD 10 undef=(.pointer (some ⟨G,0,none⟩)):=hK.2 ⟨3,.data⟩ (by simp) rfl _ rfl;refine mm_sem (Instr.fieldAt 83 (ac.tmps.getD 10 undef) 0) ((.pointer (some ⟨G,0,none⟩))) rfl (by kernel_rfl) (by kernel_rfl) ?_ hC (by kernel_rfl) (by rw[hsz];exact of_decide_eq_true (by kernel_rfl)) rfl;rw[h0];exact(rf_at G wx).1
  ·intro ac wx hC hsz hK
   have h0:ac.tmps.getD 11 undef=(.pointer (some ⟨G,0,none⟩)):=hK.2 ⟨4,.data⟩ (by simp) rfl _ rfl;exact mm_load 24 (.tmp 11) ((.pointer (some ⟨G,0,none⟩))) ((.agg (pw m))) rfl rfl (by kernel_rfl) h0 (ld_rm (H0.out.below hC.1).fld) hC (by kernel_rfl) (by rw[hsz];exact of_decide_eq_true (by kernel_rfl)) rfl
  ·intro ac wx hC hsz hK
   exact mm_val ((.agg #[.int .u64 2,.int .u64 0,.int .u64 0,.int .u64 0])) rfl (by kernel_rfl) (by kernel_rfl) hC (by kernel_rfl) (by rw[hsz];exact of_decide_eq_true (by kernel_rfl)) rfl
  ·intro ac wx hC hsz hK
   have h0:ac.tmps.getD 12 undef=(.agg (pw m)):=hK.2 ⟨5,.data⟩ (by simp) rfl _ rfl;have h1:ac.tmps.getD 13 undef=(.agg #[.int .u64 2,.int .u64 0,.int .u64 0,.int .u64 0]):=hK.2 ⟨6,.data⟩ (by simp) rfl _ rfl;refine mm_call 57 #[ac.tmps.getD 12 undef,ac.tmps.getD 13 undef] ((.agg (pw (m - 2)))) rfl (by kernel_rfl) (by kernel_rfl) ?_ hC (by kernel_rfl) (by rw[hsz];exact of_decide_eq_true (by kernel_rfl)) rfl;rw[h0,h1];exact HMI.out wx
  ·intro ac wx hC hsz hK
   have h0:ac.tmps.getD 7 undef=(.pointer (some ⟨G,0,none⟩)):=hK.2 ⟨0,.data⟩ (by simp) rfl _ rfl;have h1:ac.tmps.getD 8 undef=(.agg (pw a)):=hK.2 ⟨1,.data⟩ (by simp) rfl _ rfl;have h2:ac.tmps.getD 14 undef=(.agg (pw (m - 2))):=hK.2 ⟨7,.data⟩ (by simp) rfl _ rfl;refine mm_call 65 #[ac.tmps.getD 7 undef,ac.tmps.getD 8 undef,ac.tmps.getD 14 undef] ((.agg (pw v))) rfl (by kernel_rfl) (by kernel_rfl) ?_ hC (by kernel_rfl) (by rw[hsz];exact of_decide_eq_true (by kernel_rfl)) rfl;rw[h0,h1,h2];exact HEX.out wx (H0.out.below hC.1).fld
  ·intro ac wx hC hsz hK
   exact mm_new 24 (#[.int .u64 0,.int .u64 0,.int .u64 0,.int .u64 0]) rfl (by kernel_rfl) (by kernel_rfl) hC (by rw[pw_size];rfl) (by rw[hsz];exact of_decide_eq_true (by kernel_rfl)) rfl
  ·intro ac wx hC hsz hK
   have h0:ac.tmps.getD 15 undef=(.agg (pw v)):=hK.2 ⟨8,.data⟩ (by simp) rfl _ rfl;exact mm_store (p:=6) 24 (.tmp 6) (.tmp 15) _ rfl rfl (by kernel_rfl) rfl h0 (by simp) (hK.2 ⟨9,.data⟩ (by simp) rfl _ rfl) (fun D cs h3 h4=>store_w (h4.trans (pw_size _)) h3) hC rfl
 intro f1 w5 hb5 hap hf5;obtain⟨E,s6,hE,r6⟩:=hf5 10 _ rfl;have H2:=Lib.hid (show CRf w G m lo sq [(E,pw v),(w.heap.size+1,#[.int .u64 0,.int .u64 0,.int .u64 0,.int .u64 0]),(w.heap.size,pw a)] w5 from((H0.out.below hb5).cons r6));clear hf5 hap hb5 r6 hE H0 HEX HMI;generalize hAct:putAll _ _ _=A1 at *;have s6':A1.tmps.getD 6 undef=.pointer (some ⟨E,0,none⟩):=s6;have s0:A1.tmps.getD 0 undef=(.pointer (some ⟨G,0,none⟩)):=by subst hAct;kernel_rfl
 have s3:A1.tmps.getD 3 undef=.pointer (some ⟨w.heap.size,0,none⟩):=by subst hAct;kernel_rfl
 have s4:A1.tmps.getD 4 undef=.pointer (some ⟨w.heap.size+1,0,none⟩):=by subst hAct;kernel_rfl
 have s5:A1.tmps.getD 5 undef=.bool false:=by subst hAct;kernel_rfl
 have hsz:A1.tmps.size=24:=by rw[<- hAct,putAll_size];rfl
 have hdf:A1.defers=[]:=by subst hAct;kernel_rfl
 clear hAct s6 f1;obtain⟨u1,t1⟩:∃ u,A1.tmps.getD 1 undef=u:=⟨_,rfl⟩
 obtain⟨u2,t2⟩:∃ u,A1.tmps.getD 2 undef=u:=⟨_,rfl⟩
 obtain⟨u7,t7⟩:∃ u,A1.tmps.getD 7 undef=u:=⟨_,rfl⟩
 obtain⟨u8,t8⟩:∃ u,A1.tmps.getD 8 undef=u:=⟨_,rfl⟩
 obtain⟨u9,t9⟩:∃ u,A1.tmps.getD 9 undef=u:=⟨_,rfl⟩
 obtain⟨u10,t10⟩:∃ u,A1.tmps.getD 10 undef=u:=⟨_,rfl⟩
 obtain⟨u11,t11⟩:∃ u,A1.tmps.getD 11 undef=u:=⟨_,rfl⟩
 obtain⟨u12,t12⟩:∃ u,A1.tmps.getD 12 undef=u:=⟨_,rfl⟩
 obtain⟨u13,t13⟩:∃ u,A1.tmps.getD 13 undef=u:=⟨_,rfl⟩
 obtain⟨u14,t14⟩:∃ u,A1.tmps.getD 14 undef=u:=⟨_,rfl⟩
 obtain⟨u15,t15⟩:∃ u,A1.tmps.getD 15 undef=u:=⟨_,rfl⟩
 obtain⟨u16,t16⟩:∃ u,A1.tmps.getD 16 undef=u:=⟨_,rfl⟩
 obtain⟨u17,t17⟩:∃ u,A1.tmps.getD 17 undef=u:=⟨_,rfl⟩
 obtain⟨u18,t18⟩:∃ u,A1.tmps.getD 18 undef=u:=⟨_,rfl⟩
 obtain⟨u19,t19⟩:∃ u,A1.tmps.getD 19 undef=u:=⟨_,rfl⟩
 obtain⟨u20,t20⟩:∃ u,A1.tmps.getD 20 undef=u:=⟨_,rfl⟩
 obtain⟨u21,t21⟩:∃ u,A1.tmps.getD 21 undef=u:=⟨_,rfl⟩
 obtain⟨u22,t22⟩:∃ u,A1.tmps.getD 22 undef=u:=⟨_,rfl⟩
 obtain⟨u23,t23⟩:∃ u,A1.tmps.getD 23 undef=u:=⟨_,rfl⟩
 obtain⟨tm,df⟩:=A1;simp only at *;have hLt:=arr_litS tm;rw[hsz]at hLt;simp only[List.range,List.range.loop,List.map]at hLt;rw[s0,t1,t2,s3,s4,s5,s6',t7,t8,t9,t10,t11,t12,t13,t14,t15,t16,t17,t18,t19,t20,t21,t22,t23]at hLt;subst hLt hdf;clear s0 t1 t2 s3 s4 s5 s6' t7 t8 t9 t10 t11 t12 t13 t14 t15 t16 t17 t18 t19 t20 t21 t22 t23 hsz
 go_upto_region 2 with(fail)
 by_cases h1:u=1
 ·rw[show(!decide (u=1))=false from by rw[h1];rfl]at HNE
  refine q_region (CRf w G m lo sq [(E,pw v),(w.heap.size+1,#[.int .u64 0,.int .u64 0,.int .u64 0,.int .u64 0]),(w.heap.size,pw a)]) H2.out ?_
  with_reducible refine q_val (.pointer (some ⟨G,0,none⟩)) (by kernel_rfl) (fun _ _=>by kernel_rfl) ?_
  with_reducible refine q_load 24 (.tmp 3) (.pointer (some ⟨w.heap.size,0,none⟩)) (.agg (pw a)) rfl (by kernel_rfl) (by kernel_rfl) (fun _ c=>ld_pw (c.is _ _ (by simp))) ?_
  with_reducible refine q_load 24 (.tmp 6) (.pointer (some ⟨E,0,none⟩)) (.agg (pw v)) rfl (by kernel_rfl) (by kernel_rfl) (fun _ c=>ld_pw (c.is _ _ (by simp))) ?_
  with_reducible refine q_call 32 #[.pointer (some ⟨G,0,none⟩),.agg (pw a),.agg (pw v)] (.agg (pw u)) (by kernel_rfl) (fun _=>by kernel_rfl) (CRf.calls HML.out) ?_
  with_reducible refine q_val (.agg (pw 1)) (by kernel_rfl) (fun _ _=>by kernel_rfl) ?_
  with_reducible refine q_bin .neq 24 _ _ 24 (.agg (pw u)) (.agg (pw 1)) (.bool false) rfl (by kernel_rfl) (by kernel_rfl) (by kernel_rfl) (fun _=>by kernel_rfl) (fun w'=>HNE.out w') ?_
  with_reducible refine wpQuiet_nil ?_
  intro wx hC;have HC:=Lib.hid hC;clear hC H2;simp only[Act.put,List.setIfInBounds_toArray,List.set_cons_succ,List.set_cons_zero]
  go_wp2_with (first | (refine wpList_ld rfl 24 _ rfl (.pointer (some ⟨E,0,none⟩)) (.agg (pw v)) rfl (ld_pw (by exact HC.out.is _ _ (by simp))) ?_) | (refine wpList_store_row rfl 24 _ _ rfl (w.heap.size+1) (pw v) rfl rfl 24 (#[.int .u64 0,.int .u64 0,.int .u64 0,.int .u64 0]) (by exact HC.out.is _ _ (by simp)) (by rw[pw_size];exact infoW4) (by first | rfl | (rw[pw_size];rfl) | (rw[pw_size,pw_size])) (pw_one _) ?_))
  refine bodyPost_ret (v:=.tuple #[.agg (pw v),.bool true]) (rres_cell_tmp (p:=4) (u:=5) (vb:=.bool true) rfl _ _ (w.heap.size+1) 24 (pw v) (0,0) _ rfl rfl (setRow_heap _ _ _ _ _ _ (HC.out.is (w.heap.size+1) (#[.int .u64 0,.int .u64 0,.int .u64 0,.int .u64 0]) (by simp))) Tryz.underlying24 rfl (by rw[pw_size];exact infoW4)) rfl ⟨by first | rfl | rw[if_pos h1,decide_eq_true h1],below_setRow HC.out.old (by omega) _⟩
 ·rw[show(!decide (u=1))=true from by simp[h1]]at HNE
  refine q_region (CRf w G m lo sq [(E,pw v),(w.heap.size+1,#[.int .u64 0,.int .u64 0,.int .u64 0,.int .u64 0]),(w.heap.size,pw a)]) H2.out ?_
  with_reducible refine q_val (.pointer (some ⟨G,0,none⟩)) (by kernel_rfl) (fun _ _=>by kernel_rfl) ?_
  with_reducible refine q_load 24 (.tmp 3) (.pointer (some ⟨w.heap.size,0,none⟩)) (.agg (pw a)) rfl (by kernel_rfl) (by kernel_rfl) (fun _ c=>ld_pw (c.is _ _ (by simp))) ?_
  with_reducible refine q_load 24 (.tmp 6) (.pointer (some ⟨E,0,none⟩)) (.agg (pw v)) rfl (by kernel_rfl) (by kernel_rfl) (fun _ c=>ld_pw (c.is _ _ (by simp))) ?_
  with_reducible refine q_call 32 #[.pointer (some ⟨G,0,none⟩),.agg (pw a),.agg (pw v)] (.agg (pw u)) (by kernel_rfl) (fun _=>by kernel_rfl) (CRf.calls HML.out) ?_
  with_reducible refine q_val (.agg (pw 1)) (by kernel_rfl) (fun _ _=>by kernel_rfl) ?_
  with_reducible refine q_bin .neq 24 _ _ 24 (.agg (pw u)) (.agg (pw 1)) (.bool true) rfl (by kernel_rfl) (by kernel_rfl) (by kernel_rfl) (fun _=>by kernel_rfl) (fun w'=>HNE.out w') ?_
  with_reducible refine wpQuiet_nil ?_
  intro wx hC;have HC:=Lib.hid hC;clear hC H2;simp only[Act.put,List.setIfInBounds_toArray,List.set_cons_succ,List.set_cons_zero]
  go_wp2_with (refine wpList_store_row rfl 24 _ _ rfl (w.heap.size+1) (pw 0) rfl rfl 24 (#[.int .u64 0,.int .u64 0,.int .u64 0,.int .u64 0]) (by exact HC.out.is _ _ (by simp)) (by rw[pw_size];exact infoW4) (by first | rfl | (rw[pw_size];rfl) | (rw[pw_size,pw_size])) (pw_one _) ?_)
  refine bodyPost_ret (v:=.tuple #[.agg (pw 0),.bool false]) (rres_cell_tmp (p:=4) (u:=5) (vb:=.bool false) rfl _ _ (w.heap.size+1) 24 (pw 0) (0,0) _ rfl rfl (setRow_heap _ _ _ _ _ _ (HC.out.is (w.heap.size+1) (#[.int .u64 0,.int .u64 0,.int .u64 0,.int .u64 0]) (by simp))) Tryz.underlying24 rfl (by rw[pw_size];exact infoW4)) rfl ⟨by first | rfl | rw[if_neg h1,decide_eq_false h1],below_setRow HC.out.old (by omega) _⟩
open Go.RowKit
theorem pick_walk(x fill:Nat)(sh:Int)(h1:-256<=sh)(h2:sh<=256)(hf:fill<2)(w:World) :
  Calls Tryz.prog 92 #[.agg (pw x),.int .i64 sh,.int .u64 fill] w fun e w'=>e=.returned (.agg (rb4 (pbit x sh fill) 256))/\Below w.heap.size w w':=by
 have HB:=Lib.hid (fun(i:Nat) (hi:i<256) (w:World)=>bit_ref x i hi w);have HF:=Lib.hid hf;clear hf;go_enter Tryz.func92,Tryz.ntmps92;go_wp2
 go_loopw [8] (fun iv wr=>∃ k:Nat,k<=256/\iv=.int .i64 k/\Hid (wr.heap[w.heap.size]?=some (.cells (pw x) 24 (0,0))/\wr.heap[w.heap.size+1]?=some (.cells (rb4 (pbit x sh fill) 0) 24 (0,0))/\wr.heap[w.heap.size+1+1]?=some (.cells (rb4 (pbit x sh fill) k) 24 (0,0))/\Below w.heap.size w wr)) (fun iv _=>256 - (intOf iv).toNat)
 case atStart=>exact⟨0,by omega,rfl,Lib.hid ⟨(heap3 _ _ _ _).1,(heap3 _ _ _ _).2.1,(heap3 _ _ _ _).2.2,by go_grown⟩⟩
 case round =>
  obtain⟨k,hk,rfl,H⟩:=hrel;have hk0:(0:Int)<=k:=by omega
  have hk1:(k:Int)<=256:=by omega
  by_cases hlt:k<256
  ·have hlt':(k:Int)<256:=by omega
   obtain⟨p,hp⟩:∃ p:Nat,(k:Int) / 64=(p:Int):=⟨k / 64,by omega⟩
   obtain⟨s,hs⟩:∃ s:Nat,(k:Int)%64=(s:Int):=⟨k%64,by omega⟩
   have hp0:(0:Int)<=p:=by omega
   have hp1:(p:Int)<4:=by omega
   have hs0:(0:Int)<=s:=by omega
   have hs1:(s:Int)<64:=by omega
   obtain⟨c,hc⟩:∃ c,pbit x sh fill k=c:=⟨_,rfl⟩
   have hv:=or_bit (bpt (pbit x sh fill) p k) c s (blow (by omega) (by omega) (fun j _=>pbit_lt _ _ _ _ HF.out)) (by rw[<- hc];exact pbit_lt _ _ _ _ HF.out) (by omega);have HV:=Lib.hid hv;clear hv;have HSET:Hid ((rb4 (pbit x sh fill) k).setIfInBounds p (.int .u64 ((bpt (pbit x sh fill) p k+c*2^s:Nat):Int))=rb4 (pbit x sh fill) (k+1)):=Lib.hid (by rw[<- hc];exact rb4_set _ k p s hlt (by omega) (by omega));obtain⟨kz,hkz⟩:∃ kz:Int,(k:Int)+sh=kz:=⟨_,rfl⟩
   have hz1:-256<=kz:=by omega
   have hz2:kz<=512:=by omega
   by_cases r1:0<=kz
   ·by_cases r2:kz<256
    ·obtain⟨m,rfl⟩:=Int.eq_ofNat_of_zero_le r1
     have hcv:x%2^256 / 2^m%2=c:=by
      rw[<- hc];unfold pbit;rw[if_pos (by omega)];rw[hkz];rfl
     have HB2:=Lib.hid (HB.out m (by omega));rw[hcv]at HB2;have HCV:=Lib.hid hcv;clear hcv hc;have hi:(Tryz.prog.info? 24).map (·.size)=some 4:=by kernel_rfl
     have HI:=Lib.hid hi;clear hi
     go_wp2_with (refine wpList_load_row rfl 24 _ rfl w.heap.size rfl 24 (pw x) (0,0) _ H.out.1 Tryz.underlying24 rfl HI.out ?_)
     refine(HB2.out _).mono ?_;rintro e w1 ⟨rfl,hb⟩;have hsz:w.heap.size+1+1<wr.heap.size:=(Array.getElem?_eq_some_iff.1 H.out.2.2.1).1;have HX:Hid (w1.heap[w.heap.size]?=some (.cells (pw x) 24 (0,0))/\w1.heap[w.heap.size+1]?=some (.cells (rb4 (pbit x sh fill) 0) 24 (0,0))/\w1.heap[w.heap.size+1+1]?=some (.cells (rb4 (pbit x sh fill) k) 24 (0,0))/\Below w.heap.size w w1):=Lib.hid ⟨(hb.block _ (by omega)).trans H.out.1,(hb.block _ (by omega)).trans H.out.2.1,(hb.block _ hsz).trans H.out.2.2.1,H.out.2.2.2.trans (hb.mono H.out.2.2.2.size)⟩;clear hb hsz;have ca:w1.cell? ⟨w.heap.size+1+1,p,none⟩=some (.int .u64 (bpt (pbit x sh fill) p k:Nat)):=(cell_of_row _ _ p _ _ _ HX.out.2.2.1).trans (rb4_at _ k p (by omega));have cf:w1.frozen? ⟨w.heap.size+1+1,p,none⟩=false:=frozen_of_row _ _ p _ _ HX.out.2.2.1;go_wp2
     go_roundw
     case rel =>
      refine⟨k+1,by omega,by go_num,Lib.hid ⟨(heap_setCell_other w1 _ _ _ (by simp;omega)).trans HX.out.1,(heap_setCell_other w1 _ _ _ (by simp)).trans HX.out.2.1,?_,HX.out.2.2.2.setCell (by simp;omega) _⟩⟩;rw[HV.out,heap_setCell_same w1 _ _ _ _ _ HX.out.2.2.1,HSET.out]
     case measure=>simp[intOf];omega
    ·have r3:decide (kz<256)=false:=by rw[decide_eq_false_iff_not];omega
     have hcv:fill=c:=by
      rw[<- hc];unfold pbit;rw[if_neg (by omega)]
     subst hcv;clear hc;have HX:=H;have ca:wr.cell? ⟨w.heap.size+1+1,p,none⟩=some (.int .u64 (bpt (pbit x sh fill) p k:Nat)):=(cell_of_row _ _ p _ _ _ HX.out.2.2.1).trans (rb4_at _ k p (by omega));have cf:wr.frozen? ⟨w.heap.size+1+1,p,none⟩=false:=frozen_of_row _ _ p _ _ HX.out.2.2.1;go_wp2
     go_roundw
     case rel =>
      refine⟨k+1,by omega,by go_num,Lib.hid ⟨(heap_setCell_other wr _ _ _ (by simp;omega)).trans HX.out.1,(heap_setCell_other wr _ _ _ (by simp)).trans HX.out.2.1,?_,HX.out.2.2.2.setCell (by simp;omega) _⟩⟩;rw[HV.out,heap_setCell_same wr _ _ _ _ _ HX.out.2.2.1,HSET.out]
     case measure=>simp[intOf];omega
   ·have r3:decide (0<=kz)=false:=by rw[decide_eq_false_iff_not];omega
    have hcv:fill=c:=by
     rw[<- hc];unfold pbit;rw[if_neg (by omega)]
    subst hcv;clear hc;have HX:=H;have ca:wr.cell? ⟨w.heap.size+1+1,p,none⟩=some (.int .u64 (bpt (pbit x sh fill) p k:Nat)):=(cell_of_row _ _ p _ _ _ HX.out.2.2.1).trans (rb4_at _ k p (by omega));have cf:wr.frozen? ⟨w.heap.size+1+1,p,none⟩=false:=frozen_of_row _ _ p _ _ HX.out.2.2.1;go_wp2
    go_roundw
    case rel =>
     refine⟨k+1,by omega,by go_num,Lib.hid ⟨(heap_setCell_other wr _ _ _ (by simp;omega)).trans HX.out.1,(heap_setCell_other wr _ _ _ (by simp)).trans HX.out.2.1,?_,HX.out.2.2.2.setCell (by simp;omega) _⟩⟩;rw[HV.out,heap_setCell_same wr _ _ _ _ _ HX.out.2.2.1,HSET.out]
    case measure=>simp[intOf];omega
  ·obtain rfl:k=256:=by omega
   have hi:(Tryz.prog.info? 24).map (·.size)=some 4:=by kernel_rfl
   have HI:=Lib.hid hi;clear hi
   go_wp2_with (first | (refine wpList_load_row rfl 24 _ rfl (w.heap.size+1+1) rfl 24 _ (0,0) _ H.out.2.2.1 Tryz.underlying24 rfl HI.out ?_) | (refine wpList_store_row rfl 24 _ _ rfl (w.heap.size+1) (rb4 (pbit x sh fill) 256) rfl rfl 24 (rb4 (pbit x sh fill) 0) H.out.2.1 HI.out ((rb4_size _ _).trans (rb4_size _ _).symm) (rb4_one _ _) ?_))
   refine bodyPost_ret (v:=.agg (rb4 (pbit x sh fill) 256)) (results_cell_row (p:=6) rfl _ _ (w.heap.size+1) 24 _ (0,0) _ rfl (setRow_heap _ _ _ _ _ _ H.out.2.1) Tryz.underlying24 rfl HI.out) rfl ⟨rfl,below_setRow H.out.2.2.2 (by omega) _⟩
-- WHAT pick COMES TO.
theorem pick_any(x fill:Nat)(sh:Int)(h1:-256<=sh)(h2:sh<=256)(hf:fill<2)(w:World) :
  Calls Tryz.prog 92 #[wv x,.int .i64 sh,.int .u64 fill] w fun e w'=>e=.returned (wv (vb (pbit x sh fill) 256))/\Below w.heap.size w w':=by
 have h:=pick_walk x fill sh h1 h2 hf w;rw[rb4_wv _ (fun j _=>pbit_lt _ _ _ _ hf)]at h;exact h
theorem num_far1(a0 a1 a2 a3:Nat)(h1:((a1:Int) != 0)=true)(w:World):Calls Tryz.prog 93 #[.agg #[.int .u64 a0,.int .u64 a1,.int .u64 a2,.int .u64 a3]] w fun e w'=>e=.returned (.int .i64 256)/\Below w.heap.size w w':=by
 go_enter Tryz.func93,Tryz.ntmps93;go_wp2;go_ret;exact⟨rfl,by go_grown⟩
theorem num_far2(a0 a2 a3:Nat)(h2:((a2:Int) != 0)=true)(w:World):Calls Tryz.prog 93 #[.agg #[.int .u64 a0,.int .u64 0,.int .u64 a2,.int .u64 a3]] w fun e w'=>e=.returned (.int .i64 256)/\Below w.heap.size w w':=by
 go_enter Tryz.func93,Tryz.ntmps93;go_wp2;go_ret;exact⟨rfl,by go_grown⟩
theorem num_far3(a0 a3:Nat)(h3:((a3:Int) != 0)=true)(w:World):Calls Tryz.prog 93 #[.agg #[.int .u64 a0,.int .u64 0,.int .u64 0,.int .u64 a3]] w fun e w'=>e=.returned (.int .i64 256)/\Below w.heap.size w w':=by
 go_enter Tryz.func93,Tryz.ntmps93;go_wp2;go_ret;exact⟨rfl,by go_grown⟩
theorem num_far0(a0:Nat)(h0:(256:Int)<a0)(w:World):Calls Tryz.prog 93 #[.agg #[.int .u64 a0,.int .u64 0,.int .u64 0,.int .u64 0]] w fun e w'=>e=.returned (.int .i64 256)/\Below w.heap.size w w':=by
 go_enter Tryz.func93,Tryz.ntmps93;go_wp2;go_ret;exact⟨rfl,by go_grown⟩
theorem num_in(a0:Nat)(h0:(a0:Int)<=256)(w:World):Calls Tryz.prog 93 #[.agg #[.int .u64 a0,.int .u64 0,.int .u64 0,.int .u64 0]] w fun e w'=>e=.returned (.int .i64 a0)/\Below w.heap.size w w':=by
 have h00:(0:Int)<=a0:=by omega
 go_enter Tryz.func93,Tryz.ntmps93;go_wp2;go_ret;exact⟨rfl,by go_grown⟩
-- WHAT Num COMES TO.
theorem num_any(k:Nat)(w:World):Calls Tryz.prog 93 #[wv k] w fun e w'=>e=.returned (.int .i64 ((min (k%2^256) 256:Nat):Int))/\Below w.heap.size w w':=by
 obtain⟨a0,a1,a2,a3,u0,u1,u2,u3,ea,na⟩:=wv_parts k;rw[ea,<- na];by_cases h1:a1=0
 ·subst h1
  by_cases h2:a2=0
  ·subst h2
   by_cases h3:a3=0
   ·subst h3
    by_cases h0:a0<=256
    ·rw[show min (n4 a0 0 0 0) 256=a0 by unfold n4;omega]
     exact num_in a0 (by omega) w
    ·rw[show min (n4 a0 0 0 0) 256=256 by unfold n4;omega]
     exact num_far0 a0 (by omega) w
   ·rw[show min (n4 a0 0 0 a3) 256=256 by unfold n4;omega]
    exact num_far3 a0 a3 (by rw[bne_iff_ne];omega) w
  ·rw[show min (n4 a0 0 a2 a3) 256=256 by unfold n4;omega]
   exact num_far2 a0 a2 a3 (by rw[bne_iff_ne];omega) w
 ·rw[show min (n4 a0 a1 a2 a3) 256=256 by unfold n4;omega]
  exact num_far1 a0 a1 a2 a3 (by rw[bne_iff_ne];omega) w
-- WHAT bailiwickref01.Shr COMES TO.
theorem shr_ref(k x:Nat)(w:World) :
  Calls Tryz.prog 75 #[.agg (pw k),.agg (pw x)] w fun e w'=>e=.returned (wv (x%2^256 / 2^min (k%2^256) 256))/\Below w.heap.size w w':=by
 go_enter Tryz.func75,Tryz.ntmps75
 go_wp2_with fail
 refine region_inv (CB w k x) (fun i v wx=>match i with | 0=>v=wv x | 1=>v=wv k | 2=>v=.int .i64 ((min (k%2^256) 256:Nat):Int) | 3=>v=wv (x%2^256 / 2^min (k%2^256) 256) | 4=>wx.heap[(w.heap.size+1+1)]?=some (.cells (pw (x%2^256 / 2^min (k%2^256) 256)) 24 (0,0)) | _=>True) (Rs (w.heap.size+1+1) (x%2^256 / 2^min (k%2^256) 256)) (by kernel_rfl) (by kernel_rfl) ?_ ?_ ?_ ?_
 ·exact⟨by go_grown,(heap3 _ _ _ _).1,(heap3 _ _ _ _).2.1,_,rfl,(heap3 _ _ _ _).2.2⟩
 ·intro i v wa wb hR h
  match i,h with
  | 0,h=>exact h
  | 1,h=>exact h
  | 2,h=>exact h
  | 3,h=>exact h
  | 4,h=>exact hR.2 h
  | _+5,_=>trivial
 ·refine⟨fun a wx hC hK=>?_,fun a wx hC hK=>?_,fun a wx hC hK=>?_,fun a wx hC hK=>?_,fun a wx hC hK=>?_,trivial⟩
  ·exact st_load 24 (.tmp 3) (.pointer (some ⟨w.heap.size+1,0,none⟩)) (wv x) rfl (by kernel_rfl) (fun h=>by cases h) (hK.1 3 (by kernel_rfl)) (load_pw hC.2.2.1) hC rfl (Rs.refl _ _ _)
  ·exact st_load 24 (.tmp 2) (.pointer (some ⟨w.heap.size,0,none⟩)) (wv k) rfl (by kernel_rfl) (fun h=>by cases h) (hK.1 2 (by kernel_rfl)) (load_pw hC.2.1) hC rfl (Rs.refl _ _ _)
  ·have h0:a.tmps.getD 6 undef=wv k:=hK.2 ⟨1,.data⟩ (by simp) rfl _ rfl
   refine st_call 93 #[a.tmps.getD 6 undef] (by kernel_rfl) ⟨_,rfl⟩ (by kernel_rfl) ?_;rw[h0];exact(num_any k wx).mono fun e w' h=>⟨_,h.1,hC.below h.2,rfl,Rs.of hC.lt h.2⟩
  ·have h0:a.tmps.getD 5 undef=wv x:=hK.2 ⟨0,.data⟩ (by simp) rfl _ rfl
   have h1:(a.tmps.getD 7 undef)=.int .i64 ((min (k%2^256) 256:Nat):Int):=hK.2 ⟨2,.data⟩ (by simp) rfl _ rfl;refine st_call 92 #[a.tmps.getD 5 undef,(a.tmps.getD 7 undef),.int .u64 0] (by kernel_rfl) ⟨_,rfl⟩ (by kernel_rfl) ?_;rw[h0,h1];have hp:=pick_any x 0 ((min (k%2^256) 256:Nat):Int) (by omega) (by omega) (by omega) wx;rw[vb_shr]at hp;exact hp.mono fun e w' h=>⟨_,h.1,hC.below h.2,rfl,Rs.of hC.lt h.2⟩
  ·have h0:a.tmps.getD 8 undef=wv (x%2^256 / 2^min (k%2^256) 256):=hK.2 ⟨3,.data⟩ (by simp) rfl _ rfl
   obtain⟨-,-,-,cs,hcs,hrow⟩:=id hC;exact st_store (by kernel_rfl) (run_store 24 (.tmp 4) (.tmp 8) _ _ rfl (hK.1 4 (by kernel_rfl)) h0 (store_pw hcs hrow)) (hC.row _ rfl) (setRow_heap _ _ _ _ _ _ hrow) (Rs.row hrow)
 ·intro f wx hC hf
  have h6:wx.heap[(w.heap.size+1+1)]?=some (.cells (pw (x%2^256 / 2^min (k%2^256) 256)) 24 (0,0)):=hf 4 _ rfl;generalize hA:putAll _ _ _=A;have h4:A.tmps.getD 4 undef=Value.pointer (some ⟨(w.heap.size+1+1),0,none⟩):=by subst hA;kernel_rfl
  have hd:A.defers=[]:=by subst hA;kernel_rfl
  clear hA hf;go_wp2
  (try simp only[Exit.inBlock,Exit.then])
  exact bodyPost_ret (v:=.agg (pw (x%2^256 / 2^min (k%2^256) 256))) (results_cell_row (p:=4) rfl _ _ (w.heap.size+1+1) 24 _ (0,0) _ h4 h6 Tryz.underlying24 rfl infoWord) hd ⟨rfl,hC.1⟩
open Go.RowKit
theorem rpN04(m:Nat):pN m 0%4=m%4:=by rw[pN0 m];omega
theorem rrem4(x b:Nat)(h:x%4=b)(hx:x<18446744073709551616)(w:World):(binOp BinOp.rem 22 (.int .u64 (x:Nat)) (.int .u64 4)).run Tryz.prog w=.ok (.int .u64 (b:Nat)) w:=by
 have hx0:(0:Int)<=x:=by omega
 have e:(x:Int).tmod 4=(b:Int):=by rw[Int.tmod_eq_emod_of_nonneg hx0];omega
 have e2:(x:Int)%4=(b:Int):=by omega
 have e3:IntKind.u64.wrap (b:Int)=(b:Int):=by rw[IntKind.wrap_u64];omega
 go_simp
theorem ld_rm0{w:World}{G m lo sq:Nat}(h:RFat w G m lo sq):(Instr.loadAt 22 (.pointer (some ⟨G,0,none⟩))).run Tryz.prog w=.ok (.int .u64 (pN m 0:Nat)) w:=by
 have c0:=h.cell 0 (by omega);rw[show rfw m lo sq 0=pN m 0 from rfw_m m lo sq 0 (by omega)]at c0
 go_simp
theorem rsqrt_any(G m a:Nat)(h3:m%4=3)(hal:a<m)(hm:m<2^256)(w:World)(hF:RFld w G m):Calls Tryz.prog 48 #[(.pointer (some ⟨G,0,none⟩)),.agg (pw a)] w fun r w'=>r=.returned (.tuple #[.agg (pw (if a^(m / 2^2+1)%m*(a^(m / 2^2+1)%m)%m=a then a^(m / 2^2+1)%m else 0)),.bool (decide (a^(m / 2^2+1)%m*(a^(m / 2^2+1)%m)%m=a))])/\Below w.heap.size w w':=by
 have ho:m%2=1:=by omega
 have h1:1<m:=by omega
 obtain⟨lo,hll,hlo,hR⟩:=hF;obtain⟨sq,hsq⟩:∃ sq,2^256*2^256%m=sq:=⟨_,rfl⟩
 have HFL:=Lib.hid (show ∀ wx,RFat wx G m lo sq->RFld wx G m from fun wx h=>⟨lo,hll,hlo,by rw[hsq];exact h⟩);rw[hsq]at hR;have H0:=Lib.hid (CRf.one hR a);have HR:=Lib.hid (rrem4 (pN m 0) 3 ((rpN04 m).trans h3) (pN_lt m 0));have HSH:=Lib.hid (fun wx=>shr_ref 2 m wx);rw[Nat.mod_eq_of_lt hm,show min (2%2^256) 256=2 from rfl,wv_pw,show(pw 2:Array Value)=#[.int .u64 2,.int .u64 0,.int .u64 0,.int .u64 0] from rfl]at HSH;have hkl:m / 2^2+1<2^256:=by omega
 have HPL:=Lib.hid (fun wx=>plusW_any (m / 2^2) 1 (by omega) (by omega) wx);rw[decide_eq_false (by omega),show(pw 1:Array Value)=#[.int .u64 1,.int .u64 0,.int .u64 0,.int .u64 0] from rfl]at HPL;obtain⟨k0,hk0⟩:∃ k0,m / 2^2=k0:=⟨_,rfl⟩
 rw[hk0]at HSH HPL hkl |-
 obtain⟨k,hk⟩:∃ k,k0+1=k:=⟨_,rfl⟩
 rw[hk]at HPL hkl |-
 have hvl:a^k%m<m:=Nat.mod_lt _ (by omega);have HEX:=Lib.hid (fun wx (c:RFat wx G m lo sq)=>rexp_any G m a k hal hkl hm h1 ho wx (HFL.out wx c));obtain⟨v,hv⟩:∃ v,a^k%m=v:=⟨_,rfl⟩
 rw[hv]at HEX hvl |-
 have HML:=Lib.hid (fun wx (c:RFat wx G m lo sq)=>rmul_any G m v v hvl hvl hm h1 ho wx (HFL.out wx c));obtain⟨u,hu⟩:∃ u,v*v%m=u:=⟨_,rfl⟩
 have HNE:=Lib.hid (fun wx=>new_run u a (by rw[<- hu];exact Nat.lt_trans (Nat.mod_lt _ (by omega)) hm) (Nat.lt_trans hal hm) wx);rw[hu]at HML |-
 clear hsq hR hal hm h1 ho hll hlo h3 hk0 hk hkl hvl hv hu HFL;go_enter Tryz.func48,Tryz.ntmps48
 go_upto_region 1 with(fail)
 refine q_region (CRf w G m lo sq [(w.heap.size+1,#[.int .u64 0,.int .u64 0,.int .u64 0,.int .u64 0]),(w.heap.size,pw a)]) H0.out ?_
 with_reducible refine q_val (.pointer (some ⟨G,0,none⟩)) (by kernel_rfl) (fun _ _=>by kernel_rfl) ?_
 with_reducible refine q_val (.pointer (some ⟨G,0,none⟩)) (by kernel_rfl) (fun _ _=>run_nil (.tmp 9) _ rfl (by kernel_rfl)) ?_
 with_reducible refine q_sem2 (Instr.fieldAt 83 (.pointer (some ⟨G,0,none⟩)) 0) (.pointer (some ⟨G,0,none⟩)) (by kernel_rfl) (by kernel_rfl) (fun w' _=>(rf_at G w').1) ?_
 with_reducible refine q_sem2 (Instr.indexAt 24 (.pointer (some ⟨G,0,none⟩)) (.int .i64 (0:Nat))) (.pointer (some ⟨G,0,none⟩)) (by kernel_rfl) (by kernel_rfl) (fun w' _=>by kernel_rfl) ?_
 with_reducible refine q_load 22 (.tmp 12) (.pointer (some ⟨G,0,none⟩)) (.int .u64 (pN m 0:Nat)) rfl (by kernel_rfl) (by kernel_rfl) (fun _ c=>ld_rm0 c.fld) ?_
 with_reducible refine q_bin .rem 22 (.tmp 13) _ 22 (.int .u64 (pN m 0:Nat)) (.int .u64 4) (.int .u64 (3:Nat)) rfl (by kernel_rfl) (by kernel_rfl) (by kernel_rfl) (fun _=>by kernel_rfl) (fun w'=>HR.out w') ?_
 with_reducible refine q_bin .neq 22 (.tmp 14) _ 22 (.int .u64 (3:Nat)) (.int .u64 3) (.bool false) rfl (by kernel_rfl) (by kernel_rfl) (by kernel_rfl) (fun _=>by kernel_rfl) (fun w'=>(by kernel_rfl)) ?_
 with_reducible refine wpQuiet_nil ?_
 intro wx hC;have HC:=Lib.hid hC;clear hC H0 HR;simp only[Act.put,List.setIfInBounds_toArray,List.set_cons_succ,List.set_cons_zero]
 go_wp2_with (refine wpList_ld rfl 24 _ rfl (.pointer (some ⟨G,0,none⟩)) (.agg (pw m)) rfl (ld_rm (by exact HC.out.fld)) ?_)
 refine(HSH.out _).mono ?_;rintro r w2 ⟨rfl,hb2⟩;have H2:=Lib.hid (HC.out.below hb2);clear hb2 HC HSH
 go_wp2_with fail
 refine(HPL.out _).mono ?_;rintro r w3 ⟨rfl,hb3⟩;have H3:=Lib.hid (H2.out.below hb3);clear hb3 H2 HPL;have HN3:=Lib.hid (heap_alloc_new w3 (.cells (#[.int .u64 0,.int .u64 0,.int .u64 0,.int .u64 0]) 24));have H4:=Lib.hid (H3.out.lay (pw k))
 go_upto_region 4 with(refine wpList_store_row rfl 24 _ _ rfl (w3.heap.size) (pw k) rfl rfl 24 (#[.int .u64 0,.int .u64 0,.int .u64 0,.int .u64 0]) (by exact HN3.out) (by rw[pw_size];exact infoW4) (by first | rfl | (rw[pw_size];rfl) | (rw[pw_size,pw_size])) (pw_one _) ?_)
 obtain⟨w4,hw4⟩:∃ w4,(w3.alloc (.cells (#[.int .u64 0,.int .u64 0,.int .u64 0,.int .u64 0]) 24)).setRow w3.heap.size (pw k)=w4:=⟨_,rfl⟩
 rw[hw4]at H4 |-
 obtain⟨K,hK⟩:∃ K,w3.heap.size=K:=⟨_,rfl⟩
 rw[hK]at H4 |-
 clear hw4 hK HN3 H3
 go_wp2_with (first | (refine wpList_ld rfl 24 _ rfl (.pointer (some ⟨w.heap.size,0,none⟩)) (.agg (pw a)) rfl (ld_pw (by exact H4.out.is _ _ (by simp))) ?_) | (refine wpList_ld rfl 24 _ rfl (.pointer (some ⟨K,0,none⟩)) (.agg (pw k)) rfl (ld_pw (by exact H4.out.is _ _ (by simp))) ?_))
 refine(CRf.calls HEX.out _ H4.out).mono ?_;rintro r w5 ⟨rfl,c5⟩;have H5:=Lib.hid (c5.lay (pw v));clear c5 H4 HEX;have HN5:=Lib.hid (heap_alloc_new w5 (.cells (#[.int .u64 0,.int .u64 0,.int .u64 0,.int .u64 0]) 24))
 go_upto_region 5 with(refine wpList_store_row rfl 24 _ _ rfl (w5.heap.size) (pw v) rfl rfl 24 (#[.int .u64 0,.int .u64 0,.int .u64 0,.int .u64 0]) (by exact HN5.out) (by rw[pw_size];exact infoW4) (by first | rfl | (rw[pw_size];rfl) | (rw[pw_size,pw_size])) (pw_one _) ?_)
 obtain⟨w6,hw6⟩:∃ w6,(w5.alloc (.cells (#[.int .u64 0,.int .u64 0,.int .u64 0,.int .u64 0]) 24)).setRow w5.heap.size (pw v)=w6:=⟨_,rfl⟩
 rw[hw6]at H5 |-
 obtain⟨E,hE⟩:∃ E,w5.heap.size=E:=⟨_,rfl⟩
 rw[hE]at H5 |-
 clear hw6 hE HN5;by_cases h1:u=a
 ·rw[show(!decide (u=a))=false from by rw[h1];simp]at HNE
  refine wp_region_quiet (C:=CRf w G m lo sq [(E,pw v),(K,pw k),(w.heap.size+1,#[.int .u64 0,.int .u64 0,.int .u64 0,.int .u64 0]),(w.heap.size,pw a)]) (by kernel_rfl) (by kernel_rfl) (H5.out.drew) ?_;simp only
  with_reducible refine q_val (.pointer (some ⟨G,0,none⟩)) (by kernel_rfl) (fun _ _=>by kernel_rfl) ?_
  with_reducible refine q_load 24 (.tmp 8) (.pointer (some ⟨E,0,none⟩)) (.agg (pw v)) rfl (by kernel_rfl) (by kernel_rfl) (fun _ c=>ld_pw (c.is _ _ (by simp))) ?_
  with_reducible refine q_load 24 (.tmp 8) (.pointer (some ⟨E,0,none⟩)) (.agg (pw v)) rfl (by kernel_rfl) (by kernel_rfl) (fun _ c=>ld_pw (c.is _ _ (by simp))) ?_
  with_reducible refine q_call 32 #[.pointer (some ⟨G,0,none⟩),.agg (pw v),.agg (pw v)] (.agg (pw u)) (by kernel_rfl) (fun _=>by kernel_rfl) (CRf.calls HML.out) ?_
  with_reducible refine q_load 24 (.tmp 3) (.pointer (some ⟨w.heap.size,0,none⟩)) (.agg (pw a)) rfl (by kernel_rfl) (by kernel_rfl) (fun _ c=>ld_pw (c.is _ _ (by simp))) ?_
  with_reducible refine q_bin .neq 24 _ _ 24 (.agg (pw u)) (.agg (pw a)) (.bool false) rfl (by kernel_rfl) (by kernel_rfl) (by kernel_rfl) (fun _=>by kernel_rfl) (fun w'=>HNE.out w') ?_
  with_reducible refine wpQuiet_nil ?_
  intro wx hC;have HC:=Lib.hid hC;clear hC H5;simp only[Act.put,List.setIfInBounds_toArray,List.set_cons_succ,List.set_cons_zero]
  go_wp2_with (first | (refine wpList_ld rfl 24 _ rfl (.pointer (some ⟨E,0,none⟩)) (.agg (pw v)) rfl (ld_pw (by exact HC.out.is _ _ (by simp))) ?_) | (refine wpList_store_row rfl 24 _ _ rfl (w.heap.size+1) (pw v) rfl rfl 24 (#[.int .u64 0,.int .u64 0,.int .u64 0,.int .u64 0]) (by exact HC.out.is _ _ (by simp)) (by rw[pw_size];exact infoW4) (by first | rfl | (rw[pw_size];rfl) | (rw[pw_size,pw_size])) (pw_one _) ?_))
  refine bodyPost_ret (v:=.tuple #[.agg (pw v),.bool true]) (rres_cell_tmp (p:=4) (u:=5) (vb:=.bool true) rfl _ _ (w.heap.size+1) 24 (pw v) (0,0) _ rfl rfl (setRow_heap _ _ _ _ _ _ (HC.out.is (w.heap.size+1) (#[.int .u64 0,.int .u64 0,.int .u64 0,.int .u64 0]) (by simp))) Tryz.underlying24 rfl (by rw[pw_size];exact infoW4)) rfl ⟨by first | rfl | rw[if_pos h1,decide_eq_true h1],below_setRow HC.out.old (by omega) _⟩
 ·rw[show(!decide (u=a))=true from by simp[h1]]at HNE
  refine wp_region_quiet (C:=CRf w G m lo sq [(E,pw v),(K,pw k),(w.heap.size+1,#[.int .u64 0,.int .u64 0,.int .u64 0,.int .u64 0]),(w.heap.size,pw a)]) (by kernel_rfl) (by kernel_rfl) (H5.out.drew) ?_;simp only
  with_reducible refine q_val (.pointer (some ⟨G,0,none⟩)) (by kernel_rfl) (fun _ _=>by kernel_rfl) ?_
  with_reducible refine q_load 24 (.tmp 8) (.pointer (some ⟨E,0,none⟩)) (.agg (pw v)) rfl (by kernel_rfl) (by kernel_rfl) (fun _ c=>ld_pw (c.is _ _ (by simp))) ?_
  with_reducible refine q_load 24 (.tmp 8) (.pointer (some ⟨E,0,none⟩)) (.agg (pw v)) rfl (by kernel_rfl) (by kernel_rfl) (fun _ c=>ld_pw (c.is _ _ (by simp))) ?_
  with_reducible refine q_call 32 #[.pointer (some ⟨G,0,none⟩),.agg (pw v),.agg (pw v)] (.agg (pw u)) (by kernel_rfl) (fun _=>by kernel_rfl) (CRf.calls HML.out) ?_
  with_reducible refine q_load 24 (.tmp 3) (.pointer (some ⟨w.heap.size,0,none⟩)) (.agg (pw a)) rfl (by kernel_rfl) (by kernel_rfl) (fun _ c=>ld_pw (c.is _ _ (by simp))) ?_
  with_reducible refine q_bin .neq 24 _ _ 24 (.agg (pw u)) (.agg (pw a)) (.bool true) rfl (by kernel_rfl) (by kernel_rfl) (by kernel_rfl) (fun _=>by kernel_rfl) (fun w'=>HNE.out w') ?_
  with_reducible refine wpQuiet_nil ?_
  intro wx hC;have HC:=Lib.hid hC;clear hC H5;simp only[Act.put,List.setIfInBounds_toArray,List.set_cons_succ,List.set_cons_zero]
  go_wp2_with (refine wpList_store_row rfl 24 _ _ rfl (w.heap.size+1) (pw 0) rfl rfl 24 (#[.int .u64 0,.int .u64 0,.int .u64 0,.int .u64 0]) (by exact HC.out.is _ _ (by simp)) (by rw[pw_size];exact infoW4) (by first | rfl | (rw[pw_size];rfl) | (rw[pw_size,pw_size])) (pw_one _) ?_)
  refine bodyPost_ret (v:=.tuple #[.agg (pw 0),.bool false]) (rres_cell_tmp (p:=4) (u:=5) (vb:=.bool false) rfl _ _ (w.heap.size+1) 24 (pw 0) (0,0) _ rfl rfl (setRow_heap _ _ _ _ _ _ (HC.out.is (w.heap.size+1) (#[.int .u64 0,.int .u64 0,.int .u64 0,.int .u64 0]) (by simp))) Tryz.underlying24 rfl (by rw[pw_size];exact infoW4)) rfl ⟨by first | rfl | rw[if_neg h1,decide_eq_false h1],below_setRow HC.out.old (by omega) _⟩
open Go.RowKit
theorem CRf.box{w:World}{G m lo sq:Nat}(h:RFat w G m lo sq)(a:Nat):CRf w G m lo sq [(w.heap.size,pw a)] (w.alloc (.cells (pw a) 24)):=(CRf.start h).new (pw a)
theorem rcube_any(G m a:Nat)(hal:a<m)(hm:m<2^256)(h7:7<m)(ho:m%2=1)(w:World)(hF:RFld w G m):Calls Tryz.prog 33 #[(.pointer (some ⟨G,0,none⟩)),.agg (pw a)] w fun r w'=>r=.returned (.agg (pw ((a*a%m*a%m+7)%m)))/\Below w.heap.size w w':=by
 have h1:1<m:=by omega
 obtain⟨lo,hll,hlo,hR⟩:=hF;obtain⟨sq,hsq⟩:∃ sq,2^256*2^256%m=sq:=⟨_,rfl⟩
 have HFL:=Lib.hid (show ∀ wx,RFat wx G m lo sq->RFld wx G m from fun wx h=>⟨lo,hll,hlo,by rw[hsq];exact h⟩);rw[hsq]at hR;have H0:=Lib.hid (CRf.one hR a);have HM1:=Lib.hid (fun wx (c:RFat wx G m lo sq)=>rmul_any G m a a hal hal hm h1 ho wx (HFL.out wx c));obtain⟨x,hx⟩:∃ x,a*a%m=x:=⟨_,rfl⟩
 have hxl:x<m:=by rw[<- hx];exact Nat.mod_lt _ (by omega)
 rw[hx]at HM1 |-
 have HM2:=Lib.hid (fun wx (c:RFat wx G m lo sq)=>rmul_any G m x a hxl hal hm h1 ho wx (HFL.out wx c));obtain⟨y,hy⟩:∃ y,x*a%m=y:=⟨_,rfl⟩
 have hyl:y<m:=by rw[<- hy];exact Nat.mod_lt _ (by omega)
 rw[hy]at HM2 |-
 have HAD:=Lib.hid (fun wx (c:RFat wx G m lo sq)=>radd_any G m lo sq y 7 hyl h7 hm wx c);obtain⟨z,hz⟩:∃ z,(y+7)%m=z:=⟨_,rfl⟩
 rw[hz]at HAD |-
 clear hsq hR hal hm h1 ho hll hlo h7 hx hxl hy hyl hz HFL;go_enter Tryz.func33,Tryz.ntmps33
 go_wp2_with fail
 refine region_quiet_tail 10 (CRf w G m lo sq [(w.heap.size+1,#[.int .u64 0,.int .u64 0,.int .u64 0,.int .u64 0]),(w.heap.size,pw a)]) (by kernel_rfl) (by kernel_rfl) (H0.out.drew) ?_;simp only[List.take_succ_cons,List.take_zero,List.drop_succ_cons,List.drop_zero]
 with_reducible refine q_val (.pointer (some ⟨G,0,none⟩)) (by kernel_rfl) (fun _ _=>by kernel_rfl) ?_
 with_reducible refine q_val (.pointer (some ⟨G,0,none⟩)) (by kernel_rfl) (fun _ _=>by kernel_rfl) ?_
 with_reducible refine q_val (.pointer (some ⟨G,0,none⟩)) (by kernel_rfl) (fun _ _=>by kernel_rfl) ?_
 with_reducible refine q_load 24 (.tmp 3) (.pointer (some ⟨w.heap.size,0,none⟩)) (.agg (pw a)) rfl (by kernel_rfl) (by kernel_rfl) (fun _ c=>ld_pw (c.is _ _ (by simp))) ?_
 with_reducible refine q_load 24 (.tmp 3) (.pointer (some ⟨w.heap.size,0,none⟩)) (.agg (pw a)) rfl (by kernel_rfl) (by kernel_rfl) (fun _ c=>ld_pw (c.is _ _ (by simp))) ?_
 with_reducible refine q_call 32 #[.pointer (some ⟨G,0,none⟩),.agg (pw a),.agg (pw a)] (.agg (pw x)) (by kernel_rfl) (fun _=>by kernel_rfl) (CRf.calls HM1.out) ?_
 with_reducible refine q_load 24 (.tmp 3) (.pointer (some ⟨w.heap.size,0,none⟩)) (.agg (pw a)) rfl (by kernel_rfl) (by kernel_rfl) (fun _ c=>ld_pw (c.is _ _ (by simp))) ?_
 with_reducible refine q_call 32 #[.pointer (some ⟨G,0,none⟩),.agg (pw x),.agg (pw a)] (.agg (pw y)) (by kernel_rfl) (fun _=>by kernel_rfl) (CRf.calls HM2.out) ?_
 with_reducible refine q_val (.agg (pw 7)) (by kernel_rfl) (fun _ _=>by kernel_rfl) ?_
 with_reducible refine q_call 39 #[.pointer (some ⟨G,0,none⟩),.agg (pw y),.agg (pw 7)] (.agg (pw z)) (by kernel_rfl) (fun _=>by kernel_rfl) (CRf.calls HAD.out) ?_
 with_reducible refine wpQuiet_nil ?_
 intro wx hC;have HC:=Lib.hid hC;clear hC H0 HM1 HM2 HAD;simp only[Act.put,List.setIfInBounds_toArray,List.set_cons_succ,List.set_cons_zero]
 go_wp2_with (refine wpList_store_row rfl 24 _ _ rfl (w.heap.size+1) (pw z) rfl rfl 24 (#[.int .u64 0,.int .u64 0,.int .u64 0,.int .u64 0]) (by exact HC.out.is _ _ (by simp)) (by rw[pw_size];exact infoW4) (by first | rfl | (rw[pw_size];rfl) | (rw[pw_size,pw_size])) (pw_one _) ?_)
 (try simp only[Act.put])
 refine bodyPost_ret (v:=.agg (pw z)) (results_cell_row (p:=4) rfl _ _ (w.heap.size+1) 24 (pw z) (0,0) _ rfl (setRow_heap _ _ _ _ _ _ (by exact HC.out.is _ (#[.int .u64 0,.int .u64 0,.int .u64 0,.int .u64 0]) (by simp))) Tryz.underlying24 rfl (by rw[pw_size];exact infoW4)) rfl ⟨rfl,below_setRow HC.out.old (by omega) _⟩
theorem rbelow_any(G m a:Nat)(ha:a<2^256)(hm:m<2^256)(h0:0<m)(w:World)(hF:RFld w G m):Calls Tryz.prog 31 #[(.pointer (some ⟨G,0,none⟩)),.agg (pw a)] w fun r w'=>r=.returned (.bool (decide (a<m)))/\Below w.heap.size w w':=by
 obtain⟨lo,hll,hlo,hR⟩:=hF;obtain⟨sq,hsq⟩:∃ sq,2^256*2^256%m=sq:=⟨_,rfl⟩
 rw[hsq]at hR;have H0:=Lib.hid (CRf.box hR a);have HOF:=Lib.hid (fun wx (c:RFat wx G m lo sq)=>rof_any G m lo sq a ha h0 hm wx c);have HD:decide (a%m=a)=decide (a<m):=by
  rw[decide_eq_decide];exact⟨fun h=>by rw[<- h];exact Nat.mod_lt _ h0,fun h=>Nat.mod_eq_of_lt h⟩
 have HEQ:=Lib.hid (fun wx=>eqw_run (a%m) a (Nat.lt_trans (Nat.mod_lt _ h0) hm) ha wx);rw[HD]at HEQ;obtain⟨x,hx⟩:∃ x,a%m=x:=⟨_,rfl⟩
 obtain⟨b,hb⟩:∃ b,decide (a<m)=b:=⟨_,rfl⟩
 rw[hx]at HOF HEQ;rw[hb]at HEQ |-
 clear hsq hR ha hm h0 hll hlo hx hb HD;go_enter Tryz.func31,Tryz.ntmps31
 go_wp2_with fail
 refine wp_region_quiet (C:=CRf w G m lo sq [(w.heap.size,pw a)]) (by kernel_rfl) (by kernel_rfl) (H0.out.drew) ?_;simp only
 with_reducible refine q_val (.pointer (some ⟨G,0,none⟩)) (by kernel_rfl) (fun _ _=>by kernel_rfl) ?_
 with_reducible refine q_load 24 (.tmp 3) (.pointer (some ⟨w.heap.size,0,none⟩)) (.agg (pw a)) rfl (by kernel_rfl) (by kernel_rfl) (fun _ c=>ld_pw (c.is _ _ (by simp))) ?_
 with_reducible refine q_call 54 #[.pointer (some ⟨G,0,none⟩),.agg (pw a)] (.agg (pw x)) (by kernel_rfl) (fun _=>by kernel_rfl) (CRf.calls HOF.out) ?_
 with_reducible refine q_load 24 (.tmp 3) (.pointer (some ⟨w.heap.size,0,none⟩)) (.agg (pw a)) rfl (by kernel_rfl) (by kernel_rfl) (fun _ c=>ld_pw (c.is _ _ (by simp))) ?_
 with_reducible refine q_bin .eql 24 _ _ 24 (.agg (pw x)) (.agg (pw a)) (.bool b) rfl (by kernel_rfl) (by kernel_rfl) (by kernel_rfl) (fun _=>by kernel_rfl) (fun w'=>HEQ.out w') ?_
 with_reducible refine q_val (.bool b) (by kernel_rfl) (fun _ _=>by kernel_rfl) ?_
 with_reducible refine wpQuiet_nil ?_
 intro wx hC;have HC:=Lib.hid hC;clear hC H0 HOF HEQ;simp only[Act.put,List.setIfInBounds_toArray,List.set_cons_succ,List.set_cons_zero]
 go_wp2_with fail
 go_ret;exact⟨rfl,HC.out.old⟩
open Go.RowKit
def rIv(m z:Nat):Nat:=if z*(z^(m - 2)%m)%m=1 then z^(m - 2)%m else 0
theorem rIv_lt{m:Nat}(hm0:0<m)(hmR:m<2^256)(z:Nat):rIv m z<2^256:=by
 unfold rIv
 split
 ·exact Nat.lt_trans (Nat.mod_lt _ hm0) hmR
 ·omega
open Go.RowKit
namespace Sy
def sRF(m lo:Nat):SV:=let r:Nat->SV:=fun j=>.i .u64 (rfw m lo (2^256*2^256%m) j:Nat)
 .ap (r 0) (.ap (r 1) (.ap (r 2) (.ap (r 3) (.ap (r 4) (.ap (r 5) (.ap (r 6) (.ap (r 7) (.ap (r 8) (.ap (r 9) (.ap (r 10) (.ap (r 11) (.ap (r 12) (.ap (r 13) (.ap (r 14) (.ap (r 15) (.ap (r 16) .e))))))))))))))))
def isR(ext:Bool)(m lo:Nat)(M:Rows):SV->Option (List Ob)
 | .p g o _ z=>if o=0/\z=0 then (if ext=true then (if g=0 then some []else none)else match rowIn g M with
  | some (c,T)=>if T=83 then some [.eq c (sRF m lo)]else none
  | none=>none)else none
 | _=>none
structure ROk (ext:Bool) (m lo:Nat) (γ0:Pl) (w0:World):Prop where
 odd:m%2=1
 big:1<m
 lt:m<2^256
 at_:ext=true->RFld w0 (γ0 0) m
 low:ext=false->lo<4294967296/\(lo*qN m 0+1)%4294967296=0
theorem isR_at{ext:Bool}{m lo n:Nat}{M:Rows}{x:SV}{p:List Ob}{γ0 γ:Pl}{w0 wx:World}(h:isR ext m lo M x=some p)(hp:All p)(hf:ROk ext m lo γ0 w0)(hγ:∀ k,k<1->γ k=γ0 k)(hw:Below w0.heap.size w0 wx)(hL:Lies γ n M wx):∃ F,x.val γ=.pointer (some ⟨F,0,none⟩)/\RFld wx F m:=by
 cases x <;> first | (cases h;done) | skip
 rename_i g o j z;dsimp only[isR]at h
 split at h
 ·rename_i hz
  obtain⟨rfl,rfl⟩:=hz;refine⟨γ g,by simp[SV.val,SV.sc],?_⟩
  split at h
  ·rename_i he
   split at h
   ·rename_i hg
    rw[hg,hγ 0 (by decide)];exact(hf.at_ he).below hw
   ·cases h
  ·rename_i he
   split at h
   ·rename_i c T hr
    split at h
    ·rename_i hT
     cases h;have hc:c=sRF m lo:=hp _ (.head _);have:=(hL _ (rowIn_ok hr)).1;rw[hc,hT]at this;have hl:=hf.low (by simpa using he);exact⟨lo,hl.1,hl.2,this⟩
    ·cases h
   ·cases h
 ·cases h
def conR(ext:Bool)(m lo:Nat)(f:FuncId)(g:List SV->Option (SV × List Ob)):Con:=⟨f,fun _ M l=>match l with
 | x::us=>match isR ext m lo M x,g us with
  | some p,some (r,q)=>some (r,q++p,[])
  | _,_=>none
 | _=>none⟩
theorem conR_ok{P:Program}{ext:Bool}{m lo:Nat}{γ0:Pl}{w0:World}{f:FuncId}{g:List SV->Option (SV × List Ob)}(hf:ROk ext m lo γ0 w0)(hc:∀ as_ wx,(callFunc f as_).run P wx=.ok (.enter f as_) wx)
  (h:∀ us r q,g us=some (r,q)->All q->(∀ x∈us,x.ok)->r.ok/\r.lt 0=true/\∀ γ F w,RFld w F m->Calls P f (.pointer (some ⟨F,0,none⟩)::us.map (·.val γ)).toArray w fun e w'=>e=.returned (r.val γ)/\Below w.heap.size w w'):ConOk P 1 γ0 w0 (conR ext m lo f g) :=
 .of hc fun n M l r p R hr hp hok=>by
  unfold conR at hr;dsimp only at hr
  split at hr
  ·rename_i x us
   split at hr
   ·rename_i p' r' q hx hq
    cases hr;obtain⟨g1,g2,g3⟩:=h us r q hq (fun a ha=>hp a (List.mem_append_left _ ha)) fun x hx=>hok x (.tail _ hx);refine⟨rfl,g1,g2,?_⟩;intro γ hγ wx hw hL;obtain⟨F,h1,h2⟩:=isR_at hx (fun a ha=>hp a (List.mem_append_right _ ha)) hf hγ hw hL;have g4:=g3 γ F wx h2;rw[<- h1]at g4;exact g4
   ·cases hr
  ·cases hr
def ref2(ext:Bool)(m lo:Nat)(f:FuncId)(op:Nat->Nat->Nat):Con:=conR ext m lo f fun l=>match l with
 | [.w a,.w b]=>some (.w (op a b),[])
 | _=>none
def ref1(ext:Bool)(m lo:Nat)(f:FuncId)(op:Nat->SV × List Ob):Con:=conR ext m lo f fun l=>match l with
 | [.w a]=>some (op a)
 | _=>none
theorem ref2_ok{P:Program}{ext:Bool}{m lo:Nat}{γ0:Pl}{w0:World}{f:FuncId}{op:Nat->Nat->Nat}(hf:ROk ext m lo γ0 w0)(hc:∀ as_ wx,(callFunc f as_).run P wx=.ok (.enter f as_) wx)(hlt:∀ a b,op a b<2^256)
  (h:∀ F a b,a<2^256->b<2^256->∀ w,RFld w F m->Calls P f #[.pointer (some ⟨F,0,none⟩),.agg (pw a),.agg (pw b)] w fun e w'=>e=.returned (.agg (pw (op a b)))/\Below w.heap.size w w'):ConOk P 1 γ0 w0 (ref2 ext m lo f op) :=
 conR_ok hf hc fun us r q hr hq hok=>by
  split at hr
  ·rename_i a b
   cases hr;exact⟨hlt a b,rfl,fun γ F w hF=>h F a b (hok (.w a) (by simp)) (hok (.w b) (by simp)) w hF⟩
  ·cases hr
theorem ref1_ok{P:Program}{ext:Bool}{m lo:Nat}{γ0:Pl}{w0:World}{f:FuncId}{op:Nat->SV × List Ob}(hf:ROk ext m lo γ0 w0)(hc:∀ as_ wx,(callFunc f as_).run P wx=.ok (.enter f as_) wx)(hlt:∀ a,(op a).1.ok/\(op a).1.lt 0=true)
  (h:∀ F a,a<2^256->All (op a).2->∀ w,RFld w F m->Calls P f #[.pointer (some ⟨F,0,none⟩),.agg (pw a)] w fun e w'=>e=.returned ((op a).1.val fun _=>0)/\Below w.heap.size w w'):ConOk P 1 γ0 w0 (ref1 ext m lo f op) :=
 conR_ok hf hc fun us r q hr hq hok=>by
  split at hr
  ·rename_i a
   have e:op a=(r,q):=Option.some.inj hr;have g1:=hlt a;have g2:=h;rw[e]at g1;refine⟨g1.1,g1.2,fun γ F w hF=>?_⟩;have g4:=h F a (hok (.w a) (by simp)) (by rw[e];exact hq) w hF;rw[e,<- val0 (γ:=γ) g1.2]at g4;exact g4
  ·cases hr
def cMulR(ext:Bool)(m lo:Nat):Con:=ref2 ext m lo 32 fun a b=>a*b%m
def cAddR(ext:Bool)(m lo:Nat):Con:=ref2 ext m lo 39 (rA m)
def cSubR(ext:Bool)(m lo:Nat):Con:=ref2 ext m lo 35 (rS m)
def cInvR(ext:Bool)(m lo:Nat):Con:=ref1 ext m lo 40 fun a=>(.tu (.w (rIv m a)) (.b (eqN (a*iv m a%m) 1)),[])
def cBelowR(ext:Bool)(m lo:Nat):Con:=ref1 ext m lo 31 fun a=>(.b (ltN a m),[])
def cCubeR(ext:Bool)(m lo:Nat):Con:=ref1 ext m lo 33 fun a=>(.w ((a*a%m*a%m+7)%m),[.ask (a<m/\7<m)])
def refs(ext:Bool)(m lo:Nat):List Con:=[cMulR ext m lo,cAddR ext m lo,cSubR ext m lo,cInvR ext m lo,cBelowR ext m lo,cCubeR ext m lo]
theorem refs_ok{ext:Bool}{m lo:Nat}{γ0:Pl}{w0:World}(hf:ROk ext m lo γ0 w0):conAll Tryz.prog 1 γ0 w0 (refs ext m lo):=by
 have hm:∀ n,n%m<2^256:=fun n=>Nat.lt_trans (Nat.mod_lt _ (by have:=hf.big;omega)) hf.lt;have h0:0<m:=by have:=hf.big;omega
 refine⟨ref2_ok hf (fun _ _=>by kernel_rfl) (fun _ _=>hm _) fun F a b ha hb w hF=>rmul_w F m a b ha hb hf.lt hf.big hf.odd w hF,ref2_ok hf (fun _ _=>by kernel_rfl) (fun a b=>rA_lt m a b) fun F a b ha hb w hF=>?_,ref2_ok hf (fun _ _=>by kernel_rfl) (fun a b=>rS_lt m a b) fun F a b ha hb w hF=>?_,
  ref1_ok hf (fun _ _=>by kernel_rfl) (fun a=>⟨⟨rIv_lt h0 hf.lt a,trivial⟩,rfl⟩) fun F a ha _ w hF=>rinv_w F m a ha hf.lt hf.big hf.odd w hF,ref1_ok hf (fun _ _=>by kernel_rfl) (fun a=>⟨trivial,rfl⟩) fun F a ha _ w hF=>rbelow_any F m a ha hf.lt h0 w hF,ref1_ok hf (fun _ _=>by kernel_rfl) (fun a=>⟨hm _,rfl⟩) fun F a _ hq w hF=>?_,trivial⟩
 ·obtain⟨lo',_,_,h⟩:=hF
  exact radd_w F m lo' _ a b ha hb hf.lt w h
 ·obtain⟨lo',_,_,h⟩:=hF
  exact rsub_w F m lo' _ a b ha hb hf.lt w h
 ·have h7:a<m/\7<m:=hq _ (.head _)
  exact rcube_any F m a h7.1 hf.lt h7.2 hf.odd w hF
abbrev loK:Nat:=3525653809
theorem rK(w:World):ROk false mK loK (fun _=>0) w:=⟨by decide,by decide,by decide,fun h=>(by cases h),fun _=>⟨by decide,by kernel_rfl⟩⟩
theorem lo_gen{lo q:Nat}(hq:q=4294966319)(h1:lo<4294967296)(h2:(lo*q+1)%4294967296=0):lo=3525653809:=by
 subst hq;have e:(lo*4294966319+1)*3525653809+lo=4294967296*(3525653007*lo)+3525653809:=by omega
 have hY:lo*4294966319+1=4294967296*((lo*4294966319+1) / 4294967296):=by have:=Nat.div_add_mod (lo*4294966319+1) 4294967296;rw[h2,Nat.add_zero]at this;exact this.symm
 rw[hY,Nat.mul_assoc]at e;generalize (lo*4294966319+1) / 4294967296*3525653809=P at e;generalize 3525653007*lo=Q at e;clear h2 hY;omega
theorem lo_is{lo:Nat}(h1:lo<4294967296)(h2:(lo*qN mK 0+1)%4294967296=0):lo=loK:=lo_gen (by kernel_rfl) h1 h2
def cF:Con:=⟨30,fun n _ l=>match l with
 | []=>some (.p n 0 0 0,[],[(n,sRF mK loK,83)])
 | _=>none⟩
theorem cF_ok{γ0:Pl}{w0:World}:ConOk Tryz.prog 1 γ0 w0 cF:=⟨fun _ _=>by kernel_rfl,fun n M l r p R hr hp hn hok _=>by
 simp only[cF]at hr
 split at hr
 ·cases hr
  refine⟨trivial,decide_eq_true (Nat.lt_succ_self _),fun q hq=>?_,fun γ hγ wx hw hL=>?_⟩
  ·simp only[List.mem_cons,List.not_mem_nil,or_false]at hq
   subst hq;exact⟨⟨trivial,trivial,trivial,trivial,trivial,trivial,trivial,trivial,trivial,trivial,trivial,trivial,trivial,trivial,trivial,trivial,trivial,trivial⟩,rfl,Nat.le_refl _,Nat.lt_succ_self _⟩
  ·refine(rF_any wx).mono fun e w' ⟨F,h1,⟨lo,l1,l2,h2⟩,h3,h4⟩=>?_
   have hlo:=lo_is l1 l2;subst hlo;obtain⟨δ,hδ⟩:∃ δ:Pl,∀ k,δ k=if k=n then F else γ k:=⟨_,fun _=>rfl⟩
   refine⟨⟨δ,fun k hk=>by rw[hδ,if_neg (by omega)],?_,fun q hq=>?_,List.pairwise_singleton _ _⟩,h4⟩
   ·rw[h1]
    show _=Ending.returned (.pointer (some ⟨δ n,0+0*0,none⟩));rw[hδ,if_pos rfl]
   ·simp only[List.mem_cons,List.not_mem_nil,or_false]at hq
    subst hq;refine⟨by rw[hδ,if_pos rfl];exact h3,?_⟩;show w'.heap[δ n]?=_;rw[hδ,if_pos rfl];exact h2
 ·cases hr⟩
end Sy
open Sy
theorem rnone_any(w:World):Calls Tryz.prog 19 #[] w fun r w'=>r=.returned (.agg (pc 0 0 true))/\Below w.heap.size w w' :=
 calls_at (E1_ok (more:=[]) (γ0:=fun _=>0) trivial) (by kernel_rfl) (fun _=>0) Tryz.func19 (by kernel_rfl) [] trivial (by kernel_rfl) (by kernel_rfl) (.leaf (sPk 0 0 true)) (by kernel_rfl) rfl
namespace Sy
def cNoneR:Con:=conV 19 fun l=>match l with
 | []=>some (sPk 0 0 true,[])
 | _=>none
theorem cNoneR_ok{base:Nat}{γ0:Pl}{w0:World}:ConOk Tryz.prog base γ0 w0 cNoneR:=conV_ok (fun _ _=>by kernel_rfl) fun us r q h hq hok=>by
 split at h
 ·cases h
  exact⟨⟨w0_ok,w0_ok,trivial,trivial⟩,rfl,fun γ w=>rnone_any w⟩
 ·cases h
noncomputable def ER:Env:=E1 (cF::cNoneR::refs false mK loK)
theorem ER_ok{w:World}:ER.Good (fun _=>0) w:=E1_ok ⟨cF_ok,cNoneR_ok,refs_ok (rK w)⟩
end Sy
theorem ron_any(x y:Nat)(n:Bool)(hx:x<2^256)(hy:y<2^256)(w:World):Calls Tryz.prog 8 #[.agg (pc x y n)] w fun r w'=>r=.returned (.bool (onB mK (x,y,n)))/\Below w.heap.size w w':=by
 let b:=bif ltN x mK then ltN y mK else false
 refine calls_at ER_ok (by kernel_rfl) (fun _=>0) Tryz.func8 (by kernel_rfl) [sP x y n] ⟨⟨⟨hx,hy,trivial,trivial⟩,rfl⟩,trivial⟩ (by kernel_rfl) (by kernel_rfl)
  (.need ((!n&&b)=true->x<mK/\7<mK) (.leaf (.b (bif n then true else bif b then eqN (y*y%mK) ((x*x%mK*x%mK+7)%mK)else false)))) (by kernel_rfl) ⟨fun h=>?_,?_⟩
 ·refine⟨?_,by decide⟩
  cases hl:ltN x mK with
  | true=>exact of_decide_eq_true hl
  | false =>
   have h:(!n&&(bif ltN x mK then ltN y mK else false))=true:=h;rw[hl]at h;cases n <;> cases h
 ·show Value.bool (bif n then true else bif (bif ltN x mK then ltN y mK else false)then eqN (y*y%mK) ((x*x%mK*x%mK+7)%mK)else false)=.bool (n||_)
  congr 1;cases n with
  | true=>rfl
  | false =>
   rw[Bool.eq_iff_iff];simp[ltN,eqN,and_assoc]
open Go.RowKit
theorem rem4(x b:Nat)(h:x%4=b)(hx:x<18446744073709551616)(w:World):(binOp BinOp.rem 22 (.int .u64 (x:Nat)) (.int .u64 4)).run Tryz.prog w=.ok (.int .u64 (b:Nat)) w:=by
 have hx0:(0:Int)<=x:=by omega
 have e:(x:Int).tmod 4=(b:Int):=by rw[Int.tmod_eq_emod_of_nonneg hx0];omega
 have e2:(x:Int)%4=(b:Int):=by omega
 have e3:IntKind.u64.wrap (b:Int)=(b:Int):=by rw[IntKind.wrap_u64];omega
 go_simp
theorem pN04(m:Nat):pN m 0%4=m%4:=by rw[pN0 m];omega
theorem ld_m0{w:World}{F m:Nat}(h:FldAt w F m):(Instr.loadAt 22 (.pointer (some ⟨F,0,none⟩))).run Tryz.prog w=.ok (.int .u64 (pN m 0:Nat)) w:=load_u64 _ _ _ _ ((h.cell 0 (by omega)).trans (by unfold frw;rw[if_pos (by omega)]))
theorem fsqrt_yes(F m n:Nat)(h3:m%4=3)(ha:n<2^256)(w:World)(hF:FldAt w F m):Calls Tryz.prog 45 #[.pointer (some ⟨F,0,none⟩),.agg (pw n)] w fun e w'=>e=.returned (.tuple #[.agg (pw (if n^(m / 2^2+1)%m*(n^(m / 2^2+1)%m)%m=n%m then n^(m / 2^2+1)%m else 0)),.bool (decide (n^(m / 2^2+1)%m*(n^(m / 2^2+1)%m)%m=n%m))])/\Below w.heap.size w w':=by
 have H0:=Lib.hid (CW.one hF n);have HR:=Lib.hid (rem4 (pN m 0) 3 ((pN04 m).trans h3) (pN_lt m 0));have HSH:=Lib.hid (fun wx=>shr_pw 2 m (by omega) hF.lt wx);have HAD:=Lib.hid (fun wx=>add_pw (m / 2^2) 1 wx);have hkl:m / 2^2+1<2^256:=by have:=hF.lt;omega
 obtain⟨k0,hk0⟩:∃ k0,m / 2^2=k0:=⟨_,rfl⟩
 rw[hk0]at HSH HAD hkl |-
 obtain⟨k,hk⟩:∃ k,k0+1=k:=⟨_,rfl⟩
 rw[hk]at HAD hkl |-
 have hvl:n^k%m<m:=Nat.mod_lt _ (by have:=hF.big;omega);have HEX:=Lib.hid (fun wx (hf:FldAt wx F m)=>fexp_any F m n k ha hkl wx hf);obtain⟨v,hv⟩:∃ v,n^k%m=v:=⟨_,rfl⟩
 rw[hv]at HEX hvl |-
 have HML:=Lib.hid (fun wx (hf:FldAt wx F m)=>fmul_any F m v v (Nat.lt_trans hvl hF.lt) (Nat.lt_trans hvl hF.lt) wx hf);have HOF:=Lib.hid (fun wx (hf:FldAt wx F m)=>fof_any F m n ha wx hf);have hul:v*v%m<2^256:=Nat.lt_trans (Nat.mod_lt _ (by omega)) hF.lt;have htl:n%m<2^256:=Nat.lt_trans (Nat.mod_lt _ (by omega)) hF.lt;obtain⟨u,hu⟩:∃ u,v*v%m=u:=⟨_,rfl⟩
 obtain⟨s0,hs0⟩:∃ s0,n%m=s0:=⟨_,rfl⟩
 rw[hu]at HML hul |-
 rw[hs0]at HOF htl |-
 have HNE:=Lib.hid (fun wx=>new_run u s0 hul htl wx);clear hF ha h3 hk0 hk hkl hvl hv hul htl hu hs0;go_enter Tryz.func45,Tryz.ntmps45
 go_upto_region 1 with(fail)
 refine q_region (CW w F m [(w.heap.size+1,#[.int .u64 0,.int .u64 0,.int .u64 0,.int .u64 0]),(w.heap.size,pw n)]) H0.out ?_
 with_reducible refine q_val (.pointer (some ⟨F,0,none⟩)) (by kernel_rfl) (fun _ _=>by kernel_rfl) ?_
 with_reducible refine q_val (.pointer (some ⟨F,0,none⟩)) (by kernel_rfl) (fun _ _=>run_nil (.tmp 8) _ rfl (by kernel_rfl)) ?_
 with_reducible refine q_sem2 (Instr.fieldAt 103 (.pointer (some ⟨F,0,none⟩)) 0) (.pointer (some ⟨F,0,none⟩)) (by kernel_rfl) (by kernel_rfl) (fun w' _=>fld_at F w') ?_
 with_reducible refine q_sem2 (Instr.indexAt 24 (.pointer (some ⟨F,0,none⟩)) (.int .i64 (0:Nat))) (.pointer (some ⟨F,0,none⟩)) (by kernel_rfl) (by kernel_rfl) (fun w' _=>by kernel_rfl) ?_
 with_reducible refine q_load 22 (.tmp 11) (.pointer (some ⟨F,0,none⟩)) (.int .u64 (pN m 0:Nat)) rfl (by kernel_rfl) (by kernel_rfl) (fun _ c=>ld_m0 c.fld) ?_
 with_reducible refine q_bin .rem 22 (.tmp 12) _ 22 (.int .u64 (pN m 0:Nat)) (.int .u64 4) (.int .u64 (3:Nat)) rfl (by kernel_rfl) (by kernel_rfl) (by kernel_rfl) (fun _=>by kernel_rfl) (fun w'=>HR.out w') ?_
 with_reducible refine q_bin .neq 22 (.tmp 13) _ 22 (.int .u64 (3:Nat)) (.int .u64 3) (.bool false) rfl (by kernel_rfl) (by kernel_rfl) (by kernel_rfl) (fun _=>by kernel_rfl) (fun w'=>(by kernel_rfl)) ?_
 with_reducible refine wpQuiet_nil ?_
 intro wx hC;have HC:=Lib.hid hC;clear hC H0 HR;simp only[Act.put,List.setIfInBounds_toArray,List.set_cons_succ,List.set_cons_zero]
 go_wp2_with fail
 refine region_tie (CW w F m [(w.heap.size+1,#[.int .u64 0,.int .u64 0,.int .u64 0,.int .u64 0]),(w.heap.size,pw n)]) (fun i s wx=>match i with | 0=>s 16=(.agg (pw 2)) | 1=>s 17=(.pointer (some ⟨F,0,none⟩)) | 2=>s 18=(.pointer (some ⟨F,0,none⟩)) | 3=>s 19=(.pointer (some ⟨F,0,none⟩)) | 4=>s 20=(.agg (pw m)) | 5=>s 21=(.agg (pw k0)) | 6=>s 22=(.agg (pw 1)) | 7=>s 23=(.agg (pw k)) | 8=>∃ D,s 6=.pointer (some ⟨D,0,none⟩)/\(w.heap.size+2)<=D/\∃ cs:Array Value,wx.heap[D]?=some (.cells cs 24 (0,0))/\cs.size=4 | 9=>∃ D,s 6=.pointer (some ⟨D,0,none⟩)/\(w.heap.size+2)<=D/\wx.heap[D]?=some (.cells (FW k 24) 24 (0,0)) | _=>True) (RT (w.heap.size+2) (FW k)) (fun i=>match i with | 0=>[16] | 1=>[17] | 2=>[18] | 3=>[19] | 4=>[20] | 5=>[21] | 6=>[22] | 7=>[23] | 8=>[6] | 9=>[6] | _=>[]) (fun i=>i) (by kernel_rfl) (by kernel_rfl) HC.out.drew ?_ ?_ ?_ ?_
 ·intro i s s' wx he hp
  match i,he,hp with
  | 0,he,hp=>exact(he 16 (by simp)).symm.trans hp
  | 1,he,hp=>exact(he 17 (by simp)).symm.trans hp
  | 2,he,hp=>exact(he 18 (by simp)).symm.trans hp
  | 3,he,hp=>exact(he 19 (by simp)).symm.trans hp
  | 4,he,hp=>exact(he 20 (by simp)).symm.trans hp
  | 5,he,hp=>exact(he 21 (by simp)).symm.trans hp
  | 6,he,hp=>exact(he 22 (by simp)).symm.trans hp
  | 7,he,hp=>exact(he 23 (by simp)).symm.trans hp
  | 8,he,hp=>obtain⟨D,h1,h2⟩:=hp;exact⟨D,(he 6 (by simp)).symm.trans h1,h2⟩
  | 9,he,hp=>obtain⟨D,h1,h2⟩:=hp;exact⟨D,(he 6 (by simp)).symm.trans h1,h2⟩
  | _+10,_,_=>trivial
 ·intro i s wa wb hR hp
  match i,hp with
  | 0,hp=>exact hp
  | 1,hp=>exact hp
  | 2,hp=>exact hp
  | 3,hp=>exact hp
  | 4,hp=>exact hp
  | 5,hp=>exact hp
  | 6,hp=>exact hp
  | 7,hp=>exact hp
  | 8,hp=>obtain⟨D,h1,h2,cs,h3,h4⟩:=hp;obtain⟨cs',h5,h6⟩:=hR.shape _ _ _ _ h3;exact⟨D,h1,h2,cs',h5,h6.trans h4⟩
  | 9,hp=>obtain⟨D,h1,h2,h3⟩:=hp;exact⟨D,h1,h2,hR.keep _ _ _ h3⟩
  | _+10,_=>trivial
 ·refine⟨?_,?_,?_,?_,?_,?_,?_,?_,?_,?_,trivial⟩
  ·intro a wx hC hsz hK
   refine tt_call 70 #[(.int .u64 (2:Nat))] (by kernel_rfl) (by kernel_rfl) ?_;exact(of_wv 2 (by omega) wx).mono fun e w' hh=>⟨_,hh.1,hC.below hh.2,(slots_put _ _ _ (by rw[hsz];exact of_decide_eq_true (by kernel_rfl))),RT.of hC.high2 hh.2⟩
  ·intro a wx hC hsz hK
   have h0:a.tmps.getD 0 undef=(.pointer (some ⟨F,0,none⟩)):=hK.1 0 (by kernel_rfl);exact tt_val ((.pointer (some ⟨F,0,none⟩))) (by kernel_rfl) (by rw[<- h0];kernel_rfl) hC (slots_put _ _ _ (by rw[hsz];exact of_decide_eq_true (by kernel_rfl))) (RT.refl _ _ _)
  ·intro a wx hC hsz hK
   have h0:a.tmps.getD 17 undef=(.pointer (some ⟨F,0,none⟩)):=hK.2 ⟨1,.data⟩ (by simp) rfl _ rfl;exact tt_val (.pointer (some ⟨F,0,none⟩)) (by kernel_rfl) (run_nil (.tmp 17) _ rfl (by rw[<- h0];kernel_rfl)) hC (slots_put _ _ _ (by rw[hsz];exact of_decide_eq_true (by kernel_rfl))) (RT.refl _ _ _)
  ·intro a wx hC hsz hK
   have h0:a.tmps.getD 18 undef=(.pointer (some ⟨F,0,none⟩)):=hK.2 ⟨2,.data⟩ (by simp) rfl _ rfl;refine tt_v (Instr.fieldAt 103 (a.tmps.getD 18 undef) 0) ((.pointer (some ⟨F,0,none⟩))) (by kernel_rfl) (by kernel_rfl) ?_ hC (slots_put _ _ _ (by rw[hsz];exact of_decide_eq_true (by kernel_rfl))) (RT.refl _ _ _);rw[h0];exact fld_at F wx
  ·intro a wx hC hsz hK
   have h0:a.tmps.getD 19 undef=(.pointer (some ⟨F,0,none⟩)):=hK.2 ⟨3,.data⟩ (by simp) rfl _ rfl;exact tt_load 24 (.tmp 19) ((.pointer (some ⟨F,0,none⟩))) ((.agg (pw m))) rfl (by kernel_rfl) h0 (ld_m hC.fld) hC (slots_put _ _ _ (by rw[hsz];exact of_decide_eq_true (by kernel_rfl))) (RT.refl _ _ _)
  ·intro a wx hC hsz hK
   have h0:a.tmps.getD 16 undef=(.agg (pw 2)):=hK.2 ⟨0,.data⟩ (by simp) rfl _ rfl;have h1:a.tmps.getD 20 undef=(.agg (pw m)):=hK.2 ⟨4,.data⟩ (by simp) rfl _ rfl;refine tt_call 69 #[a.tmps.getD 16 undef,a.tmps.getD 20 undef] (by kernel_rfl) (by kernel_rfl) ?_;rw[h0,h1];exact(HSH.out wx).mono fun e w' hh=>⟨_,hh.1,hC.below hh.2,(slots_put _ _ _ (by rw[hsz];exact of_decide_eq_true (by kernel_rfl))),RT.of hC.high2 hh.2⟩
  ·intro a wx hC hsz hK
   refine tt_call 70 #[(.int .u64 (1:Nat))] (by kernel_rfl) (by kernel_rfl) ?_;exact(of_wv 1 (by omega) wx).mono fun e w' hh=>⟨_,hh.1,hC.below hh.2,(slots_put _ _ _ (by rw[hsz];exact of_decide_eq_true (by kernel_rfl))),RT.of hC.high2 hh.2⟩
  ·intro a wx hC hsz hK
   have h0:a.tmps.getD 21 undef=(.agg (pw k0)):=hK.2 ⟨5,.data⟩ (by simp) rfl _ rfl;have h1:a.tmps.getD 22 undef=(.agg (pw 1)):=hK.2 ⟨6,.data⟩ (by simp) rfl _ rfl;refine tt_call 68 #[a.tmps.getD 21 undef,a.tmps.getD 22 undef] (by kernel_rfl) (by kernel_rfl) ?_;rw[h0,h1];exact(HAD.out wx).mono fun e w' hh=>⟨_,hh.1,hC.below hh.2,(slots_put _ _ _ (by rw[hsz];exact of_decide_eq_true (by kernel_rfl))),RT.of hC.high2 hh.2⟩
  ·intro a wx hC hsz hK
   exact tt_new (.pointer (some ⟨wx.heap.size,0,none⟩)) (by kernel_rfl) (by kernel_rfl) (hC.below ((Below.refl _ _).alloc (Nat.le_refl _) _)) ⟨_,(slots_put _ _ _ (by rw[hsz];exact of_decide_eq_true (by kernel_rfl))),hC.high2,#[.int .u64 0,.int .u64 0,.int .u64 0,.int .u64 0],heap_alloc_new _ _,rfl⟩ (RT.of hC.high2 ((Below.refl _ _).alloc (Nat.le_refl _) _))
  ·intro a wx hC hsz hK
   obtain⟨D,h1,h2,cs,h3,h4⟩:=hK.2 ⟨8,.data⟩ (by simp) rfl _ rfl;have h0:a.tmps.getD 23 undef=(.agg (pw k)):=hK.2 ⟨7,.data⟩ (by simp) rfl _ rfl;exact tt_store (by kernel_rfl) rfl (run_store 24 (.tmp 6) (.tmp 23) _ _ rfl h1 h0 (store_w h4 h3)) (hC.rowed2 h2) ⟨D,h1,h2,setRow_heap _ _ _ _ _ _ h3⟩ (RT.row h2 h3 (by rw[h4];rfl))
 intro f1 w5 hC hf1;obtain⟨E,s6,hE,hrE⟩:=hf1 9 _ rfl;have H2:=Lib.hid (show CW w F m [(E,pw k),(w.heap.size+1,#[.int .u64 0,.int .u64 0,.int .u64 0,.int .u64 0]),(w.heap.size,pw n)] w5 from⟨hC.old,hC.fld,hC.hF,fun p hp=>by
  rcases List.mem_cons.1 hp with rfl | hp
  ·exact hrE
  ·exact hC.rows p hp⟩)
 clear hC hE hrE HC HSH HAD;generalize hAct:putAll _ _ _=G at *;have s0':G.tmps.getD 0 undef=.pointer (some ⟨F,0,none⟩):=by subst hAct;kernel_rfl
 have s3:G.tmps.getD 3 undef=.pointer (some ⟨w.heap.size,0,none⟩):=by subst hAct;kernel_rfl
 have s4:G.tmps.getD 4 undef=.pointer (some ⟨w.heap.size+1,0,none⟩):=by subst hAct;kernel_rfl
 have s5:G.tmps.getD 5 undef=.bool false:=by subst hAct;kernel_rfl
 have s6':G.tmps.getD 6 undef=.pointer (some ⟨E,0,none⟩):=s6;have hsz:G.tmps.size=38:=by rw[<- hAct,putAll_size];rfl
 have hdf:G.defers=[]:=by subst hAct;kernel_rfl
 clear hAct s6 hf1;obtain⟨u1,t1⟩:∃ u,G.tmps.getD 1 undef=u:=⟨_,rfl⟩
 obtain⟨u2,t2⟩:∃ u,G.tmps.getD 2 undef=u:=⟨_,rfl⟩
 obtain⟨u7,t7⟩:∃ u,G.tmps.getD 7 undef=u:=⟨_,rfl⟩
 obtain⟨u8,t8⟩:∃ u,G.tmps.getD 8 undef=u:=⟨_,rfl⟩
 obtain⟨u9,t9⟩:∃ u,G.tmps.getD 9 undef=u:=⟨_,rfl⟩
 obtain⟨u10,t10⟩:∃ u,G.tmps.getD 10 undef=u:=⟨_,rfl⟩
 obtain⟨u11,t11⟩:∃ u,G.tmps.getD 11 undef=u:=⟨_,rfl⟩
 obtain⟨u12,t12⟩:∃ u,G.tmps.getD 12 undef=u:=⟨_,rfl⟩
 obtain⟨u13,t13⟩:∃ u,G.tmps.getD 13 undef=u:=⟨_,rfl⟩
 obtain⟨u14,t14⟩:∃ u,G.tmps.getD 14 undef=u:=⟨_,rfl⟩
 obtain⟨u15,t15⟩:∃ u,G.tmps.getD 15 undef=u:=⟨_,rfl⟩
 obtain⟨u16,t16⟩:∃ u,G.tmps.getD 16 undef=u:=⟨_,rfl⟩
 obtain⟨u17,t17⟩:∃ u,G.tmps.getD 17 undef=u:=⟨_,rfl⟩
 obtain⟨u18,t18⟩:∃ u,G.tmps.getD 18 undef=u:=⟨_,rfl⟩
 obtain⟨u19,t19⟩:∃ u,G.tmps.getD 19 undef=u:=⟨_,rfl⟩
 obtain⟨u20,t20⟩:∃ u,G.tmps.getD 20 undef=u:=⟨_,rfl⟩
 obtain⟨u21,t21⟩:∃ u,G.tmps.getD 21 undef=u:=⟨_,rfl⟩
 obtain⟨u22,t22⟩:∃ u,G.tmps.getD 22 undef=u:=⟨_,rfl⟩
 obtain⟨u23,t23⟩:∃ u,G.tmps.getD 23 undef=u:=⟨_,rfl⟩
 obtain⟨u24,t24⟩:∃ u,G.tmps.getD 24 undef=u:=⟨_,rfl⟩
 obtain⟨u25,t25⟩:∃ u,G.tmps.getD 25 undef=u:=⟨_,rfl⟩
 obtain⟨u26,t26⟩:∃ u,G.tmps.getD 26 undef=u:=⟨_,rfl⟩
 obtain⟨u27,t27⟩:∃ u,G.tmps.getD 27 undef=u:=⟨_,rfl⟩
 obtain⟨u28,t28⟩:∃ u,G.tmps.getD 28 undef=u:=⟨_,rfl⟩
 obtain⟨u29,t29⟩:∃ u,G.tmps.getD 29 undef=u:=⟨_,rfl⟩
 obtain⟨u30,t30⟩:∃ u,G.tmps.getD 30 undef=u:=⟨_,rfl⟩
 obtain⟨u31,t31⟩:∃ u,G.tmps.getD 31 undef=u:=⟨_,rfl⟩
 obtain⟨u32,t32⟩:∃ u,G.tmps.getD 32 undef=u:=⟨_,rfl⟩
 obtain⟨u33,t33⟩:∃ u,G.tmps.getD 33 undef=u:=⟨_,rfl⟩
 obtain⟨u34,t34⟩:∃ u,G.tmps.getD 34 undef=u:=⟨_,rfl⟩
 obtain⟨u35,t35⟩:∃ u,G.tmps.getD 35 undef=u:=⟨_,rfl⟩
 obtain⟨u36,t36⟩:∃ u,G.tmps.getD 36 undef=u:=⟨_,rfl⟩
 obtain⟨u37,t37⟩:∃ u,G.tmps.getD 37 undef=u:=⟨_,rfl⟩
 obtain⟨tm,df⟩:=G;simp only at *;have hLt:=arr_lit4 tm;rw[hsz]at hLt;simp only[List.range,List.range.loop,List.map]at hLt;rw[s0',t1,t2,s3,s4,s5,s6',t7,t8,t9,t10,t11,t12,t13,t14,t15,t16,t17,t18,t19,t20,t21,t22,t23,t24,t25,t26,t27,t28,t29,t30,t31,t32,t33,t34,t35,t36,t37]at hLt;subst hLt hdf;clear s0' t1 t2 s3 s4 s5 s6' t7 t8 t9 t10 t11 t12 t13 t14 t15 t16 t17 t18 t19 t20 t21 t22 t23 t24 t25 t26 t27 t28 t29 t30 t31 t32 t33 t34 t35 t36 t37 hsz
 go_wp2_with (first | (refine wpList_ld rfl 24 _ rfl (.pointer (some ⟨w.heap.size,0,none⟩)) (.agg (pw n)) rfl (ld_pw (by exact H2.out.is _ _ (by simp))) ?_) | (refine wpList_ld rfl 24 _ rfl (.pointer (some ⟨E,0,none⟩)) (.agg (pw k)) rfl (ld_pw (by exact H2.out.is _ _ (by simp))) ?_))
 refine(HEX.out _ H2.out.fld).mono ?_;rintro e w6 ⟨rfl,hb6⟩;have c6:=H2.out.below hb6;have HV0:=Lib.hid (heap_alloc_new w6 (.cells (#[.int .u64 0,.int .u64 0,.int .u64 0,.int .u64 0]) 24));have H3:=Lib.hid (show CW w F m [(w6.heap.size,pw v),(w.heap.size+1,#[.int .u64 0,.int .u64 0,.int .u64 0,.int .u64 0]),(w.heap.size,pw n)] ((w6.alloc (.cells (#[.int .u64 0,.int .u64 0,.int .u64 0,.int .u64 0]) 24)).setRow w6.heap.size (pw v)) from by
  have h1:w.heap.size+1<w6.heap.size:=(Array.getElem?_eq_some_iff.1 (c6.is (w.heap.size+1) (#[.int .u64 0,.int .u64 0,.int .u64 0,.int .u64 0]) (by simp))).1;exact(c6.new (#[.int .u64 0,.int .u64 0,.int .u64 0,.int .u64 0])).put w6.heap.size (#[.int .u64 0,.int .u64 0,.int .u64 0,.int .u64 0]) (pw v) _ c6.old.size (by simp) (fun p hp=>by
   simp only[List.mem_cons,List.not_mem_nil,or_false]at hp;rcases hp with rfl | rfl
   ·exact⟨by simp,by show w.heap.size+1≠_;omega⟩
   ·exact⟨by simp,by show w.heap.size≠_;omega⟩))
 clear c6 hb6 HEX
 go_wp2_with (refine wpList_store_row rfl 24 _ _ rfl w6.heap.size (pw v) rfl rfl 24 (#[.int .u64 0,.int .u64 0,.int .u64 0,.int .u64 0]) (by exact HV0.out) (by rw[pw_size];exact infoW4) (by rw[pw_size];rfl) (pw_one _) ?_)
 obtain⟨w7,hw7⟩:∃ w7,(w6.alloc (.cells (#[.int .u64 0,.int .u64 0,.int .u64 0,.int .u64 0]) 24)).setRow w6.heap.size (pw v)=w7:=⟨_,rfl⟩
 obtain⟨g,hg⟩:∃ g,w6.heap.size=g:=⟨_,rfl⟩
 rw[hw7,hg]at H3;rw[hw7,hg];clear hw7 hg HV0 H2;by_cases h1:u=s0
 ·rw[show(!decide (u=s0))=false from by simp[h1]]at HNE
  refine wp_region_quiet (C:=CW w F m [(g,pw v),(w.heap.size+1,#[.int .u64 0,.int .u64 0,.int .u64 0,.int .u64 0]),(w.heap.size,pw n)]) (by kernel_rfl) (by kernel_rfl) (H3.out.drew) ?_;simp only
  with_reducible refine q_val (.pointer (some ⟨F,0,none⟩)) (by kernel_rfl) (fun _ _=>by kernel_rfl) ?_
  with_reducible refine q_load 24 (.tmp 7) (.pointer (some ⟨g,0,none⟩)) (.agg (pw v)) rfl (by kernel_rfl) (by kernel_rfl) (fun _ c=>ld_pw (c.is _ _ (by simp))) ?_
  with_reducible refine q_load 24 (.tmp 7) (.pointer (some ⟨g,0,none⟩)) (.agg (pw v)) rfl (by kernel_rfl) (by kernel_rfl) (fun _ c=>ld_pw (c.is _ _ (by simp))) ?_
  with_reducible refine q_call 72 #[.pointer (some ⟨F,0,none⟩),.agg (pw v),.agg (pw v)] (.agg (pw u)) (by kernel_rfl) (fun _=>by kernel_rfl) (CW.calls HML.out) ?_
  with_reducible refine q_val (.pointer (some ⟨F,0,none⟩)) (by kernel_rfl) (fun _ _=>by kernel_rfl) ?_
  with_reducible refine q_load 24 (.tmp 3) (.pointer (some ⟨w.heap.size,0,none⟩)) (.agg (pw n)) rfl (by kernel_rfl) (by kernel_rfl) (fun _ c=>ld_pw (c.is _ _ (by simp))) ?_
  with_reducible refine q_call 73 #[.pointer (some ⟨F,0,none⟩),.agg (pw n)] (.agg (pw s0)) (by kernel_rfl) (fun _=>by kernel_rfl) (CW.calls HOF.out) ?_
  with_reducible refine q_bin .neq 24 _ _ 24 (.agg (pw u)) (.agg (pw s0)) (.bool false) rfl (by kernel_rfl) (by kernel_rfl) (by kernel_rfl) (fun _=>by kernel_rfl) (fun w'=>HNE.out w') ?_
  with_reducible refine wpQuiet_nil ?_
  intro wx hC;have HC:=Lib.hid hC;clear hC H3;simp only[Act.put,List.setIfInBounds_toArray,List.set_cons_succ,List.set_cons_zero]
  go_wp2_with (first | (refine wpList_ld rfl 24 _ rfl (.pointer (some ⟨g,0,none⟩)) (.agg (pw v)) rfl (ld_pw (by exact HC.out.is _ _ (by simp))) ?_) | (refine wpList_store_row rfl 24 _ _ rfl (w.heap.size+1) (pw v) rfl rfl 24 (#[.int .u64 0,.int .u64 0,.int .u64 0,.int .u64 0]) (by exact HC.out.is _ _ (by simp)) (by rw[pw_size];exact infoW4) (by first | rfl | (rw[pw_size];rfl) | (rw[pw_size,pw_size])) (pw_one _) ?_))
  refine bodyPost_ret (v:=.tuple #[.agg (pw v),.bool true]) (res_cell_tmp (p:=4) (u:=5) (vb:=.bool true) rfl _ _ (w.heap.size+1) 24 (pw v) (0,0) _ rfl rfl (setRow_heap _ _ _ _ _ _ (HC.out.is (w.heap.size+1) (#[.int .u64 0,.int .u64 0,.int .u64 0,.int .u64 0]) (by simp))) Tryz.underlying24 rfl (by rw[pw_size];exact infoW4)) rfl ⟨rfl,below_setRow HC.out.old (by omega) _⟩
 ·rw[show(!decide (u=s0))=true from by simp[h1]]at HNE
  refine wp_region_quiet (C:=CW w F m [(g,pw v),(w.heap.size+1,#[.int .u64 0,.int .u64 0,.int .u64 0,.int .u64 0]),(w.heap.size,pw n)]) (by kernel_rfl) (by kernel_rfl) (H3.out.drew) ?_;simp only
  with_reducible refine q_val (.pointer (some ⟨F,0,none⟩)) (by kernel_rfl) (fun _ _=>by kernel_rfl) ?_
  with_reducible refine q_load 24 (.tmp 7) (.pointer (some ⟨g,0,none⟩)) (.agg (pw v)) rfl (by kernel_rfl) (by kernel_rfl) (fun _ c=>ld_pw (c.is _ _ (by simp))) ?_
  with_reducible refine q_load 24 (.tmp 7) (.pointer (some ⟨g,0,none⟩)) (.agg (pw v)) rfl (by kernel_rfl) (by kernel_rfl) (fun _ c=>ld_pw (c.is _ _ (by simp))) ?_
  with_reducible refine q_call 72 #[.pointer (some ⟨F,0,none⟩),.agg (pw v),.agg (pw v)] (.agg (pw u)) (by kernel_rfl) (fun _=>by kernel_rfl) (CW.calls HML.out) ?_
  with_reducible refine q_val (.pointer (some ⟨F,0,none⟩)) (by kernel_rfl) (fun _ _=>by kernel_rfl) ?_
  with_reducible refine q_load 24 (.tmp 3) (.pointer (some ⟨w.heap.size,0,none⟩)) (.agg (pw n)) rfl (by kernel_rfl) (by kernel_rfl) (fun _ c=>ld_pw (c.is _ _ (by simp))) ?_
  with_reducible refine q_call 73 #[.pointer (some ⟨F,0,none⟩),.agg (pw n)] (.agg (pw s0)) (by kernel_rfl) (fun _=>by kernel_rfl) (CW.calls HOF.out) ?_
  with_reducible refine q_bin .neq 24 _ _ 24 (.agg (pw u)) (.agg (pw s0)) (.bool true) rfl (by kernel_rfl) (by kernel_rfl) (by kernel_rfl) (fun _=>by kernel_rfl) (fun w'=>HNE.out w') ?_
  with_reducible refine wpQuiet_nil ?_
  intro wx hC;have HC:=Lib.hid hC;clear hC H3;simp only[Act.put,List.setIfInBounds_toArray,List.set_cons_succ,List.set_cons_zero]
  go_wp2_with (refine wpList_store_row rfl 24 _ _ rfl (w.heap.size+1) (pw 0) rfl rfl 24 (#[.int .u64 0,.int .u64 0,.int .u64 0,.int .u64 0]) (by exact HC.out.is _ _ (by simp)) (by rw[pw_size];exact infoW4) (by first | rfl | (rw[pw_size];rfl) | (rw[pw_size,pw_size])) (pw_one _) ?_)
  refine bodyPost_ret (v:=.tuple #[.agg (pw 0),.bool false]) (res_cell_tmp (p:=4) (u:=5) (vb:=.bool false) rfl _ _ (w.heap.size+1) 24 (pw 0) (0,0) _ rfl rfl (setRow_heap _ _ _ _ _ _ (HC.out.is (w.heap.size+1) (#[.int .u64 0,.int .u64 0,.int .u64 0,.int .u64 0]) (by simp))) Tryz.underlying24 rfl (by rw[pw_size];exact infoW4)) rfl ⟨rfl,below_setRow HC.out.old (by omega) _⟩
structure CRing (K:Type) where
 add:K->K->K
 mul:K->K->K
 neg:K->K
 zero:K
 one:K
 add_assoc:∀ a b c,add (add a b) c=add a (add b c)
 add_comm:∀ a b,add a b=add b a
 add_zero:∀ a,add a zero=a
 add_neg:∀ a,add a (neg a)=zero
 mul_assoc:∀ a b c,mul (mul a b) c=mul a (mul b c)
 mul_comm:∀ a b,mul a b=mul b a
 mul_one:∀ a,mul a one=a
 mul_add:∀ a b c,mul a (add b c)=add (mul a b) (mul a c)
structure Ops (R:Type) where
 add:R->R->R
 mul:R->R->R
 sub:R->R->R
namespace CRing
variable {K:Type} (C:CRing K)
def sub(a b:K):K:=C.add a (C.neg b)
def ops:Ops K:=⟨C.add,C.mul,C.sub⟩
theorem zero_add(a:K):C.add C.zero a=a:=by rw[C.add_comm,C.add_zero]
theorem one_mul(a:K):C.mul C.one a=a:=by rw[C.mul_comm,C.mul_one]
theorem add_mul(a b c:K):C.mul (C.add a b) c=C.add (C.mul a c) (C.mul b c):=by rw[C.mul_comm,C.mul_add,C.mul_comm c a,C.mul_comm c b]
theorem add_left(a b c:K):C.add a (C.add b c)=C.add b (C.add a c):=by rw[<- C.add_assoc,C.add_comm a b,C.add_assoc]
theorem add_cancel{a b c:K}(h:C.add a c=C.add b c):a=b:=by
 have h2:=congrArg (fun x=>C.add x (C.neg c)) h;simp only[C.add_assoc,C.add_neg,C.add_zero]at h2;exact h2
theorem mul_zero(a:K):C.mul a C.zero=C.zero:=by
 apply C.add_cancel (c:=C.mul a C.zero);rw[<- C.mul_add,C.add_zero,C.zero_add]
theorem zero_mul(a:K):C.mul C.zero a=C.zero:=by rw[C.mul_comm,C.mul_zero]
theorem swap4(a b c d:K):C.add (C.add a b) (C.add c d)=C.add (C.add a c) (C.add b d):=by
 rw[C.add_assoc,C.add_assoc,C.add_left b c d]
theorem sub_self(a:K):C.sub a a=C.zero:=C.add_neg a
theorem sub_add(a b:K):C.add (C.sub a b) b=a:=by
 unfold sub;rw[C.add_assoc,C.add_comm (C.neg b) b,C.add_neg,C.add_zero]
theorem eq_of_sub{a b:K}(h:C.sub a b=C.zero):a=b:=by rw[<- C.sub_add a b,h,C.zero_add]
theorem neg_zero:C.neg C.zero=C.zero:=by
 have h:=C.add_neg C.zero;rwa [C.zero_add]at h
theorem sub_zero(a:K):C.sub a C.zero=a:=by unfold sub;rw[C.neg_zero,C.add_zero]
theorem mul_neg(a b:K):C.mul a (C.neg b)=C.neg (C.mul a b):=by
 apply C.add_cancel (c:=C.mul a b);rw[<- C.mul_add,C.add_comm (C.neg b) b,C.add_neg,C.mul_zero,C.add_comm,C.add_neg]
theorem mul_sub(a b c:K):C.mul a (C.sub b c)=C.sub (C.mul a b) (C.mul a c):=by unfold sub;rw[C.mul_add,C.mul_neg]
def nat:Nat->K
 | 0=>C.zero
 | n+1=>C.add (nat n) C.one
def pow(a:K):Nat->K
 | 0=>C.one
 | n+1=>C.mul (pow a n) a
theorem pow_add(a:K)(m:Nat):∀ n,C.pow a (m+n)=C.mul (C.pow a m) (C.pow a n)
 | 0=>(C.mul_one _).symm
 | n+1=>by rw[<- Nat.add_assoc,pow,pow,pow_add a m n,C.mul_assoc]
theorem mul4(a b c d:K):C.mul (C.mul a b) (C.mul c d)=C.mul (C.mul a c) (C.mul b d):=by
 rw[C.mul_assoc,C.mul_assoc,<- C.mul_assoc b c d,C.mul_comm b c,C.mul_assoc c b d]
end CRing
abbrev Mn:=Nat × Nat × Nat × Nat
def Mn.mul(m n:Mn):Mn:=(m.1+n.1,m.2.1+n.2.1,m.2.2.1+n.2.2.1,m.2.2.2+n.2.2.2)
def Mn.var:Nat->Mn
 | 0=>(1,0,0,0)
 | 1=>(0,1,0,0)
 | 2=>(0,0,1,0)
 | _=>(0,0,0,1)
inductive Ex
 | v (i:Nat)
 | k (n:Nat)
 | add (a b:Ex)
 | mul (a b:Ex)
 | sub (a b:Ex)
def Ex.ops:Ops Ex:=⟨.add,.mul,.sub⟩
def mulL(p q:List Mn):List Mn:=p.flatMap fun m=>q.map (Mn.mul m)
def degMax(a b:Mn):Mn:=(max a.1 b.1,max a.2.1 b.2.1,max a.2.2.1 b.2.2.1,max a.2.2.2 b.2.2.2)
def ndAdd(p q:Nat × Mn):Nat × Mn:=if p.1=0 then q else if q.1=0 then p else (p.1+q.1,degMax p.2 q.2)
def ndMul(p q:Nat × Mn):Nat × Mn:=if p.1=0 then p else if q.1=0 then q else (p.1*q.1,p.2.mul q.2)
namespace Ex
def pm:Ex->List Mn × List Mn
 | .v i=>([Mn.var i],[])
 | .k n=>(List.replicate n (0,0,0,0),[])
 | .add a b=>(a.pm.1++b.pm.1,a.pm.2++b.pm.2)
 | .sub a b=>(a.pm.1++b.pm.2,a.pm.2++b.pm.1)
 | .mul a b=>(mulL a.pm.1 b.pm.1++mulL a.pm.2 b.pm.2,mulL a.pm.1 b.pm.2++mulL a.pm.2 b.pm.1)
def norm:Ex->Nat
 | .v _=>1
 | .k n=>n
 | .add a b=>a.norm+b.norm
 | .sub a b=>a.norm+b.norm
 | .mul a b=>a.norm*b.norm
def nd:Ex->Nat × Mn
 | .v i=>(1,Mn.var i)
 | .k n=>(n,(0,0,0,0))
 | .add a b=>ndAdd a.nd b.nd
 | .sub a b=>ndAdd a.nd b.nd
 | .mul a b=>ndMul a.nd b.nd
section
variable {K:Type} (C:CRing K) (r:Nat->K)
def eval:Ex->K
 | .v 0=>r 0
 | .v 1=>r 1
 | .v 2=>r 2
 | .v _=>r 3
 | .k n=>C.nat n
 | .add a b=>C.add a.eval b.eval
 | .sub a b=>C.sub a.eval b.eval
 | .mul a b=>C.mul a.eval b.eval
end
end Ex
section
variable {K:Type} (C:CRing K) (r:Nat->K)
def Mn.val(m:Mn):K:=C.mul (C.mul (C.pow (r 0) m.1) (C.pow (r 1) m.2.1)) (C.mul (C.pow (r 2) m.2.2.1) (C.pow (r 3) m.2.2.2))
def sumL:List Mn->K
 | []=>C.zero
 | m::l=>C.add (m.val C r) (sumL l)
theorem val_mul(m n:Mn):(m.mul n).val C r=C.mul (m.val C r) (n.val C r):=by
 unfold Mn.val Mn.mul;simp only[C.pow_add];rw[C.mul4 (C.pow (r 0) m.1),C.mul4 (C.pow (r 2) m.2.2.1),C.mul4 (C.mul (C.pow (r 0) m.1) (C.pow (r 1) m.2.1))]
theorem sumL_append(p q:List Mn):sumL C r (p++q)=C.add (sumL C r p) (sumL C r q):=by
 induction p with
 | nil=>exact(C.zero_add _).symm
 | cons m p ih=>rw[List.cons_append,sumL,sumL,ih,C.add_assoc]
theorem sumL_map(m:Mn)(q:List Mn):sumL C r (q.map (Mn.mul m))=C.mul (m.val C r) (sumL C r q):=by
 induction q with
 | nil=>exact(C.mul_zero _).symm
 | cons n q ih=>rw[List.map_cons,sumL,sumL,ih,val_mul,C.mul_add]
theorem sumL_mul(p q:List Mn):sumL C r (mulL p q)=C.mul (sumL C r p) (sumL C r q):=by
 induction p with
 | nil=>exact(C.zero_mul _).symm
 | cons m p ih =>
  show sumL C r (q.map (Mn.mul m)++mulL p q)=_;rw[sumL_append,sumL_map,ih,sumL,C.add_mul]
theorem sumL_perm{p q:List Mn}(h:p.Perm q):sumL C r p=sumL C r q:=by
 induction h with
 | nil=>rfl
 | cons m _ ih=>rw[sumL,sumL,ih]
 | swap m n l=>rw[sumL,sumL,sumL,sumL,C.add_left]
 | trans _ _ h1 h2=>rw[h1,h2]
theorem kval_one:Mn.val C r (0,0,0,0)=C.one:=by
 unfold Mn.val CRing.pow;rw[C.mul_one,C.mul_one]
theorem sum_nat(n:Nat):sumL C r (List.replicate n (0,0,0,0))=C.nat n:=by
 induction n with
 | zero=>rfl
 | succ n ih=>rw[List.replicate_succ,sumL,ih,kval_one,CRing.nat,C.add_comm]
theorem val_var(i:Nat):sumL C r [Mn.var i]=(Ex.v i).eval C r:=by
 rw[sumL,sumL,C.add_zero]
 match i with
 | 0=>unfold Mn.val Mn.var Ex.eval;simp only[CRing.pow,C.mul_one,C.one_mul]
 | 1=>unfold Mn.val Mn.var Ex.eval;simp only[CRing.pow,C.mul_one,C.one_mul]
 | 2=>unfold Mn.val Mn.var Ex.eval;simp only[CRing.pow,C.mul_one,C.one_mul]
 | _+3=>unfold Mn.val Mn.var Ex.eval;simp only[CRing.pow,C.mul_one,C.one_mul]
theorem eval_pm(e:Ex):C.add (e.eval C r) (sumL C r e.pm.2)=sumL C r e.pm.1:=by
 induction e with
 | v i=>rw[Ex.pm,val_var];exact C.add_zero _
 | k n=>rw[Ex.pm,sum_nat];exact C.add_zero _
 | add a b iha ihb=>rw[Ex.pm,Ex.eval,sumL_append,sumL_append,C.swap4,iha,ihb]
 | sub a b iha ihb =>
  rw[Ex.pm,Ex.eval,sumL_append,sumL_append];rw[<- iha,<- ihb,<- C.add_assoc,<- C.add_assoc];congr 1;rw[C.add_assoc,C.add_comm (sumL C r a.pm.2) (b.eval C r),<- C.add_assoc,C.sub_add]
 | mul a b iha ihb =>
  rw[Ex.pm,Ex.eval,sumL_append,sumL_append,sumL_mul,sumL_mul,sumL_mul,sumL_mul];rw[<- iha,<- ihb];generalize a.eval C r=x;generalize b.eval C r=y;generalize sumL C r a.pm.2=s;generalize sumL C r b.pm.2=t;simp only[C.mul_add,C.add_mul,C.add_assoc];congr 1;rw[C.add_comm (C.mul s t) (C.add (C.mul s y) (C.mul s t)),C.add_assoc,C.add_left]
end
def powL(B:Nat):List Nat->Nat
 | []=>0
 | c::l=>B^c+powL B l
theorem powL_split(B:Nat)(l:List Nat):powL B l=l.count 0+B*powL B ((l.filter (·≠0)).map Nat.pred):=by
 induction l with
 | nil=>rfl
 | cons c l ih =>
  cases c with
  | zero =>
   rw[powL,ih,List.count_cons_self,List.filter_cons_of_neg (by simp)];simp only[Nat.pow_zero];omega
  | succ c =>
   rw[powL,ih,List.count_cons_of_ne (by simp),List.filter_cons_of_pos (by simp),List.map_cons,powL,Nat.pow_succ,Nat.pred_succ,Nat.mul_add,Nat.mul_comm (B^c) B];omega
theorem count_succ(l:List Nat)(c:Nat):l.count (c+1)=((l.filter (·≠0)).map Nat.pred).count c:=by
 induction l with
 | nil=>rfl
 | cons d l ih =>
  cases d with
  | zero=>rw[List.count_cons_of_ne (by simp),List.filter_cons_of_neg (by simp),ih]
  | succ d =>
   rw[List.filter_cons_of_pos (by simp),List.map_cons,Nat.pred_succ];by_cases e:d=c
   ·subst e
    rw[List.count_cons_self,List.count_cons_self,ih]
   ·rw[List.count_cons_of_ne (by omega),List.count_cons_of_ne (by omega),ih]
theorem len_le(l:List Nat):((l.filter (·≠0)).map Nat.pred).length<=l.length:=by
 rw[List.length_map];exact List.length_filter_le _ _
theorem powL_inj{B:Nat}:∀(c:Nat) (p q:List Nat),p.length<B->q.length<B->powL B p=powL B q->p.count c=q.count c:=by
 intro c
 induction c with
 | zero =>
  intro p q hp hq h;rw[powL_split B p,powL_split B q]at h;have h1:=congrArg (·%B) h;simp only[Nat.add_mul_mod_self_left]at h1;rwa [Nat.mod_eq_of_lt (Nat.lt_of_le_of_lt List.count_le_length hp),Nat.mod_eq_of_lt (Nat.lt_of_le_of_lt List.count_le_length hq)]at h1
 | succ c ih =>
  intro p q hp hq h;have h0:p.count 0=q.count 0:=by
   have h2:=h;rw[powL_split B p,powL_split B q]at h2;have h1:=congrArg (·%B) h2;simp only[Nat.add_mul_mod_self_left]at h1;rwa [Nat.mod_eq_of_lt (Nat.lt_of_le_of_lt List.count_le_length hp),Nat.mod_eq_of_lt (Nat.lt_of_le_of_lt List.count_le_length hq)]at h1
  rw[count_succ,count_succ];refine ih _ _ (Nat.lt_of_le_of_lt (len_le p) hp) (Nat.lt_of_le_of_lt (len_le q) hq) ?_;rw[powL_split B p,powL_split B q,h0]at h;exact Nat.eq_of_mul_eq_mul_left (by omega) (Nat.add_left_cancel h)
def Mn.code(d:Mn)(m:Mn):Nat:=m.1+(d.1+1)*(m.2.1+(d.2.1+1)*(m.2.2.1+(d.2.2.1+1)*m.2.2.2))
def Mn.back(d:Mn)(c:Nat):Mn:=(c%(d.1+1),c / (d.1+1)%(d.2.1+1),c / (d.1+1) / (d.2.1+1)%(d.2.2.1+1),c / (d.1+1) / (d.2.1+1) / (d.2.2.1+1))
def Mn.le(m d:Mn):Prop:=m.1<=d.1/\m.2.1<=d.2.1/\m.2.2.1<=d.2.2.1/\m.2.2.2<=d.2.2.2
theorem back_code{m d:Mn}(h:m.le d):Mn.back d (Mn.code d m)=m:=by
 obtain⟨h1,h2,h3,-⟩:=h;have dm:∀ a n q:Nat,a<=n->(a+(n+1)*q)%(n+1)=a/\(a+(n+1)*q) / (n+1)=q:=fun a n q ha=>⟨by rw[Nat.add_mul_mod_self_left,Nat.mod_eq_of_lt (by omega)],by rw[Nat.add_mul_div_left _ _ (by omega),Nat.div_eq_of_lt (by omega),Nat.zero_add]⟩
 unfold Mn.back Mn.code;rw[(dm _ _ _ h1).1,(dm _ _ _ h1).2,(dm _ _ _ h2).1,(dm _ _ _ h2).2,(dm _ _ _ h3).1,(dm _ _ _ h3).2]
theorem perm_of_codes{B:Nat}{d:Mn}{p q:List Mn}(hp:∀ m∈p,m.le d)(hq:∀ m∈q,m.le d)(lp:p.length<B)(lq:q.length<B)(h:powL B (p.map (Mn.code d))=powL B (q.map (Mn.code d))):p.Perm q:=by
 have hc:(p.map (Mn.code d)).Perm (q.map (Mn.code d)):=List.perm_iff_count.2 fun c=>powL_inj c _ _ (by rw[List.length_map];exact lp) (by rw[List.length_map];exact lq) h;have h2:=hc.map (Mn.back d);have key:∀ l:List Mn,(∀ m∈l,m.le d)->(l.map (Mn.code d)).map (Mn.back d)=l:=fun l hl=>by
  rw[List.map_map]
  conv=>rhs;rw[<- List.map_id l]
  exact List.map_congr_left fun m hm=>back_code (hl m hm)
 rwa [key p hp,key q hq]at h2
theorem mem_mulL{p q:List Mn}{m:Mn}(h:m∈mulL p q):∃ x∈p,∃ y∈q,m=x.mul y:=by
 unfold mulL at h;rw[List.mem_flatMap]at h;obtain⟨x,hx,h⟩:=h;rw[List.mem_map]at h;obtain⟨y,hy,h⟩:=h;exact⟨x,hx,y,hy,h.symm⟩
theorem len_mulL(p q:List Mn):(mulL p q).length=p.length*q.length:=by
 unfold mulL
 induction p with
 | nil=>simp
 | cons m p ih=>rw[List.flatMap_cons,List.length_append,ih,List.length_map,List.length_cons,Nat.succ_mul,Nat.add_comm]
theorem le_mul{x y d e:Mn}(h1:x.le d)(h2:y.le e):(x.mul y).le (d.mul e):=⟨Nat.add_le_add h1.1 h2.1,Nat.add_le_add h1.2.1 h2.2.1,Nat.add_le_add h1.2.2.1 h2.2.2.1,Nat.add_le_add h1.2.2.2 h2.2.2.2⟩
theorem pm_len(e:Ex):e.pm.1.length+e.pm.2.length=e.norm:=by
 induction e with
 | v i=>rfl
 | k n=>simp[Ex.pm,Ex.norm]
 | add a b iha ihb=>simp only[Ex.pm,Ex.norm,List.length_append];omega
 | sub a b iha ihb=>simp only[Ex.pm,Ex.norm,List.length_append];omega
 | mul a b iha ihb =>
  simp only[Ex.pm,Ex.norm,List.length_append,len_mulL];rw[<- iha,<- ihb,Nat.add_mul,Nat.mul_add,Nat.mul_add];omega
theorem nd_add(p q:Nat × Mn):(ndAdd p q).1=p.1+q.1:=by
 unfold ndAdd;by_cases h:p.1=0
 ·rw[if_pos h,h,Nat.zero_add]
 ·rw[if_neg h]
  by_cases h2:q.1=0
  ·rw[if_pos h2,h2,Nat.add_zero]
  ·rw[if_neg h2]
theorem nd_mul(p q:Nat × Mn):(ndMul p q).1=p.1*q.1:=by
 unfold ndMul;by_cases h:p.1=0
 ·rw[if_pos h,h,Nat.zero_mul]
 ·rw[if_neg h]
  by_cases h2:q.1=0
  ·rw[if_pos h2,h2,Nat.mul_zero]
  ·rw[if_neg h2]
theorem nd_norm(e:Ex):e.nd.1=e.norm:=by
 induction e with
 | v i=>rfl
 | k n=>rfl
 | add a b iha ihb=>rw[Ex.nd,nd_add,iha,ihb];rfl
 | sub a b iha ihb=>rw[Ex.nd,nd_add,iha,ihb];rfl
 | mul a b iha ihb=>rw[Ex.nd,nd_mul,iha,ihb];rfl
theorem pm_none{e:Ex}(h:e.nd.1=0):e.pm.1=[]/\e.pm.2=[]:=by
 have h1:=pm_len e;rw[<- nd_norm,h]at h1;exact⟨List.length_eq_zero_iff.1 (by omega),List.length_eq_zero_iff.1 (by omega)⟩
theorem le_left{a b m:Mn}(h:m.le a):m.le (degMax a b):=⟨Nat.le_trans h.1 (Nat.le_max_left _ _),Nat.le_trans h.2.1 (Nat.le_max_left _ _),Nat.le_trans h.2.2.1 (Nat.le_max_left _ _),Nat.le_trans h.2.2.2 (Nat.le_max_left _ _)⟩
theorem le_right{a b m:Mn}(h:m.le b):m.le (degMax a b):=⟨Nat.le_trans h.1 (Nat.le_max_right _ _),Nat.le_trans h.2.1 (Nat.le_max_right _ _),Nat.le_trans h.2.2.1 (Nat.le_max_right _ _),Nat.le_trans h.2.2.2 (Nat.le_max_right _ _)⟩
theorem nd_le{a b:Ex}{m:Mn}(ha:(∀ m∈a.pm.1,m.le a.nd.2)/\∀ m∈a.pm.2,m.le a.nd.2)(hb:(∀ m∈b.pm.1,m.le b.nd.2)/\∀ m∈b.pm.2,m.le b.nd.2)(h:(m∈a.pm.1\/m∈a.pm.2)\/(m∈b.pm.1\/m∈b.pm.2)):m.le (ndAdd a.nd b.nd).2:=by
 unfold ndAdd;by_cases h1:a.nd.1=0
 ·rw[if_pos h1]
  rw[(pm_none h1).1,(pm_none h1).2]at h;rcases h with(h | h) | h | h
  ·cases h
  ·cases h
  ·exact hb.1 m h
  ·exact hb.2 m h
 ·rw[if_neg h1]
  by_cases h2:b.nd.1=0
  ·rw[if_pos h2]
   rw[(pm_none h2).1,(pm_none h2).2]at h;rcases h with(h | h) | h | h
   ·exact ha.1 m h
   ·exact ha.2 m h
   ·cases h
   ·cases h
  ·rw[if_neg h2]
   rcases h with(h | h) | h | h
   ·exact le_left (ha.1 m h)
   ·exact le_left (ha.2 m h)
   ·exact le_right (hb.1 m h)
   ·exact le_right (hb.2 m h)
theorem pm_deg(e:Ex):(∀ m∈e.pm.1,m.le e.nd.2)/\∀ m∈e.pm.2,m.le e.nd.2:=by
 induction e with
 | v i =>
  refine⟨fun m hm=>?_,fun m hm=>by cases hm⟩;have:m=Mn.var i:=by simpa[Ex.pm]using hm
  subst this;exact⟨Nat.le_refl _,Nat.le_refl _,Nat.le_refl _,Nat.le_refl _⟩
 | k n =>
  refine⟨fun m hm=>?_,fun m hm=>by cases hm⟩;have:m=(0,0,0,0):=List.eq_of_mem_replicate hm;subst this;exact⟨Nat.le_refl _,Nat.le_refl _,Nat.le_refl _,Nat.le_refl _⟩
 | add a b iha ihb =>
  exact⟨fun m hm=>nd_le iha ihb ((List.mem_append.1 hm).imp .inl .inl),fun m hm=>nd_le iha ihb ((List.mem_append.1 hm).imp .inr .inr)⟩
 | sub a b iha ihb =>
  exact⟨fun m hm=>nd_le iha ihb ((List.mem_append.1 hm).imp .inl .inr),fun m hm=>nd_le iha ihb ((List.mem_append.1 hm).imp .inr .inl)⟩
 | mul a b iha ihb =>
  have M:∀ {p q:List Mn} {m:Mn},(p=a.pm.1\/p=a.pm.2)->(q=b.pm.1\/q=b.pm.2)->m∈mulL p q->m.le (Ex.mul a b).nd.2:=fun {p q m} hp hq h=>by
   obtain⟨x,hx,y,hy,rfl⟩:=mem_mulL h;have n1:¬a.nd.1=0:=fun e=>by
    rcases hp with rfl | rfl
    ·rw[(pm_none e).1]at hx;cases hx
    ·rw[(pm_none e).2]at hx;cases hx
   have n2:¬b.nd.1=0:=fun e=>by
    rcases hq with rfl | rfl
    ·rw[(pm_none e).1]at hy;cases hy
    ·rw[(pm_none e).2]at hy;cases hy
   show(x.mul y).le (ndMul a.nd b.nd).2;unfold ndMul;rw[if_neg n1,if_neg n2];refine le_mul ?_ ?_
   ·rcases hp with rfl | rfl
    ·exact iha.1 x hx
    ·exact iha.2 x hx
   ·rcases hq with rfl | rfl
    ·exact ihb.1 y hy
    ·exact ihb.2 y hy
  exact⟨fun m hm=>(List.mem_append.1 hm).elim (M (.inl rfl) (.inl rfl)) (M (.inr rfl) (.inr rfl)),fun m hm=>(List.mem_append.1 hm).elim (M (.inl rfl) (.inr rfl)) (M (.inr rfl) (.inl rfl))⟩
def intRing:CRing Int:=⟨(·+·),(·*·),(- ·),0,1,Int.add_assoc,Int.add_comm,Int.add_zero,Int.add_right_neg,Int.mul_assoc,Int.mul_comm,Int.mul_one,Int.mul_add⟩
theorem int_pow(a n:Nat):intRing.pow (a:Int) n=((a^n:Nat):Int):=by
 induction n with
 | zero=>rfl
 | succ n ih=>rw[CRing.pow,ih,Nat.pow_succ,Int.natCast_mul];rfl
def kp(B:Nat)(d:Mn):Nat->Int
 | 0=>(B:Nat)
 | 1=>((B^(d.1+1):Nat):Int)
 | 2=>((B^((d.1+1)*(d.2.1+1)):Nat):Int)
 | _=>((B^((d.1+1)*((d.2.1+1)*(d.2.2.1+1))):Nat):Int)
theorem val_kp(B:Nat)(d m:Mn):m.val intRing (kp B d)=((B^Mn.code d m:Nat):Int):=by
 show intRing.mul (intRing.mul (intRing.pow ((B:Nat):Int) m.1) (intRing.pow ((B^(d.1+1):Nat):Int) m.2.1)) (intRing.mul (intRing.pow ((B^((d.1+1)*(d.2.1+1)):Nat):Int) m.2.2.1) (intRing.pow ((B^((d.1+1)*((d.2.1+1)*(d.2.2.1+1))):Nat):Int) m.2.2.2))=_;rw[int_pow,int_pow,int_pow,int_pow];show((_:Nat):Int)*((_:Nat):Int)*(((_:Nat):Int)*((_:Nat):Int))=_;rw[<- Int.natCast_mul,<- Int.natCast_mul,<- Int.natCast_mul,<- Nat.pow_mul,<- Nat.pow_mul,<- Nat.pow_mul,<- Nat.pow_add,<- Nat.pow_add,<- Nat.pow_add];congr 2;unfold Mn.code;generalize d.1+1=x;generalize d.2.1+1=y;generalize d.2.2.1+1=z;simp only[Nat.mul_add,Nat.mul_assoc,Nat.add_assoc]
theorem sum_kp(B:Nat)(d:Mn)(l:List Mn):sumL intRing (kp B d) l=((powL B (l.map (Mn.code d)):Nat):Int):=by
 induction l with
 | nil=>rfl
 | cons m l ih=>rw[sumL,ih,val_kp,List.map_cons,powL,Int.natCast_add];rfl
theorem kron{K:Type}(C:CRing K)(r:Nat->K)(B:Nat)(d:Mn)(e:Ex)(hd:e.nd.2.le d)(hn:e.nd.1<B)(h0:e.eval intRing (kp B d)=0):e.eval C r=C.zero:=by
 have h1:=eval_pm intRing (kp B d) e;rw[h0,sum_kp,sum_kp]at h1;have h2:powL B (e.pm.1.map (Mn.code d))=powL B (e.pm.2.map (Mn.code d)):=by
  have h3:(0:Int)+_=_:=h1;rw[Int.zero_add]at h3;exact(Int.ofNat.inj h3).symm
 have hl:=pm_len e;rw[<- nd_norm]at hl;have tr:∀ {m:Mn},m.le e.nd.2->m.le d:=fun h=>⟨Nat.le_trans h.1 hd.1,Nat.le_trans h.2.1 hd.2.1,Nat.le_trans h.2.2.1 hd.2.2.1,Nat.le_trans h.2.2.2 hd.2.2.2⟩
 have hp:=perm_of_codes (fun m hm=>tr ((pm_deg e).1 m hm)) (fun m hm=>tr ((pm_deg e).2 m hm)) (by omega) (by omega) h2;have h4:=eval_pm C r e;rw[sumL_perm C r hp]at h4;exact C.add_cancel (h4.trans (C.zero_add _).symm)
def qops{R:Type}(O:Ops R)(c:R):Ops (R × R) :=
 ⟨fun p q=>(O.add p.1 q.1,O.add p.2 q.2),fun p q=>(O.add (O.mul p.1 q.1) (O.mul (O.mul p.2 q.2) c),O.add (O.mul p.1 q.2) (O.mul p.2 q.1)),fun p q=>(O.sub p.1 q.1,O.sub p.2 q.2)⟩
abbrev T8(R:Type):=((R × R) × (R × R)) × ((R × R) × (R × R))
def tops{R:Type}(O:Ops R)(z c1 c2 c3:R):Ops (T8 R):=qops (qops (qops O c1) (c2,z)) ((c3,z),(z,z))
def emb{R:Type}(z x:R):T8 R:=(((x,z),(z,z)),((z,z),(z,z)))
def yy1{R:Type}(z o:R):T8 R:=(((z,o),(z,z)),((z,z),(z,z)))
def yy2{R:Type}(z o:R):T8 R:=(((z,z),(o,z)),((z,z),(z,z)))
def yy3{R:Type}(z o:R):T8 R:=(((z,z),(z,z)),((o,z),(z,z)))
def cadd{R:Type}(O:Ops R)(t:R)(p q:R × R × R):R × R × R :=
 let a:=O.mul p.1 q.1
 let b:=O.mul p.2.1 q.2.1
 let c:=O.mul t (O.mul p.2.2 q.2.2)
 let d:=O.add (O.mul p.1 q.2.1) (O.mul q.1 p.2.1)
 let e:=O.add (O.mul p.2.1 q.2.2) (O.mul q.2.1 p.2.2)
 let f:=O.mul t (O.add (O.mul p.1 q.2.2) (O.mul q.1 p.2.2))
 let g:=O.add a (O.add a a)
 let m:=O.sub b c
 let n:=O.add b c
 (O.sub (O.mul d m) (O.mul e f),O.add (O.mul n m) (O.mul g f),O.add (O.mul e n) (O.mul g d))
structure Hom {R S:Type} (O:Ops R) (P:Ops S) (f:R->S):Prop where
 add:∀ a b,f (O.add a b)=P.add (f a) (f b)
 mul:∀ a b,f (O.mul a b)=P.mul (f a) (f b)
 sub:∀ a b,f (O.sub a b)=P.sub (f a) (f b)
def map3{R S:Type}(f:R->S)(p:R × R × R):S × S × S:=(f p.1,f p.2.1,f p.2.2)
theorem cadd_map{R S:Type}{O:Ops R}{P:Ops S}{f:R->S}(h:Hom O P f)(t:R)(p q:R × R × R):map3 f (cadd O t p q)=cadd P (f t) (map3 f p) (map3 f q):=by
 simp only[cadd,map3,h.add,h.mul,h.sub]
def map2{R S:Type}(f:R->S)(p:R × R):S × S:=(f p.1,f p.2)
theorem qops_map{R S:Type}{O:Ops R}{P:Ops S}{f:R->S}(h:Hom O P f)(c:R):Hom (qops O c) (qops P (f c)) (map2 f):=by
 constructor <;> intro a b <;> simp only[qops,map2,h.add,h.mul,h.sub]
def map8{R S:Type}(f:R->S):T8 R->T8 S:=map2 (map2 (map2 f))
theorem tops_map{R S:Type}{O:Ops R}{P:Ops S}{f:R->S}(h:Hom O P f)(z c1 c2 c3:R):Hom (tops O z c1 c2 c3) (tops P (f z) (f c1) (f c2) (f c3)) (map8 f) :=
 qops_map (qops_map (qops_map h c1) (c2,z)) ((c3,z),(z,z))
def cub{R:Type}(O:Ops R)(x b:R):R:=O.add (O.mul (O.mul x x) x) b
def topsC{R:Type}(O:Ops R)(z x1 x2 x3 b:R):Ops (T8 R):=tops O z (cub O x1 b) (cub O x2 b) (cub O x3 b)
def cross{R:Type}(O:Ops R)(l r:R × R × R):R × R:=(O.sub (O.mul l.1 r.2.2) (O.mul r.1 l.2.2),O.sub (O.mul l.2.1 r.2.2) (O.mul r.2.1 l.2.2))
theorem cross_map{R S:Type}{O:Ops R}{P:Ops S}{f:R->S}(h:Hom O P f)(l r:R × R × R):map2 f (cross O l r)=cross P (map3 f l) (map3 f r):=by
 simp only[cross,map2,map3,h.mul,h.sub]
def assocD{R:Type}(O:Ops R)(t:R)(p q r:R × R × R):R × R:=cross O (cadd O t (cadd O t p q) r) (cadd O t p (cadd O t q r))
theorem assocD_map{R S:Type}{O:Ops R}{P:Ops S}{f:R->S}(h:Hom O P f)(t:R)(p q r:R × R × R):map2 f (assocD O t p q r)=assocD P (f t) (map3 f p) (map3 f q) (map3 f r):=by
 unfold assocD;rw[cross_map h,cadd_map h,cadd_map h,cadd_map h,cadd_map h]
def assocT{R:Type}(O:Ops R)(z o x1 x2 x3 b:R):T8 R × T8 R :=
 assocD (topsC O z x1 x2 x3 b) (emb z (O.add b (O.add b b))) (emb z x1,yy1 z o,emb z o) (emb z x2,yy2 z o,emb z o) (emb z x3,yy3 z o,emb z o)
theorem assocT_map{R S:Type}{O:Ops R}{P:Ops S}{f:R->S}(h:Hom O P f)(z o x1 x2 x3 b:R):map2 (map8 f) (assocT O z o x1 x2 x3 b)=assocT P (f z) (f o) (f x1) (f x2) (f x3) (f b):=by
 unfold assocT topsC;have hc:∀ x,f (cub O x b)=cub P (f x) (f b):=fun x=>by simp only[cub,h.add,h.mul]
 rw[assocD_map (tops_map h _ _ _ _),hc,hc,hc];simp only[map3,emb,yy1,yy2,yy3,map8,map2,h.add]
def all8{R:Type}(p:R->Prop)(t:T8 R):Prop:=p t.1.1.1/\p t.1.1.2/\p t.1.2.1/\p t.1.2.2/\p t.2.1.1/\p t.2.1.2/\p t.2.2.1/\p t.2.2.2
def exD:T8 Ex × T8 Ex:=assocT Ex.ops (.k 0) (.k 1) (.v 0) (.v 1) (.v 2) (.v 3)
def ndOps:Ops (Nat × Mn):=⟨ndAdd,ndMul,ndAdd⟩
theorem hom_nd:Hom Ex.ops ndOps Ex.nd:=⟨fun _ _=>rfl,fun _ _=>rfl,fun _ _=>rfl⟩
theorem hom_eval{K:Type}(C:CRing K)(r:Nat->K):Hom Ex.ops C.ops (Ex.eval C r):=⟨fun _ _=>rfl,fun _ _=>rfl,fun _ _=>rfl⟩
def small(d:Mn)(B:Nat)(x:Nat × Mn):Prop:=x.1=0\/(x.1<B/\x.2.le d)
instance (d:Mn) (B:Nat) (x:Nat × Mn):Decidable (small d B x):=by unfold small Mn.le;exact inferInstance
instance {R:Type} (p:R->Prop) [DecidablePred p] (t:T8 R):Decidable (all8 p t):=by unfold all8;exact inferInstance
def dA:Mn:=(9,12,9,9)
theorem assoc_small:let t:=assocT ndOps (0,0,0,0,0) (1,0,0,0,0) (1,Mn.var 0) (1,Mn.var 1) (1,Mn.var 2) (1,Mn.var 3)
  all8 (small dA (2^28)) t.1/\all8 (small dA (2^28)) t.2:=by decide +kernel
theorem assoc_nought:let t:=assocT intRing.ops 0 1 (kp (2^28) dA 0) (kp (2^28) dA 1) (kp (2^28) dA 2) (kp (2^28) dA 3)
  all8 (fun x=>x=0) t.1/\all8 (fun x=>x=0) t.2:=by decide +kernel
theorem kron_small{K:Type}(C:CRing K)(r:Nat->K)(B:Nat)(d:Mn)(e:Ex)(h:small d B e.nd)(h0:e.eval intRing (kp B d)=0):e.eval C r=C.zero:=by
 rcases h with h | h
 ·have h1:=eval_pm C r e
  rw[(pm_none h).1,(pm_none h).2]at h1;exact(C.add_zero _).symm.trans h1
 ·exact kron C r B d e h.2 h.1 h0
theorem Hom.comp{R S T:Type}{O:Ops R}{P:Ops S}{Q:Ops T}{f:R->S}{g:S->T}(hg:Hom P Q g)(hf:Hom O P f):Hom O Q fun x=>g (f x) :=
 ⟨fun a b=>by rw[hf.add,hg.add],fun a b=>by rw[hf.mul,hg.mul],fun a b=>by rw[hf.sub,hg.sub]⟩
section
variable {K:Type} (C:CRing K)
def ev2(y:K)(p:K × K):K:=C.add p.1 (C.mul p.2 y)
theorem neg_add(a b:K):C.neg (C.add a b)=C.add (C.neg a) (C.neg b):=by
 apply C.add_cancel (c:=C.add a b);rw[C.add_comm (C.neg (C.add a b)),C.add_neg,C.swap4,C.add_comm (C.neg a),C.add_neg,C.add_comm (C.neg b),C.add_neg,C.add_zero]
theorem sub_mul(a b c:K):C.mul (C.sub a b) c=C.sub (C.mul a c) (C.mul b c):=by rw[C.mul_comm,C.mul_sub,C.mul_comm c a,C.mul_comm c b]
theorem ev2_hom{y c:K}(h:C.mul y y=c):Hom (qops C.ops c) C.ops (ev2 C y):=by
 constructor
 ·intro a b
  show C.add (C.add a.1 b.1) (C.mul (C.add a.2 b.2) y)=C.add (C.add a.1 (C.mul a.2 y)) (C.add b.1 (C.mul b.2 y));rw[C.add_mul,C.swap4]
 ·intro a b
  show C.add (C.add (C.mul a.1 b.1) (C.mul (C.mul a.2 b.2) c)) (C.mul (C.add (C.mul a.1 b.2) (C.mul a.2 b.1)) y)=C.mul (C.add a.1 (C.mul a.2 y)) (C.add b.1 (C.mul b.2 y));rw[<- h,C.mul_add,C.add_mul,C.add_mul,C.add_mul,<- C.mul4,C.mul_assoc a.1 b.2 y,C.mul_assoc a.2 b.1 y,C.mul_assoc a.2 y b.1,C.mul_comm y b.1];rw[C.add_comm (C.mul a.1 (C.mul b.2 y)),C.swap4,C.add_comm (C.mul (C.mul a.2 y) (C.mul b.2 y))]
 ·intro a b
  show C.add (C.sub a.1 b.1) (C.mul (C.sub a.2 b.2) y)=C.sub (C.add a.1 (C.mul a.2 y)) (C.add b.1 (C.mul b.2 y));rw[sub_mul];unfold CRing.sub;rw[neg_add,C.swap4]
def ev8(y1 y2 y3:K)(t:T8 K):K:=ev2 C y3 (map2 (ev2 C y2) (map2 (map2 (ev2 C y1)) t))
theorem ev2_const(y x:K):ev2 C y (x,C.zero)=x:=by unfold ev2;rw[C.zero_mul,C.add_zero]
theorem ev8_hom{y1 y2 y3 c1 c2 c3:K}(h1:C.mul y1 y1=c1)(h2:C.mul y2 y2=c2)(h3:C.mul y3 y3=c3):Hom (tops C.ops C.zero c1 c2 c3) C.ops (ev8 C y1 y2 y3):=by
 have H1:=ev2_hom C h1;have H2:=ev2_hom C h2;have H3:=ev2_hom C h3;have A:=qops_map (qops_map H1 (c2,C.zero)) ((c3,C.zero),(C.zero,C.zero));have e2:ev2 C y1 (c2,C.zero)=c2:=ev2_const C y1 c2;have e3:map2 (ev2 C y1) ((c3,C.zero),(C.zero,C.zero))=(c3,C.zero):=by
  unfold map2;rw[ev2_const,ev2_const]
 rw[e2,e3]at A;have B:=qops_map H2 (c3,C.zero);rw[ev2_const]at B;exact(H3.comp B).comp A
theorem ev8_emb(y1 y2 y3 x:K):ev8 C y1 y2 y3 (emb C.zero x)=x:=by
 unfold ev8 emb map2;simp only[ev2_const]
theorem one_mul'(a:K):C.add C.zero (C.mul C.one a)=a:=by rw[C.one_mul,C.zero_add]
theorem ev8_y1(y1 y2 y3:K):ev8 C y1 y2 y3 (yy1 C.zero C.one)=y1:=by
 unfold ev8 yy1;simp only[map2,ev2,C.zero_mul,C.add_zero,one_mul']
theorem ev8_y2(y1 y2 y3:K):ev8 C y1 y2 y3 (yy2 C.zero C.one)=y2:=by
 unfold ev8 yy2;simp only[map2,ev2,C.zero_mul,C.add_zero,one_mul']
theorem ev8_y3(y1 y2 y3:K):ev8 C y1 y2 y3 (yy3 C.zero C.one)=y3:=by
 unfold ev8 yy3;simp only[map2,ev2,C.zero_mul,C.add_zero,one_mul']
def lets(x1 x2 x3 b:K):Nat->K
 | 0=>x1
 | 1=>x2
 | 2=>x3
 | _=>b
theorem eval_one(r:Nat->K):(Ex.k 1).eval C r=C.one:=C.zero_add _
theorem ev8_nought{d:Mn}{B:Nat}{t:T8 Ex}(r:Nat->K)(y1 y2 y3:K)(hs:all8 (fun e:Ex=>small d B e.nd) t)(h0:all8 (fun e:Ex=>e.eval intRing (kp B d)=0) t):ev8 C y1 y2 y3 (map8 (Ex.eval C r) t)=C.zero:=by
 have k:=fun e h1 h2=>kron_small C r B d e h1 h2;obtain⟨s1,s2,s3,s4,s5,s6,s7,s8⟩:=hs;obtain⟨z1,z2,z3,z4,z5,z6,z7,z8⟩:=h0;unfold ev8 map8;simp only[map2,ev2];rw[k _ s1 z1,k _ s2 z2,k _ s3 z3,k _ s4 z4,k _ s5 z5,k _ s6 z6,k _ s7 z7,k _ s8 z8];simp only[C.zero_mul,C.add_zero]
def OnC(b x y:K):Prop:=C.mul y y=cub C.ops x b
theorem assoc_K{b x1 y1 x2 y2 x3 y3:K}(h1:OnC C b x1 y1)(h2:OnC C b x2 y2)(h3:OnC C b x3 y3) :
  assocD C.ops (C.add b (C.add b b)) (x1,y1,C.one) (x2,y2,C.one) (x3,y3,C.one)=(C.zero,C.zero):=by
 have hE:=ev8_hom C h1 h2 h3;have e:=assocT_map (hom_eval C (lets x1 x2 x3 b)) (.k 0) (.k 1) (.v 0) (.v 1) (.v 2) (.v 3);rw[eval_one]at e;have e':map2 (map8 (Ex.eval C (lets x1 x2 x3 b))) exD=assocT C.ops C.zero C.one x1 x2 x3 b:=e;have f:map2 (ev8 C y1 y2 y3) (assocT C.ops C.zero C.one x1 x2 x3 b)=assocD C.ops (C.add b (C.add b b)) (x1,y1,C.one) (x2,y2,C.one) (x3,y3,C.one):=by
  unfold assocT topsC;rw[assocD_map hE];simp only[map3,ev8_emb,ev8_y1,ev8_y2,ev8_y3];rfl
 rw[<- f,<- e'];have hs:=assoc_small;have hn:=assoc_nought;have es:=assocT_map hom_nd (.k 0) (.k 1) (.v 0) (.v 1) (.v 2) (.v 3);have en:=assocT_map (hom_eval intRing (kp (2^28) dA)) (.k 0) (.k 1) (.v 0) (.v 1) (.v 2) (.v 3);have es':map2 (map8 Ex.nd) exD=assocT ndOps (0,0,0,0,0) (1,0,0,0,0) (1,Mn.var 0) (1,Mn.var 1) (1,Mn.var 2) (1,Mn.var 3):=es;have en':map2 (map8 (Ex.eval intRing (kp (2^28) dA))) exD=assocT intRing.ops 0 1 (kp (2^28) dA 0) (kp (2^28) dA 1) (kp (2^28) dA 2) (kp (2^28) dA 3):=en;simp only at hs hn;rw[<- es']at hs;rw[<- en']at hn;have k:=fun t hs h0=>ev8_nought C (d:=dA) (B:=2^28) (t:=t) (lets x1 x2 x3 b) y1 y2 y3 hs h0;exact Prod.ext (k exD.1 hs.1 hn.1) (k exD.2 hs.2 hn.2)
end
structure Id2 where
 F:(R:Type)->Ops R->R->R->R->R->R->R->R
 hF:∀ {R S:Type} {O:Ops R} {P:Ops S} {f:R->S},Hom O P f->∀ o x1 y1 x2 y2 b,f (F R O o x1 y1 x2 y2 b)=F S P (f o) (f x1) (f y1) (f x2) (f y2) (f b)
def Id2.T(I:Id2){R:Type}(O:Ops R)(z o x1 x2 x3 b:R):T8 R:=I.F (T8 R) (topsC O z x1 x2 x3 b) (emb z o) (emb z x1) (yy1 z o) (emb z x2) (yy2 z o) (emb z b)
theorem Id2.T_map(I:Id2){R S:Type}{O:Ops R}{P:Ops S}{f:R->S}(h:Hom O P f)(z o x1 x2 x3 b:R):map8 f (I.T O z o x1 x2 x3 b)=I.T P (f z) (f o) (f x1) (f x2) (f x3) (f b):=by
 unfold Id2.T topsC;have hc:∀ x,f (cub O x b)=cub P (f x) (f b):=fun x=>by simp only[cub,h.add,h.mul]
 rw[I.hF (tops_map h _ _ _ _),hc,hc,hc];simp only[emb,yy1,yy2,map8,map2]
def dS:Mn:=(20,20,1,12)
def Id2.Small(I:Id2):Prop:=all8 (small dS (2^50)) (I.T ndOps (0,0,0,0,0) (1,0,0,0,0) (1,Mn.var 0) (1,Mn.var 1) (1,Mn.var 2) (1,Mn.var 3))
def Id2.Nought(I:Id2):Prop:=all8 (fun x=>x=0) (I.T intRing.ops 0 1 (kp (2^50) dS 0) (kp (2^50) dS 1) (kp (2^50) dS 2) (kp (2^50) dS 3))
instance (I:Id2):Decidable I.Small:=by unfold Id2.Small;exact inferInstance
instance (I:Id2):Decidable I.Nought:=by unfold Id2.Nought;exact inferInstance
theorem id2(I:Id2)(hs:I.Small)(hn:I.Nought){K:Type}(C:CRing K){b x1 y1 x2 y2:K}(h1:OnC C b x1 y1)(h2:OnC C b x2 y2):I.F K C.ops C.one x1 y1 x2 y2 b=C.zero:=by
 have hE:=ev8_hom C h1 h2 h1;have e:=I.T_map (hom_eval C (lets x1 x2 x1 b)) (.k 0) (.k 1) (.v 0) (.v 1) (.v 2) (.v 3);rw[eval_one]at e;have e':map8 (Ex.eval C (lets x1 x2 x1 b)) (I.T Ex.ops (.k 0) (.k 1) (.v 0) (.v 1) (.v 2) (.v 3))=I.T C.ops C.zero C.one x1 x2 x1 b:=e;have f:ev8 C y1 y2 y1 (I.T C.ops C.zero C.one x1 x2 x1 b)=I.F K C.ops C.one x1 y1 x2 y2 b:=by
  unfold Id2.T topsC;rw[I.hF hE];simp only[ev8_emb,ev8_y1,ev8_y2]
 rw[<- f,<- e'];unfold Id2.Small at hs;unfold Id2.Nought at hn;have es':map8 Ex.nd (I.T Ex.ops (.k 0) (.k 1) (.v 0) (.v 1) (.v 2) (.v 3))=I.T ndOps (0,0,0,0,0) (1,0,0,0,0) (1,Mn.var 0) (1,Mn.var 1) (1,Mn.var 2) (1,Mn.var 3):=I.T_map hom_nd (.k 0) (.k 1) (.v 0) (.v 1) (.v 2) (.v 3);have en':map8 (Ex.eval intRing (kp (2^50) dS)) (I.T Ex.ops (.k 0) (.k 1) (.v 0) (.v 1) (.v 2) (.v 3))=I.T intRing.ops 0 1 (kp (2^50) dS 0) (kp (2^50) dS 1) (kp (2^50) dS 2) (kp (2^50) dS 3):=I.T_map (hom_eval intRing (kp (2^50) dS)) (.k 0) (.k 1) (.v 0) (.v 1) (.v 2) (.v 3);rw[<- es']at hs;rw[<- en']at hn;exact ev8_nought C (d:=dS) (B:=2^50) (lets x1 x2 x1 b) y1 y2 y1 hs hn
theorem cadd_1{R S:Type}{O:Ops R}{P:Ops S}{f:R->S}(h:Hom O P f)(t a b c d e g:R):f (cadd O t (a,b,c) (d,e,g)).1=(cadd P (f t) (f a,f b,f c) (f d,f e,f g)).1:=congrArg Prod.fst (cadd_map h t (a,b,c) (d,e,g))
theorem cadd_2{R S:Type}{O:Ops R}{P:Ops S}{f:R->S}(h:Hom O P f)(t a b c d e g:R):f (cadd O t (a,b,c) (d,e,g)).2.1=(cadd P (f t) (f a,f b,f c) (f d,f e,f g)).2.1:=congrArg (fun x=>x.2.1) (cadd_map h t (a,b,c) (d,e,g))
theorem cadd_3{R S:Type}{O:Ops R}{P:Ops S}{f:R->S}(h:Hom O P f)(t a b c d e g:R):f (cadd O t (a,b,c) (d,e,g)).2.2=(cadd P (f t) (f a,f b,f c) (f d,f e,f g)).2.2:=congrArg (fun x=>x.2.2) (cadd_map h t (a,b,c) (d,e,g))
def idChX:Id2:=⟨fun _ O o x1 y1 x2 y2 b=>(O.sub (O.mul (cadd O (O.add (O.add b b) b) (x1,y1,o) (x2,y2,o)).1 (O.mul (O.sub x2 x1) (O.sub x2 x1))) (O.mul (cadd O (O.add (O.add b b) b) (x1,y1,o) (x2,y2,o)).2.2 (O.sub (O.mul (O.sub y2 y1) (O.sub y2 y1)) (O.mul (O.add x1 x2) (O.mul (O.sub x2 x1) (O.sub x2 x1)))))),fun h _ _ _ _ _ _=>by simp only[h.add,h.mul,h.sub,cadd_1 h,cadd_3 h]⟩
theorem idChX_s:idChX.Small:=by decide +kernel
theorem idChX_n:idChX.Nought:=by decide +kernel
def idChY:Id2:=⟨fun _ O o x1 y1 x2 y2 b=>(O.sub (O.mul (cadd O (O.add (O.add b b) b) (x1,y1,o) (x2,y2,o)).2.1 (O.mul (O.mul (O.sub x2 x1) (O.sub x2 x1)) (O.sub x2 x1))) (O.mul (cadd O (O.add (O.add b b) b) (x1,y1,o) (x2,y2,o)).2.2 (O.sub (O.mul (O.sub y2 y1) (O.sub (O.mul x1 (O.mul (O.sub x2 x1) (O.sub x2 x1))) (O.sub (O.mul (O.sub y2 y1) (O.sub y2 y1)) (O.mul (O.add x1 x2) (O.mul (O.sub x2 x1) (O.sub x2 x1)))))) (O.mul y1 (O.mul (O.mul (O.sub x2 x1) (O.sub x2 x1)) (O.sub x2 x1)))))),fun h _ _ _ _ _ _=>by simp only[h.add,h.mul,h.sub,cadd_2 h,cadd_3 h]⟩
theorem idChY_s:idChY.Small:=by decide +kernel
theorem idChY_n:idChY.Nought:=by decide +kernel
def idDiff:Id2:=⟨fun _ O o x1 y1 x2 y2 b=>(O.add (cadd O (O.add (O.add b b) b) (x1,y1,o) (x2,y2,o)).2.2 (O.add (O.mul (O.add y1 y2) (O.sub (O.mul (O.add (O.add x1 x1) x2) (O.mul (O.sub x2 x1) (O.sub x2 x1))) (O.mul (O.add y1 y2) (O.add y1 y2)))) (O.mul y1 (O.mul (O.mul (O.sub x2 x1) (O.sub x2 x1)) (O.sub x2 x1))))),fun h _ _ _ _ _ _=>by simp only[h.add,h.mul,h.sub,cadd_3 h]⟩
theorem idDiff_s:idDiff.Small:=by decide +kernel
theorem idDiff_n:idDiff.Nought:=by decide +kernel
def idDCl:Id2:=⟨fun _ O _ x1 y1 x2 y2 b=>(O.sub (O.mul (O.add (O.mul (O.add y1 y2) (O.sub (O.mul (O.add (O.add x1 x1) x2) (O.mul (O.sub x2 x1) (O.sub x2 x1))) (O.mul (O.add y1 y2) (O.add y1 y2)))) (O.mul y1 (O.mul (O.mul (O.sub x2 x1) (O.sub x2 x1)) (O.sub x2 x1)))) (O.add (O.mul (O.add y1 y2) (O.sub (O.mul (O.add (O.add x1 x1) x2) (O.mul (O.sub x2 x1) (O.sub x2 x1))) (O.mul (O.add y1 y2) (O.add y1 y2)))) (O.mul y1 (O.mul (O.mul (O.sub x2 x1) (O.sub x2 x1)) (O.sub x2 x1))))) (O.add (O.mul (O.mul (O.sub (O.mul (O.add y1 y2) (O.add y1 y2)) (O.mul (O.add x1 x2) (O.mul (O.sub x2 x1) (O.sub x2 x1)))) (O.sub (O.mul (O.add y1 y2) (O.add y1 y2)) (O.mul (O.add x1 x2) (O.mul (O.sub x2 x1) (O.sub x2 x1))))) (O.sub (O.mul (O.add y1 y2) (O.add y1 y2)) (O.mul (O.add x1 x2) (O.mul (O.sub x2 x1) (O.sub x2 x1))))) (O.mul b (O.mul (O.mul (O.mul (O.mul (O.mul (O.sub x2 x1) (O.sub x2 x1)) (O.sub x2 x1)) (O.sub x2 x1)) (O.sub x2 x1)) (O.sub x2 x1))))),fun h _ _ _ _ _ _=>by simp only[h.add,h.mul,h.sub]⟩
theorem idDCl_s:idDCl.Small:=by decide +kernel
theorem idDCl_n:idDCl.Nought:=by decide +kernel
def idClS:Id2:=⟨fun _ O _ x1 y1 x2 y2 b=>(O.sub (O.mul (O.sub (O.mul (O.sub y2 y1) (O.sub (O.mul x1 (O.mul (O.sub x2 x1) (O.sub x2 x1))) (O.sub (O.mul (O.sub y2 y1) (O.sub y2 y1)) (O.mul (O.add x1 x2) (O.mul (O.sub x2 x1) (O.sub x2 x1)))))) (O.mul y1 (O.mul (O.mul (O.sub x2 x1) (O.sub x2 x1)) (O.sub x2 x1)))) (O.sub (O.mul (O.sub y2 y1) (O.sub (O.mul x1 (O.mul (O.sub x2 x1) (O.sub x2 x1))) (O.sub (O.mul (O.sub y2 y1) (O.sub y2 y1)) (O.mul (O.add x1 x2) (O.mul (O.sub x2 x1) (O.sub x2 x1)))))) (O.mul y1 (O.mul (O.mul (O.sub x2 x1) (O.sub x2 x1)) (O.sub x2 x1))))) (O.add (O.mul (O.mul (O.sub (O.mul (O.sub y2 y1) (O.sub y2 y1)) (O.mul (O.add x1 x2) (O.mul (O.sub x2 x1) (O.sub x2 x1)))) (O.sub (O.mul (O.sub y2 y1) (O.sub y2 y1)) (O.mul (O.add x1 x2) (O.mul (O.sub x2 x1) (O.sub x2 x1))))) (O.sub (O.mul (O.sub y2 y1) (O.sub y2 y1)) (O.mul (O.add x1 x2) (O.mul (O.sub x2 x1) (O.sub x2 x1))))) (O.mul b (O.mul (O.mul (O.mul (O.mul (O.mul (O.sub x2 x1) (O.sub x2 x1)) (O.sub x2 x1)) (O.sub x2 x1)) (O.sub x2 x1)) (O.sub x2 x1))))),fun h _ _ _ _ _ _=>by simp only[h.add,h.mul,h.sub]⟩
theorem idClS_s:idClS.Small:=by decide +kernel
theorem idClS_n:idClS.Nought:=by decide +kernel
def idDbZ:Id2:=⟨fun _ O o x1 y1 _ _ b=>(O.sub (cadd O (O.add (O.add b b) b) (x1,y1,o) (x1,y1,o)).2.2 (O.add (O.add (O.add (O.add (O.add (O.add (O.add (O.mul (O.mul y1 y1) y1) (O.mul (O.mul y1 y1) y1)) (O.mul (O.mul y1 y1) y1)) (O.mul (O.mul y1 y1) y1)) (O.mul (O.mul y1 y1) y1)) (O.mul (O.mul y1 y1) y1)) (O.mul (O.mul y1 y1) y1)) (O.mul (O.mul y1 y1) y1))),fun h _ _ _ _ _ _=>by simp only[h.add,h.mul,h.sub,cadd_3 h]⟩
theorem idDbZ_s:idDbZ.Small:=by decide +kernel
theorem idDbZ_n:idDbZ.Nought:=by decide +kernel
def idDbX:Id2:=⟨fun _ O o x1 y1 _ _ b=>(O.sub (O.mul (cadd O (O.add (O.add b b) b) (x1,y1,o) (x1,y1,o)).1 (O.mul (O.add y1 y1) (O.add y1 y1))) (O.mul (cadd O (O.add (O.add b b) b) (x1,y1,o) (x1,y1,o)).2.2 (O.sub (O.add (O.add (O.add (O.add (O.add (O.add (O.add (O.add (O.mul (O.mul (O.mul x1 x1) x1) x1) (O.mul (O.mul (O.mul x1 x1) x1) x1)) (O.mul (O.mul (O.mul x1 x1) x1) x1)) (O.mul (O.mul (O.mul x1 x1) x1) x1)) (O.mul (O.mul (O.mul x1 x1) x1) x1)) (O.mul (O.mul (O.mul x1 x1) x1) x1)) (O.mul (O.mul (O.mul x1 x1) x1) x1)) (O.mul (O.mul (O.mul x1 x1) x1) x1)) (O.mul (O.mul (O.mul x1 x1) x1) x1)) (O.add (O.add (O.add (O.add (O.add (O.add (O.add (O.mul x1 (O.mul y1 y1)) (O.mul x1 (O.mul y1 y1))) (O.mul x1 (O.mul y1 y1))) (O.mul x1 (O.mul y1 y1))) (O.mul x1 (O.mul y1 y1))) (O.mul x1 (O.mul y1 y1))) (O.mul x1 (O.mul y1 y1))) (O.mul x1 (O.mul y1 y1)))))),fun h _ _ _ _ _ _=>by simp only[h.add,h.mul,h.sub,cadd_1 h,cadd_3 h]⟩
theorem idDbX_s:idDbX.Small:=by decide +kernel
theorem idDbX_n:idDbX.Nought:=by decide +kernel
def idDbY:Id2:=⟨fun _ O o x1 y1 _ _ b=>(O.sub (O.mul (cadd O (O.add (O.add b b) b) (x1,y1,o) (x1,y1,o)).2.1 (O.mul (O.mul (O.add y1 y1) (O.add y1 y1)) (O.add y1 y1))) (O.mul (cadd O (O.add (O.add b b) b) (x1,y1,o) (x1,y1,o)).2.2 (O.sub (O.mul (O.add (O.add (O.mul x1 x1) (O.mul x1 x1)) (O.mul x1 x1)) (O.sub (O.mul x1 (O.mul (O.add y1 y1) (O.add y1 y1))) (O.sub (O.add (O.add (O.add (O.add (O.add (O.add (O.add (O.add (O.mul (O.mul (O.mul x1 x1) x1) x1) (O.mul (O.mul (O.mul x1 x1) x1) x1)) (O.mul (O.mul (O.mul x1 x1) x1) x1)) (O.mul (O.mul (O.mul x1 x1) x1) x1)) (O.mul (O.mul (O.mul x1 x1) x1) x1)) (O.mul (O.mul (O.mul x1 x1) x1) x1)) (O.mul (O.mul (O.mul x1 x1) x1) x1)) (O.mul (O.mul (O.mul x1 x1) x1) x1)) (O.mul (O.mul (O.mul x1 x1) x1) x1)) (O.add (O.add (O.add (O.add (O.add (O.add (O.add (O.mul x1 (O.mul y1 y1)) (O.mul x1 (O.mul y1 y1))) (O.mul x1 (O.mul y1 y1))) (O.mul x1 (O.mul y1 y1))) (O.mul x1 (O.mul y1 y1))) (O.mul x1 (O.mul y1 y1))) (O.mul x1 (O.mul y1 y1))) (O.mul x1 (O.mul y1 y1)))))) (O.mul y1 (O.mul (O.mul (O.add y1 y1) (O.add y1 y1)) (O.add y1 y1)))))),fun h _ _ _ _ _ _=>by simp only[h.add,h.mul,h.sub,cadd_2 h,cadd_3 h]⟩
theorem idDbY_s:idDbY.Small:=by decide +kernel
theorem idDbY_n:idDbY.Nought:=by decide +kernel
def idDbC:Id2:=⟨fun _ O _ x1 y1 _ _ b=>(O.sub (O.mul (O.sub (O.mul (O.add (O.add (O.mul x1 x1) (O.mul x1 x1)) (O.mul x1 x1)) (O.sub (O.mul x1 (O.mul (O.add y1 y1) (O.add y1 y1))) (O.sub (O.add (O.add (O.add (O.add (O.add (O.add (O.add (O.add (O.mul (O.mul (O.mul x1 x1) x1) x1) (O.mul (O.mul (O.mul x1 x1) x1) x1)) (O.mul (O.mul (O.mul x1 x1) x1) x1)) (O.mul (O.mul (O.mul x1 x1) x1) x1)) (O.mul (O.mul (O.mul x1 x1) x1) x1)) (O.mul (O.mul (O.mul x1 x1) x1) x1)) (O.mul (O.mul (O.mul x1 x1) x1) x1)) (O.mul (O.mul (O.mul x1 x1) x1) x1)) (O.mul (O.mul (O.mul x1 x1) x1) x1)) (O.add (O.add (O.add (O.add (O.add (O.add (O.add (O.mul x1 (O.mul y1 y1)) (O.mul x1 (O.mul y1 y1))) (O.mul x1 (O.mul y1 y1))) (O.mul x1 (O.mul y1 y1))) (O.mul x1 (O.mul y1 y1))) (O.mul x1 (O.mul y1 y1))) (O.mul x1 (O.mul y1 y1))) (O.mul x1 (O.mul y1 y1)))))) (O.mul y1 (O.mul (O.mul (O.add y1 y1) (O.add y1 y1)) (O.add y1 y1)))) (O.sub (O.mul (O.add (O.add (O.mul x1 x1) (O.mul x1 x1)) (O.mul x1 x1)) (O.sub (O.mul x1 (O.mul (O.add y1 y1) (O.add y1 y1))) (O.sub (O.add (O.add (O.add (O.add (O.add (O.add (O.add (O.add (O.mul (O.mul (O.mul x1 x1) x1) x1) (O.mul (O.mul (O.mul x1 x1) x1) x1)) (O.mul (O.mul (O.mul x1 x1) x1) x1)) (O.mul (O.mul (O.mul x1 x1) x1) x1)) (O.mul (O.mul (O.mul x1 x1) x1) x1)) (O.mul (O.mul (O.mul x1 x1) x1) x1)) (O.mul (O.mul (O.mul x1 x1) x1) x1)) (O.mul (O.mul (O.mul x1 x1) x1) x1)) (O.mul (O.mul (O.mul x1 x1) x1) x1)) (O.add (O.add (O.add (O.add (O.add (O.add (O.add (O.mul x1 (O.mul y1 y1)) (O.mul x1 (O.mul y1 y1))) (O.mul x1 (O.mul y1 y1))) (O.mul x1 (O.mul y1 y1))) (O.mul x1 (O.mul y1 y1))) (O.mul x1 (O.mul y1 y1))) (O.mul x1 (O.mul y1 y1))) (O.mul x1 (O.mul y1 y1)))))) (O.mul y1 (O.mul (O.mul (O.add y1 y1) (O.add y1 y1)) (O.add y1 y1))))) (O.add (O.mul (O.mul (O.sub (O.add (O.add (O.add (O.add (O.add (O.add (O.add (O.add (O.mul (O.mul (O.mul x1 x1) x1) x1) (O.mul (O.mul (O.mul x1 x1) x1) x1)) (O.mul (O.mul (O.mul x1 x1) x1) x1)) (O.mul (O.mul (O.mul x1 x1) x1) x1)) (O.mul (O.mul (O.mul x1 x1) x1) x1)) (O.mul (O.mul (O.mul x1 x1) x1) x1)) (O.mul (O.mul (O.mul x1 x1) x1) x1)) (O.mul (O.mul (O.mul x1 x1) x1) x1)) (O.mul (O.mul (O.mul x1 x1) x1) x1)) (O.add (O.add (O.add (O.add (O.add (O.add (O.add (O.mul x1 (O.mul y1 y1)) (O.mul x1 (O.mul y1 y1))) (O.mul x1 (O.mul y1 y1))) (O.mul x1 (O.mul y1 y1))) (O.mul x1 (O.mul y1 y1))) (O.mul x1 (O.mul y1 y1))) (O.mul x1 (O.mul y1 y1))) (O.mul x1 (O.mul y1 y1)))) (O.sub (O.add (O.add (O.add (O.add (O.add (O.add (O.add (O.add (O.mul (O.mul (O.mul x1 x1) x1) x1) (O.mul (O.mul (O.mul x1 x1) x1) x1)) (O.mul (O.mul (O.mul x1 x1) x1) x1)) (O.mul (O.mul (O.mul x1 x1) x1) x1)) (O.mul (O.mul (O.mul x1 x1) x1) x1)) (O.mul (O.mul (O.mul x1 x1) x1) x1)) (O.mul (O.mul (O.mul x1 x1) x1) x1)) (O.mul (O.mul (O.mul x1 x1) x1) x1)) (O.mul (O.mul (O.mul x1 x1) x1) x1)) (O.add (O.add (O.add (O.add (O.add (O.add (O.add (O.mul x1 (O.mul y1 y1)) (O.mul x1 (O.mul y1 y1))) (O.mul x1 (O.mul y1 y1))) (O.mul x1 (O.mul y1 y1))) (O.mul x1 (O.mul y1 y1))) (O.mul x1 (O.mul y1 y1))) (O.mul x1 (O.mul y1 y1))) (O.mul x1 (O.mul y1 y1))))) (O.sub (O.add (O.add (O.add (O.add (O.add (O.add (O.add (O.add (O.mul (O.mul (O.mul x1 x1) x1) x1) (O.mul (O.mul (O.mul x1 x1) x1) x1)) (O.mul (O.mul (O.mul x1 x1) x1) x1)) (O.mul (O.mul (O.mul x1 x1) x1) x1)) (O.mul (O.mul (O.mul x1 x1) x1) x1)) (O.mul (O.mul (O.mul x1 x1) x1) x1)) (O.mul (O.mul (O.mul x1 x1) x1) x1)) (O.mul (O.mul (O.mul x1 x1) x1) x1)) (O.mul (O.mul (O.mul x1 x1) x1) x1)) (O.add (O.add (O.add (O.add (O.add (O.add (O.add (O.mul x1 (O.mul y1 y1)) (O.mul x1 (O.mul y1 y1))) (O.mul x1 (O.mul y1 y1))) (O.mul x1 (O.mul y1 y1))) (O.mul x1 (O.mul y1 y1))) (O.mul x1 (O.mul y1 y1))) (O.mul x1 (O.mul y1 y1))) (O.mul x1 (O.mul y1 y1))))) (O.mul b (O.mul (O.mul (O.mul (O.mul (O.mul (O.add y1 y1) (O.add y1 y1)) (O.add y1 y1)) (O.add y1 y1)) (O.add y1 y1)) (O.add y1 y1))))),fun h _ _ _ _ _ _=>by simp only[h.add,h.mul,h.sub]⟩
theorem idDbC_s:idDbC.Small:=by decide +kernel
theorem idDbC_n:idDbC.Nought:=by decide +kernel
def idOpX:Id2:=⟨fun _ O o x1 y1 _ _ b=>(cadd O (O.add (O.add b b) b) (x1,y1,o) (x1,(O.sub (O.sub y1 y1) y1),o)).1,fun h _ _ _ _ _ _=>by simp only[h.add,h.sub,cadd_1 h]⟩
theorem idOpX_s:idOpX.Small:=by decide +kernel
theorem idOpX_n:idOpX.Nought:=by decide +kernel
def idOpZ:Id2:=⟨fun _ O o x1 y1 _ _ b=>(cadd O (O.add (O.add b b) b) (x1,y1,o) (x1,(O.sub (O.sub y1 y1) y1),o)).2.2,fun h _ _ _ _ _ _=>by simp only[h.add,h.sub,cadd_3 h]⟩
theorem idOpZ_s:idOpZ.Small:=by decide +kernel
theorem idOpZ_n:idOpZ.Nought:=by decide +kernel
def idOpY:Id2:=⟨fun _ O o x1 y1 _ _ b=>(O.sub (O.mul (cadd O (O.add (O.add b b) b) (x1,y1,o) (x1,(O.sub (O.sub y1 y1) y1),o)).2.1 (cadd O (O.add (O.add b b) b) (x1,y1,o) (x1,(O.sub (O.sub y1 y1) y1),o)).2.1) (O.add (O.mul (O.mul (O.sub (O.add (O.add (O.add (O.add (O.add (O.add (O.add (O.add (O.mul (O.mul (O.mul x1 x1) x1) x1) (O.mul (O.mul (O.mul x1 x1) x1) x1)) (O.mul (O.mul (O.mul x1 x1) x1) x1)) (O.mul (O.mul (O.mul x1 x1) x1) x1)) (O.mul (O.mul (O.mul x1 x1) x1) x1)) (O.mul (O.mul (O.mul x1 x1) x1) x1)) (O.mul (O.mul (O.mul x1 x1) x1) x1)) (O.mul (O.mul (O.mul x1 x1) x1) x1)) (O.mul (O.mul (O.mul x1 x1) x1) x1)) (O.add (O.add (O.add (O.add (O.add (O.add (O.add (O.mul x1 (O.mul y1 y1)) (O.mul x1 (O.mul y1 y1))) (O.mul x1 (O.mul y1 y1))) (O.mul x1 (O.mul y1 y1))) (O.mul x1 (O.mul y1 y1))) (O.mul x1 (O.mul y1 y1))) (O.mul x1 (O.mul y1 y1))) (O.mul x1 (O.mul y1 y1)))) (O.sub (O.add (O.add (O.add (O.add (O.add (O.add (O.add (O.add (O.mul (O.mul (O.mul x1 x1) x1) x1) (O.mul (O.mul (O.mul x1 x1) x1) x1)) (O.mul (O.mul (O.mul x1 x1) x1) x1)) (O.mul (O.mul (O.mul x1 x1) x1) x1)) (O.mul (O.mul (O.mul x1 x1) x1) x1)) (O.mul (O.mul (O.mul x1 x1) x1) x1)) (O.mul (O.mul (O.mul x1 x1) x1) x1)) (O.mul (O.mul (O.mul x1 x1) x1) x1)) (O.mul (O.mul (O.mul x1 x1) x1) x1)) (O.add (O.add (O.add (O.add (O.add (O.add (O.add (O.mul x1 (O.mul y1 y1)) (O.mul x1 (O.mul y1 y1))) (O.mul x1 (O.mul y1 y1))) (O.mul x1 (O.mul y1 y1))) (O.mul x1 (O.mul y1 y1))) (O.mul x1 (O.mul y1 y1))) (O.mul x1 (O.mul y1 y1))) (O.mul x1 (O.mul y1 y1))))) (O.sub (O.add (O.add (O.add (O.add (O.add (O.add (O.add (O.add (O.mul (O.mul (O.mul x1 x1) x1) x1) (O.mul (O.mul (O.mul x1 x1) x1) x1)) (O.mul (O.mul (O.mul x1 x1) x1) x1)) (O.mul (O.mul (O.mul x1 x1) x1) x1)) (O.mul (O.mul (O.mul x1 x1) x1) x1)) (O.mul (O.mul (O.mul x1 x1) x1) x1)) (O.mul (O.mul (O.mul x1 x1) x1) x1)) (O.mul (O.mul (O.mul x1 x1) x1) x1)) (O.mul (O.mul (O.mul x1 x1) x1) x1)) (O.add (O.add (O.add (O.add (O.add (O.add (O.add (O.mul x1 (O.mul y1 y1)) (O.mul x1 (O.mul y1 y1))) (O.mul x1 (O.mul y1 y1))) (O.mul x1 (O.mul y1 y1))) (O.mul x1 (O.mul y1 y1))) (O.mul x1 (O.mul y1 y1))) (O.mul x1 (O.mul y1 y1))) (O.mul x1 (O.mul y1 y1))))) (O.mul b (O.mul (O.mul (O.mul (O.mul (O.mul (O.add y1 y1) (O.add y1 y1)) (O.add y1 y1)) (O.add y1 y1)) (O.add y1 y1)) (O.add y1 y1))))),fun h _ _ _ _ _ _=>by simp only[h.add,h.mul,h.sub,cadd_2 h]⟩
theorem idOpY_s:idOpY.Small:=by decide +kernel
theorem idOpY_n:idOpY.Nought:=by decide +kernel
end Go.Proofs.YtfmpjjhdocejiaaGreat
