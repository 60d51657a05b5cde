/- The document's tower, by values told by letters: its field's calls, its own methods. (Cut to what is reached, written closely: RInv · RNw · TwQ.) -/
import Derived.Test.YtadfjjfklihaaaaGreatQ35
import Derived.Test.YtadfjjfklihaaaaGreatP19
import Derived.Test.YtadfjjfklihaaaaGreatQ32
import Derived.Test.YtadfjjfklihaaaaGreatP7
import Derived.Test.YtadfjjfklihaaaaGreatQ30
import Derived.Test.YtadfjjfklihaaaaGreatQ36
import Derived.Test.YtadfjjfklihaaaaGreatQ33
set_option linter.all false
set_option maxRecDepth 100000
set_option maxHeartbeats 8000000
namespace Go.Proofs.YtadfjjfklihaaaaGreat
open Go.RowKit
theorem rres_cell_tmp{P:Program}{fn:Func}{p u:Tmp}{ty:TypeId}{vb:Value}(h:fn.results=#[.cell p ty,.tmp u])(tmps:Array Value)(w:World)(g:Nat)(t:TypeId)(cs:Array Value)(fr:Nat × Nat)(d:TypeDesc)
  (hp:tmps.getD p undef=.pointer (some ⟨g,0,none⟩)) (hb:tmps.getD u undef=vb) (hg:w.heap[g]?=some (.cells cs t fr))
  (hu:P.underlying ty=some d) (hd:(match d with | .struct _ | .array _ _=>true | _=>false)=true) (hi:(P.info? ty).map (·.size)=some cs.size) :
  (results fn tmps).run P w=.ok (.tuple #[.agg cs,vb]) w:=by
 have hp':tmps[p]?.getD undef=.pointer (some ⟨g,0,none⟩):=by simpa using hp
 have hb':tmps[u]?.getD undef=vb:=by simpa using hb
 simp[results,h,hp',hb',asAddr,run_loadVar_row w g t ty cs fr d hg hu hd hi]
theorem rinv_w(G m a:Nat)(hal:a<2^256)(hm:m<2^256)(h1:1<m)(ho:m%2=1)(w:World)(hF:RFld w G m):Calls Tryz.prog 80 #[(.pointer (some ⟨G,0,none⟩)),.agg (pw a)] w fun r w'=>r=.returned (.tuple #[.agg (pw (if a*(a^(m - 2)%m)%m=1 then a^(m - 2)%m else 0)),.bool (decide (a*(a^(m - 2)%m)%m=1))])/\Below w.heap.size w w':=by
 obtain⟨lo,hll,hlo,hR⟩:=hF;obtain⟨sq,hsq⟩:∃ sq,2^256*2^256%m=sq:=⟨_,rfl⟩
 have HFL:=Lib.hid (show ∀ wx,RFat wx G m lo sq->RFld wx G m from fun wx h=>⟨lo,hll,hlo,by rw[hsq];exact h⟩);rw[hsq]at hR;have H0:=Lib.hid (CRf.one hR a);have HEX:=Lib.hid (fun wx (c:RFat wx G m lo sq)=>rexp_w G m a (m - 2) hal (by omega) hm h1 ho wx (HFL.out wx c));have HMI:=Lib.hid (fun wx=>minusW_any m 2 hm (by omega) wx);rw[show pw (m+2^256 - 2)=pw (m - 2) from pw_less (by omega)]at HMI;rw[show(pw 2:Array Value)=#[.int .u64 2,.int .u64 0,.int .u64 0,.int .u64 0] from rfl]at HMI;have hil:a^(m - 2)%m<m:=Nat.mod_lt _ (by omega);obtain⟨v,hv⟩:∃ v,a^(m - 2)%m=v:=⟨_,rfl⟩
 rw[hv]at HEX hil |-
 have HML:=Lib.hid (fun wx (c:RFat wx G m lo sq)=>rmul_w G m a v hal (Nat.lt_trans hil hm) hm h1 ho wx (HFL.out wx c));obtain⟨u,hu⟩:∃ u,a*v%m=u:=⟨_,rfl⟩
 have HNE:=Lib.hid (fun wx=>new_run u 1 (by rw[<- hu];exact Nat.lt_trans (Nat.mod_lt _ (by omega)) hm) (by omega) wx);rw[hu]at HML |-
 clear hsq hR hal hm h1 ho hll hlo hil hv hu HFL;go_enter Tryz.func80,Tryz.ntmps80
 go_wp2_with fail
 refine region_many [.val 7 ((.pointer (some ⟨G,0,none⟩))),.val 8 ((.agg (pw a))),.val 9 ((.pointer (some ⟨G,0,none⟩))),.val 10 ((.pointer (some ⟨G,0,none⟩))),.val 11 ((.pointer (some ⟨G,0,none⟩))),.val 12 ((.agg (pw m))),.val 13 ((.agg #[.int .u64 2,.int .u64 0,.int .u64 0,.int .u64 0])),.val 14 ((.agg (pw (m - 2)))),.val 15 ((.agg (pw v))),.blk 6 24,.laid 6 24] [6] (fun p=>pw v) (fun i=>i) (by kernel_rfl) (by kernel_rfl) (by exact⟨trivial,trivial,trivial,trivial,trivial,trivial,trivial,trivial,trivial,(by simp[Sp.ok]),(by simp[Sp.ok]),trivial⟩) (by intro p hp q hq hne;simp only[List.mem_cons,List.not_mem_nil,or_false]at hp hq;exact absurd (hp.trans hq.symm) hne) ?_ ?_
 ·refine⟨?_,?_,?_,?_,?_,?_,?_,?_,?_,?_,?_,trivial⟩
  ·intro ac wx hC hsz hK
   have h0:ac.tmps.getD 0 undef=(.pointer (some ⟨G,0,none⟩)):=hK.1 0 (by kernel_rfl);exact mm_val ((.pointer (some ⟨G,0,none⟩))) rfl (by kernel_rfl) (by rw[<- h0];kernel_rfl) hC (by kernel_rfl) (by rw[hsz];exact of_decide_eq_true (by kernel_rfl)) rfl
  ·intro ac wx hC hsz hK
   have h0:ac.tmps.getD 3 undef=(.pointer (some ⟨w.heap.size,0,none⟩)):=hK.1 3 (by kernel_rfl);exact mm_load 24 (.tmp 3) ((.pointer (some ⟨w.heap.size,0,none⟩))) ((.agg (pw a))) rfl rfl (by kernel_rfl) h0 (ld_pw ((H0.out.below hC.1).is _ _ (by simp))) hC (by kernel_rfl) (by rw[hsz];exact of_decide_eq_true (by kernel_rfl)) rfl
  ·intro ac wx hC hsz hK
   have h0:ac.tmps.getD 0 undef=(.pointer (some ⟨G,0,none⟩)):=hK.1 0 (by kernel_rfl);exact mm_val ((.pointer (some ⟨G,0,none⟩))) rfl (by kernel_rfl) (by rw[<- h0];kernel_rfl) hC (by kernel_rfl) (by rw[hsz];exact of_decide_eq_true (by kernel_rfl)) rfl
  ·intro ac wx hC hsz hK
   have h0:ac.tmps.getD 9 undef=(.pointer (some ⟨G,0,none⟩)):=hK.2 ⟨2,.data⟩ (by simp) rfl _ rfl;exact mm_val ((.pointer (some ⟨G,0,none⟩))) rfl (by kernel_rfl) (run_nil (.tmp 9) _ rfl h0) hC (by kernel_rfl) (by rw[hsz];exact of_decide_eq_true (by kernel_rfl)) rfl
  ·intro ac wx hC hsz hK
   have h0:ac.tmps.getD 10 undef=(.pointer (some ⟨G,0,none⟩)):=hK.2 ⟨3,.data⟩ (by simp) rfl _ rfl;refine mm_sem (Instr.fieldAt 109 (ac.tmps.getD 10 undef) 0) ((.pointer (some ⟨G,0,none⟩))) rfl (by kernel_rfl) (by kernel_rfl) ?_ hC (by kernel_rfl) (by rw[hsz];exact of_decide_eq_true (by kernel_rfl)) rfl;rw[h0];exact(rf_at G wx).1
  ·intro ac wx hC hsz hK
   have h0:ac.tmps.getD 11 undef=(.pointer (some ⟨G,0,none⟩)):=hK.2 ⟨4,.data⟩ (by simp) rfl _ rfl;exact mm_load 24 (.tmp 11) ((.pointer (some ⟨G,0,none⟩))) ((.agg (pw m))) rfl rfl (by kernel_rfl) h0 (ld_rm (H0.out.below hC.1).fld) hC (by kernel_rfl) (by rw[hsz];exact of_decide_eq_true (by kernel_rfl)) rfl
  ·intro ac wx hC hsz hK
   exact mm_val ((.agg #[.int .u64 2,.int .u64 0,.int .u64 0,.int .u64 0])) rfl (by kernel_rfl) (by kernel_rfl) hC (by kernel_rfl) (by rw[hsz];exact of_decide_eq_true (by kernel_rfl)) rfl
  ·intro ac wx hC hsz hK
   have h0:ac.tmps.getD 12 undef=(.agg (pw m)):=hK.2 ⟨5,.data⟩ (by simp) rfl _ rfl;have h1:ac.tmps.getD 13 undef=(.agg #[.int .u64 2,.int .u64 0,.int .u64 0,.int .u64 0]):=hK.2 ⟨6,.data⟩ (by simp) rfl _ rfl;refine mm_call 100 #[ac.tmps.getD 12 undef,ac.tmps.getD 13 undef] ((.agg (pw (m - 2)))) rfl (by kernel_rfl) (by kernel_rfl) ?_ hC (by kernel_rfl) (by rw[hsz];exact of_decide_eq_true (by kernel_rfl)) rfl;rw[h0,h1];exact HMI.out wx
  ·intro ac wx hC hsz hK
   have h0:ac.tmps.getD 7 undef=(.pointer (some ⟨G,0,none⟩)):=hK.2 ⟨0,.data⟩ (by simp) rfl _ rfl;have h1:ac.tmps.getD 8 undef=(.agg (pw a)):=hK.2 ⟨1,.data⟩ (by simp) rfl _ rfl;have h2:ac.tmps.getD 14 undef=(.agg (pw (m - 2))):=hK.2 ⟨7,.data⟩ (by simp) rfl _ rfl;refine mm_call 115 #[ac.tmps.getD 7 undef,ac.tmps.getD 8 undef,ac.tmps.getD 14 undef] ((.agg (pw v))) rfl (by kernel_rfl) (by kernel_rfl) ?_ hC (by kernel_rfl) (by rw[hsz];exact of_decide_eq_true (by kernel_rfl)) rfl;rw[h0,h1,h2];exact HEX.out wx (H0.out.below hC.1).fld
  ·intro ac wx hC hsz hK
   exact mm_new 24 (#[.int .u64 0,.int .u64 0,.int .u64 0,.int .u64 0]) rfl (by kernel_rfl) (by kernel_rfl) hC (by rw[pw_size];rfl) (by rw[hsz];exact of_decide_eq_true (by kernel_rfl)) rfl
  ·intro ac wx hC hsz hK
   have h0:ac.tmps.getD 15 undef=(.agg (pw v)):=hK.2 ⟨8,.data⟩ (by simp) rfl _ rfl;exact mm_store (p:=6) 24 (.tmp 6) (.tmp 15) _ rfl rfl (by kernel_rfl) rfl h0 (by simp) (hK.2 ⟨9,.data⟩ (by simp) rfl _ rfl) (fun D cs h3 h4=>store_w (h4.trans (pw_size _)) h3) hC rfl
 intro f1 w5 hb5 hap hf5;obtain⟨E,s6,hE,r6⟩:=hf5 10 _ rfl;have H2:=Lib.hid (show CRf w G m lo sq [(E,pw v),(w.heap.size+1,#[.int .u64 0,.int .u64 0,.int .u64 0,.int .u64 0]),(w.heap.size,pw a)] w5 from((H0.out.below hb5).cons r6));clear hf5 hap hb5 r6 hE H0 HEX HMI;generalize hAct:putAll _ _ _=A1 at *;have s6':A1.tmps.getD 6 undef=.pointer (some ⟨E,0,none⟩):=s6;have s0:A1.tmps.getD 0 undef=(.pointer (some ⟨G,0,none⟩)):=by subst hAct;kernel_rfl
 have s3:A1.tmps.getD 3 undef=.pointer (some ⟨w.heap.size,0,none⟩):=by subst hAct;kernel_rfl
 have s4:A1.tmps.getD 4 undef=.pointer (some ⟨w.heap.size+1,0,none⟩):=by subst hAct;kernel_rfl
 have s5:A1.tmps.getD 5 undef=.bool false:=by subst hAct;kernel_rfl
 have hsz:A1.tmps.size=24:=by rw[<- hAct,putAll_size];rfl
 have hdf:A1.defers=[]:=by subst hAct;kernel_rfl
 clear hAct s6 f1;obtain⟨u1,t1⟩:∃ u,A1.tmps.getD 1 undef=u:=⟨_,rfl⟩
 obtain⟨u2,t2⟩:∃ u,A1.tmps.getD 2 undef=u:=⟨_,rfl⟩
 obtain⟨u7,t7⟩:∃ u,A1.tmps.getD 7 undef=u:=⟨_,rfl⟩
 obtain⟨u8,t8⟩:∃ u,A1.tmps.getD 8 undef=u:=⟨_,rfl⟩
 obtain⟨u9,t9⟩:∃ u,A1.tmps.getD 9 undef=u:=⟨_,rfl⟩
 obtain⟨u10,t10⟩:∃ u,A1.tmps.getD 10 undef=u:=⟨_,rfl⟩
 obtain⟨u11,t11⟩:∃ u,A1.tmps.getD 11 undef=u:=⟨_,rfl⟩
 obtain⟨u12,t12⟩:∃ u,A1.tmps.getD 12 undef=u:=⟨_,rfl⟩
 obtain⟨u13,t13⟩:∃ u,A1.tmps.getD 13 undef=u:=⟨_,rfl⟩
 obtain⟨u14,t14⟩:∃ u,A1.tmps.getD 14 undef=u:=⟨_,rfl⟩
 obtain⟨u15,t15⟩:∃ u,A1.tmps.getD 15 undef=u:=⟨_,rfl⟩
 obtain⟨u16,t16⟩:∃ u,A1.tmps.getD 16 undef=u:=⟨_,rfl⟩
 obtain⟨u17,t17⟩:∃ u,A1.tmps.getD 17 undef=u:=⟨_,rfl⟩
 obtain⟨u18,t18⟩:∃ u,A1.tmps.getD 18 undef=u:=⟨_,rfl⟩
 obtain⟨u19,t19⟩:∃ u,A1.tmps.getD 19 undef=u:=⟨_,rfl⟩
 obtain⟨u20,t20⟩:∃ u,A1.tmps.getD 20 undef=u:=⟨_,rfl⟩
 obtain⟨u21,t21⟩:∃ u,A1.tmps.getD 21 undef=u:=⟨_,rfl⟩
 obtain⟨u22,t22⟩:∃ u,A1.tmps.getD 22 undef=u:=⟨_,rfl⟩
 obtain⟨u23,t23⟩:∃ u,A1.tmps.getD 23 undef=u:=⟨_,rfl⟩
 obtain⟨tm,df⟩:=A1;simp only at *;have hLt:=arr_litS tm;rw[hsz]at hLt;simp only[List.range,List.range.loop,List.map]at hLt;rw[s0,t1,t2,s3,s4,s5,s6',t7,t8,t9,t10,t11,t12,t13,t14,t15,t16,t17,t18,t19,t20,t21,t22,t23]at hLt;subst hLt hdf;clear s0 t1 t2 s3 s4 s5 s6' t7 t8 t9 t10 t11 t12 t13 t14 t15 t16 t17 t18 t19 t20 t21 t22 t23 hsz
 go_upto_region 2 with(fail)
 by_cases h1:u=1
 ·rw[show(!decide (u=1))=false from by rw[h1];rfl]at HNE
  refine q_region (CRf w G m lo sq [(E,pw v),(w.heap.size+1,#[.int .u64 0,.int .u64 0,.int .u64 0,.int .u64 0]),(w.heap.size,pw a)]) H2.out ?_
  with_reducible refine q_val (.pointer (some ⟨G,0,none⟩)) (by kernel_rfl) (fun _ _=>by kernel_rfl) ?_
  with_reducible refine q_load 24 (.tmp 3) (.pointer (some ⟨w.heap.size,0,none⟩)) (.agg (pw a)) rfl (by kernel_rfl) (by kernel_rfl) (fun _ c=>ld_pw (c.is _ _ (by simp))) ?_
  with_reducible refine q_load 24 (.tmp 6) (.pointer (some ⟨E,0,none⟩)) (.agg (pw v)) rfl (by kernel_rfl) (by kernel_rfl) (fun _ c=>ld_pw (c.is _ _ (by simp))) ?_
  with_reducible refine q_call 77 #[.pointer (some ⟨G,0,none⟩),.agg (pw a),.agg (pw v)] (.agg (pw u)) (by kernel_rfl) (fun _=>by kernel_rfl) (CRf.calls HML.out) ?_
  with_reducible refine q_val (.agg (pw 1)) (by kernel_rfl) (fun _ _=>by kernel_rfl) ?_
  with_reducible refine q_bin .neq 24 _ _ 24 (.agg (pw u)) (.agg (pw 1)) (.bool false) rfl (by kernel_rfl) (by kernel_rfl) (by kernel_rfl) (fun _=>by kernel_rfl) (fun w'=>HNE.out w') ?_
  with_reducible refine wpQuiet_nil ?_
  intro wx hC;have HC:=Lib.hid hC;clear hC H2;simp only[Act.put,List.setIfInBounds_toArray,List.set_cons_succ,List.set_cons_zero]
  go_wp2_with (first | (refine wpList_ld rfl 24 _ rfl (.pointer (some ⟨E,0,none⟩)) (.agg (pw v)) rfl (ld_pw (by exact HC.out.is _ _ (by simp))) ?_) | (refine wpList_store_row rfl 24 _ _ rfl (w.heap.size+1) (pw v) rfl rfl 24 (#[.int .u64 0,.int .u64 0,.int .u64 0,.int .u64 0]) (by exact HC.out.is _ _ (by simp)) (by rw[pw_size];exact infoW4) (by first | rfl | (rw[pw_size];rfl) | (rw[pw_size,pw_size])) (pw_one _) ?_))
  refine bodyPost_ret (v:=.tuple #[.agg (pw v),.bool true]) (rres_cell_tmp (p:=4) (u:=5) (vb:=.bool true) rfl _ _ (w.heap.size+1) 24 (pw v) (0,0) _ rfl rfl (setRow_heap _ _ _ _ _ _ (HC.out.is (w.heap.size+1) (#[.int .u64 0,.int .u64 0,.int .u64 0,.int .u64 0]) (by simp))) Tryz.underlying24 rfl (by rw[pw_size];exact infoW4)) rfl ⟨by first | rfl | rw[if_pos h1,decide_eq_true h1],below_setRow HC.out.old (by omega) _⟩
 ·rw[show(!decide (u=1))=true from by simp[h1]]at HNE
  refine q_region (CRf w G m lo sq [(E,pw v),(w.heap.size+1,#[.int .u64 0,.int .u64 0,.int .u64 0,.int .u64 0]),(w.heap.size,pw a)]) H2.out ?_
  with_reducible refine q_val (.pointer (some ⟨G,0,none⟩)) (by kernel_rfl) (fun _ _=>by kernel_rfl) ?_
  with_reducible refine q_load 24 (.tmp 3) (.pointer (some ⟨w.heap.size,0,none⟩)) (.agg (pw a)) rfl (by kernel_rfl) (by kernel_rfl) (fun _ c=>ld_pw (c.is _ _ (by simp))) ?_
  with_reducible refine q_load 24 (.tmp 6) (.pointer (some ⟨E,0,none⟩)) (.agg (pw v)) rfl (by kernel_rfl) (by kernel_rfl) (fun _ c=>ld_pw (c.is _ _ (by simp))) ?_
  with_reducible refine q_call 77 #[.pointer (some ⟨G,0,none⟩),.agg (pw a),.agg (pw v)] (.agg (pw u)) (by kernel_rfl) (fun _=>by kernel_rfl) (CRf.calls HML.out) ?_
  with_reducible refine q_val (.agg (pw 1)) (by kernel_rfl) (fun _ _=>by kernel_rfl) ?_
  with_reducible refine q_bin .neq 24 _ _ 24 (.agg (pw u)) (.agg (pw 1)) (.bool true) rfl (by kernel_rfl) (by kernel_rfl) (by kernel_rfl) (fun _=>by kernel_rfl) (fun w'=>HNE.out w') ?_
  with_reducible refine wpQuiet_nil ?_
  intro wx hC;have HC:=Lib.hid hC;clear hC H2;simp only[Act.put,List.setIfInBounds_toArray,List.set_cons_succ,List.set_cons_zero]
  go_wp2_with (refine wpList_store_row rfl 24 _ _ rfl (w.heap.size+1) (pw 0) rfl rfl 24 (#[.int .u64 0,.int .u64 0,.int .u64 0,.int .u64 0]) (by exact HC.out.is _ _ (by simp)) (by rw[pw_size];exact infoW4) (by first | rfl | (rw[pw_size];rfl) | (rw[pw_size,pw_size])) (pw_one _) ?_)
  refine bodyPost_ret (v:=.tuple #[.agg (pw 0),.bool false]) (rres_cell_tmp (p:=4) (u:=5) (vb:=.bool false) rfl _ _ (w.heap.size+1) 24 (pw 0) (0,0) _ rfl rfl (setRow_heap _ _ _ _ _ _ (HC.out.is (w.heap.size+1) (#[.int .u64 0,.int .u64 0,.int .u64 0,.int .u64 0]) (by simp))) Tryz.underlying24 rfl (by rw[pw_size];exact infoW4)) rfl ⟨by first | rfl | rw[if_neg h1,decide_eq_false h1],below_setRow HC.out.old (by omega) _⟩
open Go.RowKit
theorem sq_pow(m k e:Nat)(hk:k=e+e)(he:2^e=2^256):2^k%m=2^256*2^256%m:=by rw[hk,Nat.pow_add,he]
theorem row17(m:Nat):(#[.int .u64 ((pN m 0:Nat):Int),.int .u64 ((pN m 1:Nat):Int),.int .u64 ((pN m 2:Nat):Int),.int .u64 ((pN m 3:Nat):Int),.int .u64 ((qN m 0:Nat):Int),.int .u64 ((qN m 1:Nat):Int),.int .u64 ((qN m 2:Nat):Int),.int .u64 ((qN m 3:Nat):Int),.int .u64 ((qN m 4:Nat):Int),.int .u64 ((qN m 5:Nat):Int),.int .u64 ((qN m 6:Nat):Int),.int .u64 ((qN m 7:Nat):Int),.int .u64 1,.int .u64 0,.int .u64 0,.int .u64 0,.int .u64 0]:Array Value)=ar .u64 17 fun j=>((rfw m 1 0 j:Nat):Int):=by kernel_rfl
theorem q8_lit(m:Nat):(ar .u64 8 fun j=>((qN m j:Nat):Int))=#[.int .u64 ((qN m 0:Nat):Int),.int .u64 ((qN m 1:Nat):Int),.int .u64 ((qN m 2:Nat):Int),.int .u64 ((qN m 3:Nat):Int),.int .u64 ((qN m 4:Nat):Int),.int .u64 ((qN m 5:Nat):Int),.int .u64 ((qN m 6:Nat):Int),.int .u64 ((qN m 7:Nat):Int)]:=by kernel_rfl
structure CNw (w:World) (G m lo sq:Nat) (wx:World):Prop where
 old:Below w.heap.size w wx
 hG:w.heap.size<=G
 fld:RFat wx G m lo sq
theorem CNw.below{w wx w':World}{G m lo sq:Nat}(c:CNw w G m lo sq wx)(hb:Below wx.heap.size wx w'):CNw w G m lo sq w':=⟨c.old.trans (hb.mono c.old.size),c.hG,c.fld.below hb⟩
theorem CNw.drew{w wx:World}{G m lo sq:Nat}(c:CNw w G m lo sq wx):CNw w G m lo sq wx.drew:=c.below (Below.drew (Below.refl _ _))
theorem CNw.calls{w:World}{G m lo sq:Nat}{f:FuncId}{args:Array Value}{v:Value}(h:∀ wx,RFat wx G m lo sq->Calls Tryz.prog f args wx fun e w'=>e=.returned v/\Below wx.heap.size wx w'):∀ wx,CNw w G m lo sq wx->Calls Tryz.prog f args wx fun e w'=>e=.returned v/\CNw w G m lo sq w' :=
 fun wx c=>(h wx c.fld).mono fun _ _ hh=>⟨hh.1,c.below hh.2⟩
def lowOf(G:Nat)(w:World):Nat:=match w.cell? ⟨G,12,none⟩with | some (.int _ x)=>x.toNat | _=>0
theorem lowOf_is{w:World}{G m lo sq:Nat}(h:RFat w G m lo sq):lowOf G w=lo:=by
 unfold lowOf;rw[h.cell 12 (by omega),rfw_lo];simp
theorem rnew_any(m:Nat)(hm:m<2^256)(ho:m%2=1)(h1:1<m)(w:World):Calls Tryz.prog 29 #[.agg (pw m)] w fun e w'=>∃ v,e=.returned v/\(∃ G,v=(.pointer (some ⟨G,0,none⟩))/\w.heap.size<=G/\∃ lo,lo<4294967296/\(lo*qN m 0+1)%4294967296=0/\RFat w' G m lo (2^256*2^256%m))/\Below w.heap.size w w':=by
 have H0:=Lib.hid (CBm.start w m);have HP:=Lib.hid (fun wx=>rparts_any m wx);rw[q8_lit]at HP;have HO:=Lib.hid (And.intro hm (And.intro ho h1));have HQ0:=Lib.hid (show qN m 0%2=1 from by unfold qN;simp;omega);clear hm ho h1;go_enter Tryz.func29,Tryz.ntmps29
 go_wp2_with fail
 refine region_quiet_tail 4 (CBm w m) (by kernel_rfl) (by kernel_rfl) (H0.out.drew) ?_;simp only[List.take_succ_cons,List.take_zero,List.drop_succ_cons,List.drop_zero]
 with_reducible refine q_load 24 (.tmp 1) (.pointer (some ⟨w.heap.size,0,none⟩)) (.agg #[.int .u64 ((pN m 0:Nat):Int),.int .u64 ((pN m 1:Nat):Int),.int .u64 ((pN m 2:Nat):Int),.int .u64 ((pN m 3:Nat):Int)]) rfl (by kernel_rfl) (by kernel_rfl) (fun _ c=>(by rw[<- pw4];exact ld_pw c.r0)) ?_
 with_reducible refine q_load 24 (.tmp 1) (.pointer (some ⟨w.heap.size,0,none⟩)) (.agg (pw m)) rfl (by kernel_rfl) (by kernel_rfl) (fun _ c=>ld_pw c.r0) ?_
 with_reducible refine q_call 60 #[.agg (pw m)] (.agg #[.int .u64 ((qN m 0:Nat):Int),.int .u64 ((qN m 1:Nat):Int),.int .u64 ((qN m 2:Nat):Int),.int .u64 ((qN m 3:Nat):Int),.int .u64 ((qN m 4:Nat):Int),.int .u64 ((qN m 5:Nat):Int),.int .u64 ((qN m 6:Nat):Int),.int .u64 ((qN m 7:Nat):Int)]) (by kernel_rfl) (fun _=>by kernel_rfl) (CBm.calls HP.out) ?_
 with_reducible refine q_val (.agg #[.int .u64 ((pN m 0:Nat):Int),.int .u64 ((pN m 1:Nat):Int),.int .u64 ((pN m 2:Nat):Int),.int .u64 ((pN m 3:Nat):Int),.int .u64 ((qN m 0:Nat):Int),.int .u64 ((qN m 1:Nat):Int),.int .u64 ((qN m 2:Nat):Int),.int .u64 ((qN m 3:Nat):Int),.int .u64 ((qN m 4:Nat):Int),.int .u64 ((qN m 5:Nat):Int),.int .u64 ((qN m 6:Nat):Int),.int .u64 ((qN m 7:Nat):Int),.int .u64 1,.int .u64 0,.int .u64 0,.int .u64 0,.int .u64 0]) (by kernel_rfl) (fun _ _=>by kernel_rfl) ?_
 with_reducible refine wpQuiet_nil ?_
 intro wx hC;have HC:=Lib.hid hC;clear hC H0 HP;simp only[Act.put,List.setIfInBounds_toArray,List.set_cons_succ,List.set_cons_zero]
 go_wp2_with fail
 obtain⟨w1,hw1⟩:∃ w1,wx.alloc (.cells (#[.int .u64 ((pN m 0:Nat):Int),.int .u64 ((pN m 1:Nat):Int),.int .u64 ((pN m 2:Nat):Int),.int .u64 ((pN m 3:Nat):Int),.int .u64 ((qN m 0:Nat):Int),.int .u64 ((qN m 1:Nat):Int),.int .u64 ((qN m 2:Nat):Int),.int .u64 ((qN m 3:Nat):Int),.int .u64 ((qN m 4:Nat):Int),.int .u64 ((qN m 5:Nat):Int),.int .u64 ((qN m 6:Nat):Int),.int .u64 ((qN m 7:Nat):Int),.int .u64 1,.int .u64 0,.int .u64 0,.int .u64 0,.int .u64 0]) 109)=w1:=⟨_,rfl⟩
 obtain⟨G,hG⟩:∃ G,wx.heap.size=G:=⟨_,rfl⟩
 have H1:=Lib.hid (show CNw w G m 1 0 w1 from by
  refine⟨by rw[<- hw1];exact HC.out.old.alloc HC.out.old.size _,by rw[<- hG];exact HC.out.old.size,?_⟩;unfold RFat;rw[<- hw1,<- hG,row17];exact heap_alloc_new _ _)
 rw[hw1,hG];clear hw1 hG HC
 go_loopw [] (fun wr=>∃ lo:Nat,Hid (LowI (qN m 0) lo/\CNw w G m lo 0 wr)) (fun wr=>4294967296 - lowOf G wr)
 case atStart=>exact⟨1,Lib.hid ⟨LowI.start HQ0.out,H1.out⟩⟩
 case round =>
  obtain⟨lo,H⟩:=hrel;clear H1;have hll:=H.out.1.lt;have hql:=qN_lt m 0;have c12:=H.out.2.fld.cell 12 (by omega);have c4:=H.out.2.fld.cell 4 (by omega);have f12:=frozen_of_row wr G 12 _ _ H.out.2.fld;rw[rfw_lo]at c12;rw[show rfw m lo 0 4=qN m 0 from rfw_q m lo 0 0 (by omega)]at c4;obtain⟨q,hq⟩:∃ q,qN m 0=q:=⟨_,rfl⟩
  rw[hq]at c4 hql;have hpl:lo*q<=4294967295*4294967295:=Nat.mul_le_mul (by omega) (by omega);obtain⟨pr,hpr⟩:∃ pr,lo*q=pr:=⟨_,rfl⟩
  obtain⟨c,hc⟩:∃ c,pr%4294967296=c:=⟨_,rfl⟩
  rw[hpr]at hpl;have hW:IntKind.u64.wrap ((lo:Int)*(q:Int))=(pr:Int):=by (rw[IntKind.wrap_u64,<- hpr,Int.natCast_mul];have:(lo:Int)*q=(pr:Int):=by rw[<- hpr,Int.natCast_mul]);omega
  have hA:bits .and .u64 (pr:Int) 4294967295=(c:Int):=by rw[and_low32 pr (by omega),hc]
  have HPR:=Lib.hid (And.intro hq (And.intro hpr hc));by_cases he:c=4294967295
  ·subst he
   have HF:=Lib.hid (show lo<4294967296/\(lo*qN m 0+1)%4294967296=0 from⟨hll,LowI.done (by rw[hq,hpr,hc])⟩);clear hc hll hql hpl hq hpr HPR
   go_wp2_with fail
   go_region
   go_wp2_with (refine wpList_store_mid rfl 24 _ _ rfl G 13 (pw 1) rfl rfl (by exact H.out.2.drew.fld.there 1) (by rw[pw_size];exact infoW4) (pw_one _) ?_)
   obtain⟨w3,hw3⟩:∃ w3,wr.drew.setCells G 13 (pw 1).toList=w3:=⟨_,rfl⟩
   have H3:=Lib.hid (show CNw w G m lo (2^0%m) w3 from by
    rw[show 2^0%m=1 from by rw[Nat.pow_zero];exact Nat.mod_eq_of_lt HO.out.2.2,<- hw3];exact⟨tab_below _ _ H.out.2.drew.old H.out.2.hG,H.out.2.hG,H.out.2.drew.fld.sq 1⟩)
   rw[hw3];clear hw3 H hW hA c12 c4 f12
   go_loopw [5] (fun iv wr=>∃ k:Nat,k<=512/\iv=.int .i64 k/\Hid (CNw w G m lo (2^k%m) wr)) (fun iv _=>512 - (intOf iv).toNat)
   case atStart=>exact⟨0,by omega,rfl,H3⟩
   case round =>
    obtain⟨k,hk,rfl,H⟩:=hrel;clear H3;have hk0:(0:Int)<=k:=by omega
    by_cases hlt:k<512
    ·have hlt':(k:Int)<512:=by omega
     have hm0:0<m:=by have:=HO.out.2.2;omega
     obtain⟨x,hx⟩:∃ x,2^k%m=x:=⟨_,rfl⟩
     have hxm:x<m:=by rw[<- hx];exact Nat.mod_lt _ hm0
     have HX:=Lib.hid (show(x+x)%m=2^(k+1)%m from by rw[<- hx,Nat.pow_succ,Nat.mul_two,<- Nat.add_mod]);obtain⟨y,hy⟩:∃ y,(x+x)%m=y:=⟨_,rfl⟩
     rw[hx]at H;have HAD:=Lib.hid (fun wx (hf:RFat wx G m lo x)=>radd_any G m lo x x x hxm hxm HO.out.1 wx hf);rw[hy]at HX HAD;have HK:=Lib.hid hlt;clear hx hxm hy hm0 hlt hk
     go_wp2_with fail
     refine region_quiet_tail 11 (CNw w G m lo x) (by kernel_rfl) (by kernel_rfl) (H.out.drew) ?_;simp only[List.take_succ_cons,List.take_zero,List.drop_succ_cons,List.drop_zero]
     with_reducible refine q_val (.pointer (some ⟨G,0,none⟩)) (by kernel_rfl) (fun _ _=>by kernel_rfl) ?_
     with_reducible refine q_val (.pointer (some ⟨G,0,none⟩)) (by kernel_rfl) (fun _ _=>by kernel_rfl) ?_
     with_reducible refine q_val (.pointer (some ⟨G,0,none⟩)) (by kernel_rfl) (fun _ _=>by kernel_rfl) ?_
     with_reducible refine q_val (.pointer (some ⟨G,0,none⟩)) (by kernel_rfl) (fun _ _=>run_nil (.tmp 57) _ rfl (by kernel_rfl)) ?_
     with_reducible refine q_sem2 (Instr.fieldAt 109 (.pointer (some ⟨G,0,none⟩)) 3) (.pointer (some ⟨G,13,none⟩)) (by kernel_rfl) (by kernel_rfl) (fun w' _=>(rf_at G w').2.2.2) ?_
     with_reducible refine q_load 24 (.tmp 59) (.pointer (some ⟨G,13,none⟩)) (.agg (pw x)) rfl (by kernel_rfl) (by kernel_rfl) (fun _ c=>ld_rsq c.fld) ?_
     with_reducible refine q_val (.pointer (some ⟨G,0,none⟩)) (by kernel_rfl) (fun _ _=>by kernel_rfl) ?_
     with_reducible refine q_val (.pointer (some ⟨G,0,none⟩)) (by kernel_rfl) (fun _ _=>run_nil (.tmp 61) _ rfl (by kernel_rfl)) ?_
     with_reducible refine q_sem2 (Instr.fieldAt 109 (.pointer (some ⟨G,0,none⟩)) 3) (.pointer (some ⟨G,13,none⟩)) (by kernel_rfl) (by kernel_rfl) (fun w' _=>(rf_at G w').2.2.2) ?_
     with_reducible refine q_load 24 (.tmp 63) (.pointer (some ⟨G,13,none⟩)) (.agg (pw x)) rfl (by kernel_rfl) (by kernel_rfl) (fun _ c=>ld_rsq c.fld) ?_
     with_reducible refine q_call 61 #[.pointer (some ⟨G,0,none⟩),.agg (pw x),.agg (pw x)] (.agg (pw y)) (by kernel_rfl) (fun _=>by kernel_rfl) (CNw.calls HAD.out) ?_
     with_reducible refine wpQuiet_nil ?_
     intro wx hC;have HC:=Lib.hid hC;clear hC H;simp only[Act.put,List.setIfInBounds_toArray,List.set_cons_succ,List.set_cons_zero]
     go_wp2_with (refine wpList_store_mid rfl 24 _ _ rfl G 13 (pw y) rfl rfl (by exact HC.out.fld.there y) (by rw[pw_size];exact infoW4) (pw_one _) ?_)
     go_roundw
     case rel=>exact⟨k+1,by have:=HK.out;omega,by go_num,Lib.hid (by rw[<- HX.out];exact⟨tab_below _ _ HC.out.old HC.out.hG,HC.out.hG,HC.out.fld.sq y⟩)⟩
     case measure=>have:=HK.out;simp[intOf];omega
    ·have hlt':¬(k:Int)<512:=by omega
     have HK:=Lib.hid (show k=512 by omega);clear hlt hk
     go_wp2_with fail
     go_ret;refine⟨_,rfl,⟨G,rfl,H.out.hG,lo,HF.out.1,HF.out.2,?_⟩,H.out.old⟩;have h:=H.out.fld;rwa [sq_pow m k 256 (by have:=HK.out;omega) rfl]at h
  ·obtain⟨L,hL⟩:∃ L,4294967295 - c=L:=⟨_,rfl⟩
   have hcl:c<4294967296:=by rw[<- hc];exact Nat.mod_lt _ (by omega)
   obtain⟨b,hb,hb0,hbl,hst⟩:=LowI.step H.out.1 HQ0.out (by rw[hq,hpr,hc]) he hL;have hne:¬(c:Int)=4294967295:=by omega
   have hx1:bits .xor .u64 (if IntKind.u64.signed=true then -1 else IntKind.u64.max) (pr:Int)=((18446744073709551615 - pr:Nat):Int):=xor_ones (by omega);have hX:bits .and .u64 ((18446744073709551615 - pr:Nat):Int) 4294967295=(L:Int):=by
    have h:=and_low32 (18446744073709551615 - pr) (by omega);rwa [show(18446744073709551615 - pr)%4294967296=L by omega]at h
   have hN:IntKind.u64.wrap (-(L:Int))=((18446744073709551616 - L:Nat):Int):=by rw[IntKind.wrap_u64];omega
   have hB:bits .and .u64 (L:Int) ((18446744073709551616 - L:Nat):Int)=(b:Int):=by rw[bits_and_u64_nat _ _ (by omega) (by omega),hb]
   have hS:IntKind.u64.wrap ((lo:Int)+(b:Int))=((lo+b:Nat):Int):=by rw[IntKind.wrap_u64];omega
   have HS:=Lib.hid (And.intro hst (And.intro hb0 hbl));obtain⟨NL,hNL⟩:∃ NL,18446744073709551616 - L=NL:=⟨_,rfl⟩
   obtain⟨l2,hl2⟩:∃ l2,lo+b=l2:=⟨_,rfl⟩
   rw[hNL]at hN hB;rw[hl2]at hS HS;have hE:IntKind.u64.wrap ((lo:Int)+bits .and .u64 (bits .and .u64 (bits .xor .u64 (if IntKind.u64.signed=true then -1 else IntKind.u64.max) (pr:Int)) 4294967295) (IntKind.u64.wrap (-bits .and .u64 (bits .xor .u64 (if IntKind.u64.signed=true then -1 else IntKind.u64.max) (pr:Int)) 4294967295)))=(l2:Int):=by rw[hx1,hX,hN,hB,hS]
   have HE:=Lib.hid hE;clear hE hx1 hX hN hB hS;have HL2:=Lib.hid (And.intro hl2 (lowOf_is H.out.2.fld));have hcn:¬c=4294967295:=he;clear hst hb hb0 hbl hNL hl2 hL hcl he hc hll hql hpl hq hpr HPR
   go_wp2_with fail
   go_region
   go_wp2_with fail
   go_region
   go_wp2_with fail
   go_roundw
   case rel=>exact⟨l2,Lib.hid ⟨HS.out.1,by rw[HE.out];exact⟨H.out.2.old.drew.drew.setCell H.out.2.hG _,H.out.2.hG,H.out.2.fld.lo l2⟩⟩⟩
   case measure =>
    rw[HE.out];have h1:lowOf G (wr.setCell ⟨G,12,none⟩ (.int .u64 (l2:Nat))).drew.drew=l2:=lowOf_is (H.out.2.fld.lo l2);have h2:=HS.out.2;have h3:=HL2.out;show 4294967296 - lowOf G _<4294967296 - lowOf G _;rw[h1,h3.2];omega
open Go.RowKit
namespace Sy
def sRF(m lo:Nat):SV:=let r:Nat->SV:=fun j=>.i .u64 (rfw m lo (2^256*2^256%m) j:Nat)
 .ap (r 0) (.ap (r 1) (.ap (r 2) (.ap (r 3) (.ap (r 4) (.ap (r 5) (.ap (r 6) (.ap (r 7) (.ap (r 8) (.ap (r 9) (.ap (r 10) (.ap (r 11) (.ap (r 12) (.ap (r 13) (.ap (r 14) (.ap (r 15) (.ap (r 16) .e))))))))))))))))
def isR(ext:Bool)(m lo:Nat)(M:Rows):SV->Option (List Ob)
 | .p g o _ z=>if o=0/\z=0 then (if ext=true then (if g=0 then some []else none)else match rowIn g M with
  | some (c,T)=>if T=109 then some [.eq c (sRF m lo)]else none
  | none=>none)else none
 | _=>none
structure ROk (ext:Bool) (m lo:Nat) (γ0:Pl) (w0:World):Prop where
 odd:m%2=1
 big:1<m
 lt:m<2^256
 at_:ext=true->RFld w0 (γ0 0) m
 low:ext=false->lo<4294967296/\(lo*qN m 0+1)%4294967296=0
theorem isR_at{ext:Bool}{m lo n:Nat}{M:Rows}{x:SV}{p:List Ob}{γ0 γ:Pl}{w0 wx:World}(h:isR ext m lo M x=some p)(hp:All p)(hf:ROk ext m lo γ0 w0)(hγ:∀ k,k<1->γ k=γ0 k)(hw:Below w0.heap.size w0 wx)(hL:Lies γ n M wx):∃ F,x.val γ=.pointer (some ⟨F,0,none⟩)/\RFld wx F m:=by
 cases x <;> first | (cases h;done) | skip
 rename_i g o j z;dsimp only[isR]at h
 split at h
 ·rename_i hz
  obtain⟨rfl,rfl⟩:=hz;refine⟨γ g,by simp[SV.val,SV.sc],?_⟩
  split at h
  ·rename_i he
   split at h
   ·rename_i hg
    rw[hg,hγ 0 (by decide)];exact(hf.at_ he).below hw
   ·cases h
  ·rename_i he
   split at h
   ·rename_i c T hr
    split at h
    ·rename_i hT
     cases h;have hc:c=sRF m lo:=hp _ (.head _);have:=(hL _ (rowIn_ok hr)).1;rw[hc,hT]at this;have hl:=hf.low (by simpa using he);exact⟨lo,hl.1,hl.2,this⟩
    ·cases h
   ·cases h
 ·cases h
def conR(ext:Bool)(m lo:Nat)(f:FuncId)(g:List SV->Option (SV × List Ob)):Con:=⟨f,fun _ M l=>match l with
 | x::us=>match isR ext m lo M x,g us with
  | some p,some (r,q)=>some (r,q++p,[])
  | _,_=>none
 | _=>none⟩
theorem conR_ok{P:Program}{ext:Bool}{m lo:Nat}{γ0:Pl}{w0:World}{f:FuncId}{g:List SV->Option (SV × List Ob)}(hf:ROk ext m lo γ0 w0)(hc:∀ as_ wx,(callFunc f as_).run P wx=.ok (.enter f as_) wx)
  (h:∀ us r q,g us=some (r,q)->All q->(∀ x∈us,x.ok)->r.ok/\r.lt 0=true/\∀ γ F w,RFld w F m->Calls P f (.pointer (some ⟨F,0,none⟩)::us.map (·.val γ)).toArray w fun e w'=>e=.returned (r.val γ)/\Below w.heap.size w w'):ConOk P 1 γ0 w0 (conR ext m lo f g) :=
 .of hc fun n M l r p R hr hp hok=>by
  unfold conR at hr;dsimp only at hr
  split at hr
  ·rename_i x us
   split at hr
   ·rename_i p' r' q hx hq
    cases hr;obtain⟨g1,g2,g3⟩:=h us r q hq (fun a ha=>hp a (List.mem_append_left _ ha)) fun x hx=>hok x (.tail _ hx);refine⟨rfl,g1,g2,?_⟩;intro γ hγ wx hw hL;obtain⟨F,h1,h2⟩:=isR_at hx (fun a ha=>hp a (List.mem_append_right _ ha)) hf hγ hw hL;have g4:=g3 γ F wx h2;rw[<- h1]at g4;exact g4
   ·cases hr
  ·cases hr
def ref2(ext:Bool)(m lo:Nat)(f:FuncId)(op:Nat->Nat->Nat):Con:=conR ext m lo f fun l=>match l with
 | [.w a,.w b]=>some (.w (op a b),[])
 | _=>none
def ref1(ext:Bool)(m lo:Nat)(f:FuncId)(op:Nat->SV × List Ob):Con:=conR ext m lo f fun l=>match l with
 | [.w a]=>some (op a)
 | _=>none
theorem ref2_ok{P:Program}{ext:Bool}{m lo:Nat}{γ0:Pl}{w0:World}{f:FuncId}{op:Nat->Nat->Nat}(hf:ROk ext m lo γ0 w0)(hc:∀ as_ wx,(callFunc f as_).run P wx=.ok (.enter f as_) wx)(hlt:∀ a b,op a b<2^256)
  (h:∀ F a b,a<2^256->b<2^256->∀ w,RFld w F m->Calls P f #[.pointer (some ⟨F,0,none⟩),.agg (pw a),.agg (pw b)] w fun e w'=>e=.returned (.agg (pw (op a b)))/\Below w.heap.size w w'):ConOk P 1 γ0 w0 (ref2 ext m lo f op) :=
 conR_ok hf hc fun us r q hr hq hok=>by
  split at hr
  ·rename_i a b
   cases hr;exact⟨hlt a b,rfl,fun γ F w hF=>h F a b (hok (.w a) (by simp)) (hok (.w b) (by simp)) w hF⟩
  ·cases hr
theorem ref1_ok{P:Program}{ext:Bool}{m lo:Nat}{γ0:Pl}{w0:World}{f:FuncId}{op:Nat->SV × List Ob}(hf:ROk ext m lo γ0 w0)(hc:∀ as_ wx,(callFunc f as_).run P wx=.ok (.enter f as_) wx)(hlt:∀ a,(op a).1.ok/\(op a).1.lt 0=true)
  (h:∀ F a,a<2^256->All (op a).2->∀ w,RFld w F m->Calls P f #[.pointer (some ⟨F,0,none⟩),.agg (pw a)] w fun e w'=>e=.returned ((op a).1.val fun _=>0)/\Below w.heap.size w w'):ConOk P 1 γ0 w0 (ref1 ext m lo f op) :=
 conR_ok hf hc fun us r q hr hq hok=>by
  split at hr
  ·rename_i a
   have e:op a=(r,q):=Option.some.inj hr;have g1:=hlt a;have g2:=h;rw[e]at g1;refine⟨g1.1,g1.2,fun γ F w hF=>?_⟩;have g4:=h F a (hok (.w a) (by simp)) (by rw[e];exact hq) w hF;rw[e,<- val0 (γ:=γ) g1.2]at g4;exact g4
  ·cases hr
def rIv(m z:Nat):Nat:=if z*iv m z%m=1 then iv m z else 0
theorem rIv_lt{m:Nat}(h0:0<m)(hm:m<2^256)(z:Nat):rIv m z<2^256:=by
 unfold rIv
 split
 ·exact Nat.lt_trans (Nat.mod_lt _ h0) hm
 ·decide
def refs(ext:Bool)(m lo:Nat):List Con:=[ref2 ext m lo 77 fun a b=>a*b%m,ref2 ext m lo 61 (rA m),ref2 ext m lo 76 (rS m),ref1 ext m lo 80 fun a=>(.tu (.w (rIv m a)) (.b (eqN (a*iv m a%m) 1)),[]),ref1 ext m lo 137 fun a=>(.w (a%m),[])]
theorem refs_ok{ext:Bool}{m lo:Nat}{γ0:Pl}{w0:World}(hf:ROk ext m lo γ0 w0):conAll Tryz.prog 1 γ0 w0 (refs ext m lo):=by
 have hm:∀ n,n%m<2^256:=fun n=>Nat.lt_trans (Nat.mod_lt _ (by have:=hf.big;omega)) hf.lt;have h0:0<m:=by have:=hf.big;omega
 refine⟨ref2_ok hf (fun _ _=>by kernel_rfl) (fun _ _=>hm _) fun F a b ha hb w hF=>rmul_w F m a b ha hb hf.lt hf.big hf.odd w hF,ref2_ok hf (fun _ _=>by kernel_rfl) (fun a b=>rA_lt m a b) fun F a b ha hb w hF=>?_,ref2_ok hf (fun _ _=>by kernel_rfl) (fun a b=>rS_lt m a b) fun F a b ha hb w hF=>?_,
  ref1_ok hf (fun _ _=>by kernel_rfl) (fun a=>⟨⟨rIv_lt h0 hf.lt a,trivial⟩,rfl⟩) fun F a ha _ w hF=>rinv_w F m a ha hf.lt hf.big hf.odd w hF,ref1_ok hf (fun _ _=>by kernel_rfl) (fun a=>⟨hm _,rfl⟩) fun F a ha _ w hF=>?_,trivial⟩
 ·obtain⟨lo',_,_,h⟩:=hF
  exact radd_w F m lo' _ a b ha hb hf.lt w h
 ·obtain⟨lo',_,_,h⟩:=hF
  exact rsub_w F m lo' _ a b ha hb hf.lt w h
 ·obtain⟨lo',_,_,h⟩:=hF
  exact rof_any F m lo' _ a ha h0 hf.lt w h
theorem agg_ptrR{x:SV}{γ:Pl}{F:Nat}{ext:Bool}{m lo:Nat}{M:Rows}{p:List Ob}(hx:isR ext m lo M x=some p)(h:x.val γ=.pointer (some ⟨F,0,none⟩)):(SV.ap x .e).val γ=.agg #[.pointer (some ⟨F,0,none⟩)]:=by
 cases x <;> first | (cases hx;done) | skip
 simpa[SV.val,SV.cells,SV.sc]using h
def conH(ext:Bool)(m lo:Nat)(f:FuncId)(g:List SV->Option (SV × List Ob)):Con:=⟨f,fun _ M l=>match l with
 | .ap x .e::us=>match isR ext m lo M x,g us with
  | some p,some (r,q)=>some (r,q++p,[])
  | _,_=>none
 | _=>none⟩
theorem conH_ok{P:Program}{ext:Bool}{m lo:Nat}{γ0:Pl}{w0:World}{f:FuncId}{g:List SV->Option (SV × List Ob)}(hf:ROk ext m lo γ0 w0)(hc:∀ as_ wx,(callFunc f as_).run P wx=.ok (.enter f as_) wx)
  (h:∀ us r q,g us=some (r,q)->All q->(∀ x∈us,x.ok)->r.ok/\r.lt 0=true/\∀ γ F w,RFld w F m->Calls P f (.agg #[.pointer (some ⟨F,0,none⟩)]::us.map (·.val γ)).toArray w fun e w'=>e=.returned (r.val γ)/\Below w.heap.size w w'):ConOk P 1 γ0 w0 (conH ext m lo f g) :=
 .of hc fun n M l r p R hr hp hok=>by
  unfold conH at hr;dsimp only at hr
  split at hr
  ·rename_i x us
   split at hr
   ·rename_i p' r' q hx hq
    cases hr;obtain⟨g1,g2,g3⟩:=h us r q hq (fun a ha=>hp a (List.mem_append_left _ ha)) fun x hx=>hok x (.tail _ hx);refine⟨rfl,g1,g2,?_⟩;intro γ hγ wx hw hL;obtain⟨F,h1,h2⟩:=isR_at hx (fun a ha=>hp a (List.mem_append_right _ ha)) hf hγ hw hL;have g4:=g3 γ F wx h2;rw[<- agg_ptrR hx h1]at g4;exact g4
   ·cases hr
  ·cases hr
section
variable {α β:Type}
def cH1(ext:Bool)(m lo:Nat)(f:FuncId)(A:Shp α)(op:α->SV):Con:=conH ext m lo f fun l=>match l with
 | [x]=>(A.dec x).map fun a=>(op a,[])
 | _=>none
def cH2(ext:Bool)(m lo:Nat)(f:FuncId)(A:Shp α)(B:Shp β)(op:α->β->SV):Con:=conH ext m lo f fun l=>match l with
 | [x,y]=>match A.dec x,B.dec y with
  | some a,some b=>some (op a b,[])
  | _,_=>none
 | _=>none
theorem cH1_ok{P:Program}{ext:Bool}{m lo:Nat}{γ0:Pl}{w0:World}{f:FuncId}{A:Shp α}{op:α->SV}(hf:ROk ext m lo γ0 w0)(hc:∀ as_ wx,(callFunc f as_).run P wx=.ok (.enter f as_) wx)(hg:∀ a,(A.enc a).ok->(op a).ok/\(op a).lt 0=true)
  (h:∀ F a,(A.enc a).ok->∀ w,RFld w F m->Calls P f #[.agg #[.pointer (some ⟨F,0,none⟩)],(A.enc a).val o0] w fun e w'=>e=.returned ((op a).val o0)/\Below w.heap.size w w'):ConOk P 1 γ0 w0 (cH1 ext m lo f A op) :=
 conH_ok hf hc fun us r q hr hq hok=>by
  split at hr
  ·rename_i x
   obtain⟨a,ha,e⟩:=Option.map_eq_some_iff.1 hr;cases e;have hx:=A.dec_ok _ _ ha;subst hx;have oa:=hok (A.enc a) (by simp);refine⟨(hg a oa).1,(hg a oa).2,fun γ F w hF=>?_⟩;show Calls P f #[.agg #[.pointer (some ⟨F,0,none⟩)],(A.enc a).val γ] w _;rw[val0 (hg a oa).2,val0 (A.lt a)];exact h F a oa w hF
  ·cases hr
theorem cH2_ok{P:Program}{ext:Bool}{m lo:Nat}{γ0:Pl}{w0:World}{f:FuncId}{A:Shp α}{B:Shp β}{op:α->β->SV}(hf:ROk ext m lo γ0 w0)(hc:∀ as_ wx,(callFunc f as_).run P wx=.ok (.enter f as_) wx)(hg:∀ a b,(A.enc a).ok->(B.enc b).ok->(op a b).ok/\(op a b).lt 0=true)
  (h:∀ F a b,(A.enc a).ok->(B.enc b).ok->∀ w,RFld w F m->Calls P f #[.agg #[.pointer (some ⟨F,0,none⟩)],(A.enc a).val o0,(B.enc b).val o0] w fun e w'=>e=.returned ((op a b).val o0)/\Below w.heap.size w w'):ConOk P 1 γ0 w0 (cH2 ext m lo f A B op) :=
 conH_ok hf hc fun us r q hr hq hok=>by
  split at hr
  ·rename_i x y
   split at hr
   ·rename_i a b ha hb
    cases hr;have hx:=A.dec_ok _ _ ha;have hy:=B.dec_ok _ _ hb;subst hx hy;have oa:=hok (A.enc a) (by simp);have ob:=hok (B.enc b) (by simp);have g:=hg a b oa ob;refine⟨g.1,g.2,fun γ F w hF=>?_⟩;show Calls P f #[.agg #[.pointer (some ⟨F,0,none⟩)],(A.enc a).val γ,(B.enc b).val γ] w _;rw[val0 g.2,val0 (A.lt a),val0 (B.lt b)];exact h F a b oa ob w hF
   ·cases hr
  ·cases hr
end
structure Big (m:Nat):Prop where
 odd:m%2=1
 big:1<m
 lt:m<2^256
theorem ROk.of{m:Nat}(hb:Big m){F:Nat}{w:World}(h:RFld w F m):ROk true m 0 (fun _=>F) w:=⟨hb.odd,hb.big,hb.lt,fun _=>h,fun h=>(by cases h)⟩
def Ih1{α:Type}(m:Nat)(f:FuncId)(A:Shp α)(op:α->SV):Prop:=∀ ext lo γ0 w0,ROk ext m lo γ0 w0->ConOk Tryz.prog 1 γ0 w0 (cH1 ext m lo f A op)
def Ih2{α β:Type}(m:Nat)(f:FuncId)(A:Shp α)(B:Shp β)(op:α->β->SV):Prop:=∀ ext lo γ0 w0,ROk ext m lo γ0 w0->ConOk Tryz.prog 1 γ0 w0 (cH2 ext m lo f A B op)
/-! Two numbers. -/
def ra2(m:Nat)(a b:N2):N2:=(rA m a.1 b.1,rA m a.2 b.2)
def rs2(m:Nat)(a b:N2):N2:=(rS m a.1 b.1,rS m a.2 b.2)
def rm2(m:Nat)(a b:N2):N2:=(rS m (a.1*b.1%m) (a.2*b.2%m),rA m (a.1*b.2%m) (a.2*b.1%m))
def ro2(m:Nat)(a:N2):N2:=(a.1%m,a.2%m)
def rc2(m:Nat)(a:N2):N2:=(a.1,rS m 0 a.2)
theorem ra2_ok(m:Nat)(a b:N2):(F2s (ra2 m a b)).ok:=⟨rA_lt _ _ _,rA_lt _ _ _,trivial⟩
theorem rs2_ok(m:Nat)(a b:N2):(F2s (rs2 m a b)).ok:=⟨rS_lt _ _ _,rS_lt _ _ _,trivial⟩
theorem rm2_ok(m:Nat)(a b:N2):(F2s (rm2 m a b)).ok:=⟨rS_lt _ _ _,rA_lt _ _ _,trivial⟩
section
variable {m:Nat} (hb:Big m)
include hb
theorem Tadd_is:Ih2 m 63 sh2 sh2 fun a b=>F2s (ra2 m a b):=fun _ _ _ _ hf=>cH2_ok hf (fun _ _=>by kernel_rfl) (fun _ _ _ _=>⟨ra2_ok _ _ _,rfl⟩) fun F a b oa ob w hF =>
 calls_at (E1_ok (refs_ok (ROk.of hb hF))) (by kernel_rfl) (fun _=>0) Tryz.func63 (by kernel_rfl) [sG,F2s a,F2s b] ⟨⟨⟨trivial,trivial⟩,rfl⟩,⟨oa,rfl⟩,⟨ob,rfl⟩,trivial⟩ (by kernel_rfl) (by kernel_rfl) (.leaf (F2s (ra2 m a b))) (by kernel_rfl) rfl
theorem Tsub_is:Ih2 m 39 sh2 sh2 fun a b=>F2s (rs2 m a b):=fun _ _ _ _ hf=>cH2_ok hf (fun _ _=>by kernel_rfl) (fun _ _ _ _=>⟨rs2_ok _ _ _,rfl⟩) fun F a b oa ob w hF =>
 calls_at (E1_ok (refs_ok (ROk.of hb hF))) (by kernel_rfl) (fun _=>0) Tryz.func39 (by kernel_rfl) [sG,F2s a,F2s b] ⟨⟨⟨trivial,trivial⟩,rfl⟩,⟨oa,rfl⟩,⟨ob,rfl⟩,trivial⟩ (by kernel_rfl) (by kernel_rfl) (.leaf (F2s (rs2 m a b))) (by kernel_rfl) rfl
theorem Tmul_is:Ih2 m 40 sh2 sh2 fun a b=>F2s (rm2 m a b):=fun _ _ _ _ hf=>cH2_ok hf (fun _ _=>by kernel_rfl) (fun _ _ _ _=>⟨rm2_ok _ _ _,rfl⟩) fun F a b oa ob w hF =>
 calls_at (E1_ok (refs_ok (ROk.of hb hF))) (by kernel_rfl) (fun _=>0) Tryz.func40 (by kernel_rfl) [sG,F2s a,F2s b] ⟨⟨⟨trivial,trivial⟩,rfl⟩,⟨oa,rfl⟩,⟨ob,rfl⟩,trivial⟩ (by kernel_rfl) (by kernel_rfl) (.leaf (F2s (rm2 m a b))) (by kernel_rfl) rfl
theorem Tconj_is:Ih1 m 79 sh2 fun a=>F2s (rc2 m a):=fun _ _ _ _ hf=>cH1_ok hf (fun _ _=>by kernel_rfl) (fun _ oa=>⟨⟨oa.1,rS_lt _ _ _,trivial⟩,rfl⟩) fun F a oa w hF =>
 calls_at (E1_ok (refs_ok (ROk.of hb hF))) (by kernel_rfl) (fun _=>0) Tryz.func79 (by kernel_rfl) [sG,F2s a] ⟨⟨⟨trivial,trivial⟩,rfl⟩,⟨oa,rfl⟩,trivial⟩ (by kernel_rfl) (by kernel_rfl) (.leaf (F2s (rc2 m a))) (by kernel_rfl) rfl
end
def ri2(m:Nat)(C:N2->N2)(M:N2->N2->N2)(a:N2):N2 × Bool:=bif eqN ((M a (C a)).1*iv m (M a (C a)).1%m) 1 then (((C a).1*rIv m (M a (C a)).1%m,(C a).2*rIv m (M a (C a)).1%m),true)else (z2,false)
theorem ri2_ok{m:Nat}(hb:Big m)(C:N2->N2)(M:N2->N2->N2)(a:N2):(F2s (ri2 m C M a).1).ok:=by
 have h:=fun n=>Nat.lt_trans (Nat.mod_lt n (Nat.lt_of_lt_of_le (by decide) hb.big)) hb.lt;unfold ri2;cases eqN ((M a (C a)).1*iv m (M a (C a)).1%m) 1
 ·exact F2z_ok
 ·exact⟨h _,h _,trivial⟩
theorem Tinv_is{m:Nat}(hb:Big m){C:N2->N2}{M:N2->N2->N2}(hC:Ih1 m 79 sh2 fun a=>F2s (C a))(hM:Ih2 m 40 sh2 sh2 fun a b=>F2s (M a b)):Ih1 m 45 sh2 fun a=>.tu (F2s (ri2 m C M a).1) (.b (ri2 m C M a).2):=fun _ _ _ _ hf=>cH1_ok hf (fun _ _=>by kernel_rfl) (fun a _=>⟨⟨ri2_ok hb C M a,trivial⟩,rfl⟩) fun F a oa w hF=>by
 refine calls_at (E1_ok (more:=cH1 true m 0 79 sh2 (fun a=>F2s (C a))::cH2 true m 0 40 sh2 sh2 (fun a b=>F2s (M a b))::refs true m 0) ⟨hC _ _ _ _ (ROk.of hb hF),hM _ _ _ _ (ROk.of hb hF),refs_ok (ROk.of hb hF)⟩) (by kernel_rfl) (fun _=>0) Tryz.func45 (by kernel_rfl) [sG,F2s a] ⟨⟨⟨trivial,trivial⟩,rfl⟩,⟨oa,rfl⟩,trivial⟩ (by kernel_rfl) (by kernel_rfl)
  (.br (!(eqN ((M a (C a)).1*iv m (M a (C a)).1%m) 1)) (.leaf (.tu (F2s z2) (.v (.bool false)))) (.leaf (.tu (F2s ((C a).1*rIv m (M a (C a)).1%m,(C a).2*rIv m (M a (C a)).1%m)) (.v (.bool true))))) (by kernel_rfl) ⟨fun h=>?_,fun h=>?_⟩
 ·have h:eqN ((M a (C a)).1*iv m (M a (C a)).1%m) 1=false:=by simpa using h
  unfold ri2;rw[h];rfl
 ·have h:eqN ((M a (C a)).1*iv m (M a (C a)).1%m) 1=true:=by simpa using h
  unfold ri2;rw[h];rfl
end Sy
theorem tnew_any(w:World):Calls Tryz.prog 6 #[] w fun e w'=>∃ F,e=.returned (.agg #[.pointer (some ⟨F,0,none⟩)])/\RFld w' F 21888242871839275222246405745257275088696311157297823662689037894645226208583/\w.heap.size<=F/\Below w.heap.size w w':=by
 have HCR:=Lib.hid (fun wx=>rbase_any wx);have HNW:=Lib.hid (fun wx=>rnew_any 21888242871839275222246405745257275088696311157297823662689037894645226208583 (by omega) (by omega) (by omega) wx);go_enter Tryz.func6,Tryz.ntmps6
 go_wp2_with fail
 refine(HCR.out _).mono ?_;rintro e w5 ⟨rfl,hb⟩;have HB:=Lib.hid hb;clear hb HCR
 go_wp2_with fail
 refine(HNW.out _).mono ?_;rintro e w6 ⟨v,rfl,⟨F,rfl,hs,lo,h1,h2,h3⟩,hb6⟩;have hB:=HB.out.trans (hb6.mono HB.out.size);have HF:=Lib.hid (show RFat w6 F _ lo _ from h3);have HL:=Lib.hid (And.intro h1 h2);have HS:=Lib.hid (Nat.le_trans HB.out.size hs);have hr:=(hB.block w.heap.size (by simp)).trans (heap_alloc_new w _);have HR:=Lib.hid hr;have HB:=Lib.hid hB;clear hs h1 h2 h3 hb6 hB hr HNW
 go_wp2_with (refine wpList_store_row rfl 29 _ _ rfl w.heap.size #[.pointer (some ⟨F,0,none⟩)] rfl rfl 29 _ (by exact HR.out) (by kernel_rfl) (by rfl) (by kernel_rfl) ?_)
 (try simp only[Act.put])
 refine bodyPost_ret (v:=.agg #[.pointer (some ⟨F,0,none⟩)]) (results_cell_row (p:=0) rfl _ _ w.heap.size 29 #[.pointer (some ⟨F,0,none⟩)] (0,0) _ rfl (setRow_heap _ _ _ _ _ _ HR.out) Tryz.underlying29 rfl (by kernel_rfl)) rfl ⟨F,rfl,⟨lo,HL.out.1,HL.out.2,?_⟩,?_,?_⟩
 ·have h:=HS.out
  simp at h;exact(setRow_other _ _ _ _ (by omega)).trans HF.out
 ·have h:=HS.out
  simp at h;omega
 ·exact below_setRow (((Below.refl _ _).alloc (Nat.le_refl _) _).trans (HB.out.mono (by simp))) (Nat.le_refl _) _
namespace Sy
abbrev loB:Nat:=3834012553
theorem bB:Big pB:=⟨by decide,by decide,ltB⟩
theorem rB(w:World):ROk false pB loB o0 w:=⟨by decide,by decide,ltB,fun h=>(by cases h),fun _=>⟨by decide,by kernel_rfl⟩⟩
theorem lo_genB{lo q:Nat}(hq:q=3632069959)(h1:lo<4294967296)(h2:(lo*q+1)%4294967296=0):lo=3834012553:=by
 subst hq;have e:(lo*3632069959+1)*3834012553+lo=4294967296*(3242260268*lo)+3834012553:=by omega
 have hY:lo*3632069959+1=4294967296*((lo*3632069959+1) / 4294967296):=by have:=Nat.div_add_mod (lo*3632069959+1) 4294967296;rw[h2,Nat.add_zero]at this;exact this.symm
 rw[hY,Nat.mul_assoc]at e;generalize (lo*3632069959+1) / 4294967296*3834012553=P at e;generalize 3242260268*lo=Q at e;clear h2 hY;omega
theorem lo_isB{lo:Nat}(h1:lo<4294967296)(h2:(lo*qN pB 0+1)%4294967296=0):lo=loB:=lo_genB (by kernel_rfl) h1 h2
def cTNew:Con:=⟨6,fun n _ l=>match l with
 | []=>some (.ap (.p n 0 0 0) .e,[],[(n,sRF pB loB,109)])
 | _=>none⟩
theorem cTNew_ok{γ0:Pl}{w0:World}:ConOk Tryz.prog 1 γ0 w0 cTNew:=⟨fun _ _=>by kernel_rfl,fun n M l r p R hr hp hn hok _=>by
 simp only[cTNew]at hr
 split at hr
 ·cases hr
  refine⟨⟨trivial,trivial⟩,by show(decide (n<n+1)&&true)=true;simp,fun q hq=>?_,fun γ hγ wx hw hL=>?_⟩
  ·simp only[List.mem_cons,List.not_mem_nil,or_false]at hq
   subst hq;exact⟨⟨trivial,trivial,trivial,trivial,trivial,trivial,trivial,trivial,trivial,trivial,trivial,trivial,trivial,trivial,trivial,trivial,trivial,trivial⟩,rfl,Nat.le_refl _,Nat.lt_succ_self _⟩
  ·refine(tnew_any wx).mono fun e w' ⟨F,h1,⟨lo,l1,l2,h2⟩,h3,h4⟩=>?_
   have hlo:=lo_isB l1 l2;subst hlo;obtain⟨δ,hδ⟩:∃ δ:Pl,∀ k,δ k=if k=n then F else γ k:=⟨_,fun _=>rfl⟩
   refine⟨⟨δ,fun k hk=>by rw[hδ,if_neg (by omega)],?_,fun q hq=>?_,List.pairwise_singleton _ _⟩,h4⟩
   ·rw[h1]
    show _=Ending.returned (.agg #[.pointer (some ⟨δ n,0+0*0,none⟩)]);rw[hδ,if_pos rfl]
   ·simp only[List.mem_cons,List.not_mem_nil,or_false]at hq
    subst hq;refine⟨by rw[hδ,if_pos rfl];exact h3,?_⟩;show w'.heap[δ n]?=_;rw[hδ,if_pos rfl];exact h2
 ·cases hr⟩
end Sy
end Go.Proofs.YtadfjjfklihaaaaGreat
