/- What the reference's field's Sqrt comes to, where the modulus has the rest 3. (Cut to what is reached, written closely: RInv · RShr · RSqrt.) -/
import Derived.Test.YtphafjbajlcbnaaGreatB33
import Derived.Test.YtphafjbajlcbnaaGreatB17
import Derived.Test.YtphafjbajlcbnaaGreatB15
set_option linter.all false
set_option maxRecDepth 100000
set_option maxHeartbeats 8000000
namespace Go.Proofs.YtphafjbajlcbnaaGreat
open Go.RowKit
theorem De{P:Program}{fn:Func}{p u:Tmp}{ty:TypeId}{vb:Value}(h:fn.results=#[.cell p ty,.tmp u])(tmps:Array Value)(w:World)(g:Nat)(t:TypeId)(cs:Array Value)(fr:Nat × Nat)(d:TypeDesc)
  (hp:tmps.getD p undef=.pointer (some ⟨g,0,none⟩)) (hb:tmps.getD u undef=vb) (hg:w.heap[g]?=some (.cells cs t fr))
  (hu:P.underlying ty=some d) (hd:(match d with | .struct _ | .array _ _=>true | _=>false)=true) (hi:(P.info? ty).map (·.size)=some cs.size) :
  (results fn tmps).run P w=.ok (.tuple #[.agg cs,vb]) w:=by
 have hp':tmps[p]?.getD undef=.pointer (some ⟨g,0,none⟩):=by simpa using hp
 have hb':tmps[u]?.getD undef=vb:=by simpa using hb
 simp[results,h,hp',hb',asAddr,run_loadVar_row w g t ty cs fr d hg hu hd hi]
theorem A29(G m a:Nat)(hal:a<2^256)(hm:m<2^256)(h1:1<m)(ho:m%2=1)(w:World)(hF:RFld w G m):Calls Tryz.prog 40 #[(.pointer (some ⟨G,0,none⟩)),.agg (pw a)] w fun r w'=>r=.returned (.tuple #[.agg (pw (if a*(a^(m - 2)%m)%m=1 then a^(m - 2)%m else 0)),.bool (decide (a*(a^(m - 2)%m)%m=1))])/\Below w.heap.size w w':=by
 obtain⟨lo,hll,hlo,hR⟩:=hF;obtain⟨sq,hsq⟩:∃ sq,2^256*2^256%m=sq:=⟨_,rfl⟩
 have HFL:=Lib.hid (show ∀ wx,RFat wx G m lo sq->RFld wx G m from fun wx h=>⟨lo,hll,hlo,by rw[hsq];exact h⟩);rw[hsq]at hR;have H0:=Lib.hid (CRf.one hR a);have HEX:=Lib.hid (fun wx (c:RFat wx G m lo sq)=>Wm G m a (m - 2) hal τ hm h1 ho wx (HFL.out wx c));have HMI:=Lib.hid (fun wx=>EE m 2 hm τ wx);rw[show pw (m+2^256 - 2)=pw (m - 2) from QW τ]at HMI;rw[show(pw 2:Array Value)=#[.int .u64 2,.int .u64 0,.int .u64 0,.int .u64 0] from rfl]at HMI;have hil:a^(m - 2)%m<m:=Nat.mod_lt _ τ;obtain⟨v,hv⟩:∃ v,a^(m - 2)%m=v:=⟨_,rfl⟩
 rw[hv]at HEX hil |-
 have HML:=Lib.hid (fun wx (c:RFat wx G m lo sq)=>PV G m a v hal (Nat.lt_trans hil hm) hm h1 ho wx (HFL.out wx c));obtain⟨u,hu⟩:∃ u,a*v%m=u:=⟨_,rfl⟩
 have HNE:=Lib.hid (fun wx=>J6 u 1 (by rw[<- hu];exact Nat.lt_trans (Nat.mod_lt _ τ) hm) τ wx);rw[hu]at HML |-
 clear hsq hR hal hm h1 ho hll hlo hil hv hu HFL;go_enter Tryz.func40,Tryz.ntmps40
 go_wp2_with fail
 refine Ct [.val 7 ((.pointer (some ⟨G,0,none⟩))),.val 8 ((.agg (pw a))),.val 9 ((.pointer (some ⟨G,0,none⟩))),.val 10 ((.pointer (some ⟨G,0,none⟩))),.val 11 ((.pointer (some ⟨G,0,none⟩))),.val 12 ((.agg (pw m))),.val 13 ((.agg #[.int .u64 2,.int .u64 0,.int .u64 0,.int .u64 0])),.val 14 ((.agg (pw (m - 2)))),.val 15 ((.agg (pw v))),.blk 6 24,.laid 6 24] [6] (fun p=>pw v) (fun i=>i) ω ω (by exact⟨trivial,trivial,trivial,trivial,trivial,trivial,trivial,trivial,trivial,(by simp[Sp.ok]),(by simp[Sp.ok]),trivial⟩) (by intro p hp q hq hne;simp only[List.mem_cons,List.not_mem_nil,or_false]at hp hq;exact absurd (hp.trans hq.symm) hne) ?_ ?_
 ·refine⟨?_,?_,?_,?_,?_,?_,?_,?_,?_,?_,?_,trivial⟩
  ·intro ac wx hC hsz hK
   have h0:ac.tmps.getD 0 undef=(.pointer (some ⟨G,0,none⟩)):=hK.1 0 ω;exact Ap ((.pointer (some ⟨G,0,none⟩))) rfl ω (by rw[<- h0];kernel_rfl) hC ω (by rw[hsz];exact of_decide_eq_true ω) rfl
  ·intro ac wx hC hsz hK
   have h0:ac.tmps.getD 3 undef=(.pointer (some ⟨w.heap.size,0,none⟩)):=hK.1 3 ω;exact Ak 24 (.tmp 3) ((.pointer (some ⟨w.heap.size,0,none⟩))) ((.agg (pw a))) rfl rfl ω h0 (Ad ((H0.out.below hC.1).is _ _ υ)) hC ω (by rw[hsz];exact of_decide_eq_true ω) rfl
  ·intro ac wx hC hsz hK
   have h0:ac.tmps.getD 0 undef=(.pointer (some ⟨G,0,none⟩)):=hK.1 0 ω;exact Ap ((.pointer (some ⟨G,0,none⟩))) rfl ω (by rw[<- h0];kernel_rfl) hC ω (by rw[hsz];exact of_decide_eq_true ω) rfl
  ·intro ac wx hC hsz hK
   have h0:ac.tmps.getD 9 undef=(.pointer (some ⟨G,0,none⟩)):=hK.2 ⟨2,.data⟩ υ rfl _ rfl;exact Ap ((.pointer (some ⟨G,0,none⟩))) rfl ω (Ao (.tmp 9) _ rfl h0) hC ω (by rw[hsz];exact of_decide_eq_true ω) rfl
  ·intro ac wx hC hsz hK
   have h0:ac.tmps.getD 10 undef=(.pointer (some ⟨G,0,none⟩)):=hK.2 ⟨3,.data⟩ υ rfl _ rfl;refine Be (Instr.fieldAt 83 (ac.tmps.getD 10 undef) 0) ((.pointer (some ⟨G,0,none⟩))) rfl ω ω ?_ hC ω (by rw[hsz];exact of_decide_eq_true ω) rfl;rw[h0];exact(Cz G wx).1
  ·intro ac wx hC hsz hK
   have h0:ac.tmps.getD 11 undef=(.pointer (some ⟨G,0,none⟩)):=hK.2 ⟨4,.data⟩ υ rfl _ rfl;exact Ak 24 (.tmp 11) ((.pointer (some ⟨G,0,none⟩))) ((.agg (pw m))) rfl rfl ω h0 (DV (H0.out.below hC.1).fld) hC ω (by rw[hsz];exact of_decide_eq_true ω) rfl
  ·intro ac wx hC hsz hK
   exact Ap ((.agg #[.int .u64 2,.int .u64 0,.int .u64 0,.int .u64 0])) rfl ω ω hC ω (by rw[hsz];exact of_decide_eq_true ω) rfl
  ·intro ac wx hC hsz hK
   have h0:ac.tmps.getD 12 undef=(.agg (pw m)):=hK.2 ⟨5,.data⟩ υ rfl _ rfl;have h1:ac.tmps.getD 13 undef=(.agg #[.int .u64 2,.int .u64 0,.int .u64 0,.int .u64 0]):=hK.2 ⟨6,.data⟩ υ rfl _ rfl;refine Bb 57 #[ac.tmps.getD 12 undef,ac.tmps.getD 13 undef] ((.agg (pw (m - 2)))) rfl ω ω ?_ hC ω (by rw[hsz];exact of_decide_eq_true ω) rfl;rw[h0,h1];exact HMI.out wx
  ·intro ac wx hC hsz hK
   have h0:ac.tmps.getD 7 undef=(.pointer (some ⟨G,0,none⟩)):=hK.2 ⟨0,.data⟩ υ rfl _ rfl;have h1:ac.tmps.getD 8 undef=(.agg (pw a)):=hK.2 ⟨1,.data⟩ υ rfl _ rfl;have h2:ac.tmps.getD 14 undef=(.agg (pw (m - 2))):=hK.2 ⟨7,.data⟩ υ rfl _ rfl;refine Bb 65 #[ac.tmps.getD 7 undef,ac.tmps.getD 8 undef,ac.tmps.getD 14 undef] ((.agg (pw v))) rfl ω ω ?_ hC ω (by rw[hsz];exact of_decide_eq_true ω) rfl;rw[h0,h1,h2];exact HEX.out wx (H0.out.below hC.1).fld
  ·intro ac wx hC hsz hK
   exact Cx 24 (#[.int .u64 0,.int .u64 0,.int .u64 0,.int .u64 0]) rfl ω ω hC (by rw[A7];rfl) (by rw[hsz];exact of_decide_eq_true ω) rfl
  ·intro ac wx hC hsz hK
   have h0:ac.tmps.getD 15 undef=(.agg (pw v)):=hK.2 ⟨8,.data⟩ υ rfl _ rfl;exact Br (p:=6) 24 (.tmp 6) (.tmp 15) _ rfl rfl ω rfl h0 υ (hK.2 ⟨9,.data⟩ υ rfl _ rfl) (fun D cs h3 h4=>BS (h4.trans (A7 _)) h3) hC rfl
 intro f1 w5 hb5 hap hf5;obtain⟨E,s6,hE,r6⟩:=hf5 10 _ rfl;have H2:=Lib.hid (show CRf w G m lo sq [(E,pw v),(w.heap.size+1,#[.int .u64 0,.int .u64 0,.int .u64 0,.int .u64 0]),(w.heap.size,pw a)] w5 from((H0.out.below hb5).cons r6));clear hf5 hap hb5 r6 hE H0 HEX HMI;generalize hAct:Aj _ _ _=A1 at *;have s6':A1.tmps.getD 6 undef=.pointer (some ⟨E,0,none⟩):=s6;have s0:A1.tmps.getD 0 undef=(.pointer (some ⟨G,0,none⟩)):=by subst hAct;kernel_rfl
 have s3:A1.tmps.getD 3 undef=.pointer (some ⟨w.heap.size,0,none⟩):=by subst hAct;kernel_rfl
 have s4:A1.tmps.getD 4 undef=.pointer (some ⟨w.heap.size+1,0,none⟩):=by subst hAct;kernel_rfl
 have s5:A1.tmps.getD 5 undef=.bool false:=by subst hAct;kernel_rfl
 have hsz:A1.tmps.size=24:=by rw[<- hAct,Az];rfl
 have hdf:A1.defers=[]:=by subst hAct;kernel_rfl
 clear hAct s6 f1;obtain⟨u1,t1⟩:∃ u,A1.tmps.getD 1 undef=u:=⟨_,rfl⟩
 obtain⟨u2,t2⟩:∃ u,A1.tmps.getD 2 undef=u:=⟨_,rfl⟩
 obtain⟨u7,t7⟩:∃ u,A1.tmps.getD 7 undef=u:=⟨_,rfl⟩
 obtain⟨u8,t8⟩:∃ u,A1.tmps.getD 8 undef=u:=⟨_,rfl⟩
 obtain⟨u9,t9⟩:∃ u,A1.tmps.getD 9 undef=u:=⟨_,rfl⟩
 obtain⟨u10,t10⟩:∃ u,A1.tmps.getD 10 undef=u:=⟨_,rfl⟩
 obtain⟨u11,t11⟩:∃ u,A1.tmps.getD 11 undef=u:=⟨_,rfl⟩
 obtain⟨u12,t12⟩:∃ u,A1.tmps.getD 12 undef=u:=⟨_,rfl⟩
 obtain⟨u13,t13⟩:∃ u,A1.tmps.getD 13 undef=u:=⟨_,rfl⟩
 obtain⟨u14,t14⟩:∃ u,A1.tmps.getD 14 undef=u:=⟨_,rfl⟩
 obtain⟨u15,t15⟩:∃ u,A1.tmps.getD 15 undef=u:=⟨_,rfl⟩
 obtain⟨u16,t16⟩:∃ u,A1.tmps.getD 16 undef=u:=⟨_,rfl⟩
 obtain⟨u17,t17⟩:∃ u,A1.tmps.getD 17 undef=u:=⟨_,rfl⟩
 obtain⟨u18,t18⟩:∃ u,A1.tmps.getD 18 undef=u:=⟨_,rfl⟩
 obtain⟨u19,t19⟩:∃ u,A1.tmps.getD 19 undef=u:=⟨_,rfl⟩
 obtain⟨u20,t20⟩:∃ u,A1.tmps.getD 20 undef=u:=⟨_,rfl⟩
 obtain⟨u21,t21⟩:∃ u,A1.tmps.getD 21 undef=u:=⟨_,rfl⟩
 obtain⟨u22,t22⟩:∃ u,A1.tmps.getD 22 undef=u:=⟨_,rfl⟩
 obtain⟨u23,t23⟩:∃ u,A1.tmps.getD 23 undef=u:=⟨_,rfl⟩
 obtain⟨tm,df⟩:=A1;simp only at *;have hLt:=Fb tm;rw[hsz]at hLt;simp only[List.range,List.range.loop,List.map]at hLt;rw[s0,t1,t2,s3,s4,s5,s6',t7,t8,t9,t10,t11,t12,t13,t14,t15,t16,t17,t18,t19,t20,t21,t22,t23]at hLt;subst hLt hdf;clear s0 t1 t2 s3 s4 s5 s6' t7 t8 t9 t10 t11 t12 t13 t14 t15 t16 t17 t18 t19 t20 t21 t22 t23 hsz
 go_upto_region 2 with(fail)
 by_cases h1:u=1
 ·rw[show(!decide (u=1))=false from by rw[h1];rfl]at HNE
  refine F3 (CRf w G m lo sq [(E,pw v),(w.heap.size+1,#[.int .u64 0,.int .u64 0,.int .u64 0,.int .u64 0]),(w.heap.size,pw a)]) H2.out ?_
  with_reducible refine q_val (.pointer (some ⟨G,0,none⟩)) ω (fun _ _=>by kernel_rfl) ?_
  with_reducible refine Ac 24 (.tmp 3) (.pointer (some ⟨w.heap.size,0,none⟩)) (.agg (pw a)) rfl ω ω (fun _ c=>Ad (c.is _ _ υ)) ?_
  with_reducible refine Ac 24 (.tmp 6) (.pointer (some ⟨E,0,none⟩)) (.agg (pw v)) rfl ω ω (fun _ c=>Ad (c.is _ _ υ)) ?_
  with_reducible refine Ah 32 #[.pointer (some ⟨G,0,none⟩),.agg (pw a),.agg (pw v)] (.agg (pw u)) ω (fun _=>by kernel_rfl) (CRf.calls HML.out) ?_
  with_reducible refine q_val (.agg (pw 1)) ω (fun _ _=>by kernel_rfl) ?_
  with_reducible refine Ce .neq 24 _ _ 24 (.agg (pw u)) (.agg (pw 1)) (.bool false) rfl ω ω ω (fun _=>by kernel_rfl) (fun w'=>HNE.out w') ?_
  with_reducible refine wpQuiet_nil ?_
  intro wx hC;have HC:=Lib.hid hC;clear hC H2;simp only[Act.put,List.setIfInBounds_toArray,List.set_cons_succ,List.set_cons_zero]
  go_wp2_with (first | (refine Ae rfl 24 _ rfl (.pointer (some ⟨E,0,none⟩)) (.agg (pw v)) rfl (Ad (by exact HC.out.is _ _ υ)) ?_) | (refine wpList_store_row rfl 24 _ _ rfl (w.heap.size+1) (pw v) rfl rfl 24 (#[.int .u64 0,.int .u64 0,.int .u64 0,.int .u64 0]) (by exact HC.out.is _ _ υ) (by rw[A7];exact Ab) (by first | rfl | (rw[A7];rfl) | (rw[A7,A7])) (Ag _) ?_))
  refine bodyPost_ret (v:=.tuple #[.agg (pw v),.bool true]) (De (p:=4) (u:=5) (vb:=.bool true) rfl _ _ (w.heap.size+1) 24 (pw v) (0,0) _ rfl rfl (setRow_heap _ _ _ _ _ _ (HC.out.is (w.heap.size+1) (#[.int .u64 0,.int .u64 0,.int .u64 0,.int .u64 0]) υ)) Tryz.underlying24 rfl (by rw[A7];exact Ab)) rfl ⟨by first | rfl | rw[if_pos h1,decide_eq_true h1],below_setRow HC.out.old τ _⟩
 ·rw[show(!decide (u=1))=true from by simp[h1]]at HNE
  refine F3 (CRf w G m lo sq [(E,pw v),(w.heap.size+1,#[.int .u64 0,.int .u64 0,.int .u64 0,.int .u64 0]),(w.heap.size,pw a)]) H2.out ?_
  with_reducible refine q_val (.pointer (some ⟨G,0,none⟩)) ω (fun _ _=>by kernel_rfl) ?_
  with_reducible refine Ac 24 (.tmp 3) (.pointer (some ⟨w.heap.size,0,none⟩)) (.agg (pw a)) rfl ω ω (fun _ c=>Ad (c.is _ _ υ)) ?_
  with_reducible refine Ac 24 (.tmp 6) (.pointer (some ⟨E,0,none⟩)) (.agg (pw v)) rfl ω ω (fun _ c=>Ad (c.is _ _ υ)) ?_
  with_reducible refine Ah 32 #[.pointer (some ⟨G,0,none⟩),.agg (pw a),.agg (pw v)] (.agg (pw u)) ω (fun _=>by kernel_rfl) (CRf.calls HML.out) ?_
  with_reducible refine q_val (.agg (pw 1)) ω (fun _ _=>by kernel_rfl) ?_
  with_reducible refine Ce .neq 24 _ _ 24 (.agg (pw u)) (.agg (pw 1)) (.bool true) rfl ω ω ω (fun _=>by kernel_rfl) (fun w'=>HNE.out w') ?_
  with_reducible refine wpQuiet_nil ?_
  intro wx hC;have HC:=Lib.hid hC;clear hC H2;simp only[Act.put,List.setIfInBounds_toArray,List.set_cons_succ,List.set_cons_zero]
  go_wp2_with (refine wpList_store_row rfl 24 _ _ rfl (w.heap.size+1) (pw 0) rfl rfl 24 (#[.int .u64 0,.int .u64 0,.int .u64 0,.int .u64 0]) (by exact HC.out.is _ _ υ) (by rw[A7];exact Ab) (by first | rfl | (rw[A7];rfl) | (rw[A7,A7])) (Ag _) ?_)
  refine bodyPost_ret (v:=.tuple #[.agg (pw 0),.bool false]) (De (p:=4) (u:=5) (vb:=.bool false) rfl _ _ (w.heap.size+1) 24 (pw 0) (0,0) _ rfl rfl (setRow_heap _ _ _ _ _ _ (HC.out.is (w.heap.size+1) (#[.int .u64 0,.int .u64 0,.int .u64 0,.int .u64 0]) υ)) Tryz.underlying24 rfl (by rw[A7];exact Ab)) rfl ⟨by first | rfl | rw[if_neg h1,decide_eq_false h1],below_setRow HC.out.old τ _⟩
open Go.RowKit
theorem Tz(x fill:Nat)(sh:Int)(h1:-256<=sh)(h2:sh<=256)(hf:fill<2)(w:World) :
  Calls Tryz.prog 92 #[.agg (pw x),.int .i64 sh,.int .u64 fill] w fun e w'=>e=.returned (.agg (rb4 (Dm x sh fill) 256))/\Below w.heap.size w w':=by
 have HB:=Lib.hid (fun(i:Nat) (hi:i<256) (w:World)=>R8 x i hi w);have HF:=Lib.hid hf;clear hf;go_enter Tryz.func92,Tryz.ntmps92;go_wp2
 go_loopw [8] (fun iv wr=>∃ k:Nat,k<=256/\iv=.int .i64 k/\Hid (wr.heap[w.heap.size]?=some (.cells (pw x) 24 (0,0))/\wr.heap[w.heap.size+1]?=some (.cells (rb4 (Dm x sh fill) 0) 24 (0,0))/\wr.heap[w.heap.size+1+1]?=some (.cells (rb4 (Dm x sh fill) k) 24 (0,0))/\Below w.heap.size w wr)) (fun iv _=>256 - (intOf iv).toNat)
 case atStart=>exact⟨0,τ,rfl,Lib.hid ⟨(Cs _ _ _ _).1,(Cs _ _ _ _).2.1,(Cs _ _ _ _).2.2,by go_grown⟩⟩
 case round =>
  obtain⟨k,hk,rfl,H⟩:=hrel;have hk0:(0:Int)<=k:=by omega
  have hk1:(k:Int)<=256:=by omega
  by_cases hlt:k<256
  ·have hlt':(k:Int)<256:=by omega
   obtain⟨p,hp⟩:∃ p:Nat,(k:Int) / 64=(p:Int):=⟨k / 64,τ⟩
   obtain⟨s,hs⟩:∃ s:Nat,(k:Int)%64=(s:Int):=⟨k%64,τ⟩
   have hp0:(0:Int)<=p:=by omega
   have hp1:(p:Int)<4:=by omega
   have hs0:(0:Int)<=s:=by omega
   have hs1:(s:Int)<64:=by omega
   obtain⟨c,hc⟩:∃ c,Dm x sh fill k=c:=⟨_,rfl⟩
   have hv:=or_bit (bpt (Dm x sh fill) p k) c s (A40 τ τ (fun j _=>LJ _ _ _ _ HF.out)) (by rw[<- hc];exact LJ _ _ _ _ HF.out) τ;have HV:=Lib.hid hv;clear hv;have HSET:Hid ((rb4 (Dm x sh fill) k).setIfInBounds p (.int .u64 ((bpt (Dm x sh fill) p k+c*2^s:Nat):Int))=rb4 (Dm x sh fill) (k+1)):=Lib.hid (by rw[<- hc];exact Yj _ k p s hlt τ τ);obtain⟨kz,hkz⟩:∃ kz:Int,(k:Int)+sh=kz:=⟨_,rfl⟩
   have hz1:-256<=kz:=by omega
   have hz2:kz<=512:=by omega
   by_cases r1:0<=kz
   ·by_cases r2:kz<256
    ·obtain⟨m,rfl⟩:=Int.eq_ofNat_of_zero_le r1
     have hcv:x%2^256 / 2^m%2=c:=by
      rw[<- hc];unfold Dm;rw[if_pos τ];rw[hkz];rfl
     have HB2:=Lib.hid (HB.out m τ);rw[hcv]at HB2;have HCV:=Lib.hid hcv;clear hcv hc;have hi:(Tryz.prog.info? 24).map (·.size)=some 4:=by kernel_rfl
     have HI:=Lib.hid hi;clear hi
     go_wp2_with (refine wpList_load_row rfl 24 _ rfl w.heap.size rfl 24 (pw x) (0,0) _ H.out.1 Tryz.underlying24 rfl HI.out ?_)
     refine(HB2.out _).mono ?_;rintro e w1 ⟨rfl,hb⟩;have hsz:w.heap.size+1+1<wr.heap.size:=(Array.getElem?_eq_some_iff.1 H.out.2.2.1).1;have HX:Hid (w1.heap[w.heap.size]?=some (.cells (pw x) 24 (0,0))/\w1.heap[w.heap.size+1]?=some (.cells (rb4 (Dm x sh fill) 0) 24 (0,0))/\w1.heap[w.heap.size+1+1]?=some (.cells (rb4 (Dm x sh fill) k) 24 (0,0))/\Below w.heap.size w w1):=Lib.hid ⟨(hb.block _ τ).trans H.out.1,(hb.block _ τ).trans H.out.2.1,(hb.block _ hsz).trans H.out.2.2.1,H.out.2.2.2.trans (hb.mono H.out.2.2.2.size)⟩;clear hb hsz;have ca:w1.cell? ⟨w.heap.size+1+1,p,none⟩=some (.int .u64 (bpt (Dm x sh fill) p k:Nat)):=(cell_of_row _ _ p _ _ _ HX.out.2.2.1).trans (Pk _ k p τ);have cf:w1.frozen? ⟨w.heap.size+1+1,p,none⟩=false:=frozen_of_row _ _ p _ _ HX.out.2.2.1;go_wp2
     go_roundw
     case rel =>
      refine⟨k+1,τ,by go_num,Lib.hid ⟨(heap_setCell_other w1 _ _ _ (by simp;omega)).trans HX.out.1,(heap_setCell_other w1 _ _ _ υ).trans HX.out.2.1,?_,HX.out.2.2.2.setCell (by simp;omega) _⟩⟩;rw[HV.out,heap_setCell_same w1 _ _ _ _ _ HX.out.2.2.1,HSET.out]
     case measure=>simp[intOf];omega
    ·have r3:decide (kz<256)=false:=by rw[decide_eq_false_iff_not];omega
     have hcv:fill=c:=by
      rw[<- hc];unfold Dm;rw[if_neg τ]
     subst hcv;clear hc;have HX:=H;have ca:wr.cell? ⟨w.heap.size+1+1,p,none⟩=some (.int .u64 (bpt (Dm x sh fill) p k:Nat)):=(cell_of_row _ _ p _ _ _ HX.out.2.2.1).trans (Pk _ k p τ);have cf:wr.frozen? ⟨w.heap.size+1+1,p,none⟩=false:=frozen_of_row _ _ p _ _ HX.out.2.2.1;go_wp2
     go_roundw
     case rel =>
      refine⟨k+1,τ,by go_num,Lib.hid ⟨(heap_setCell_other wr _ _ _ (by simp;omega)).trans HX.out.1,(heap_setCell_other wr _ _ _ υ).trans HX.out.2.1,?_,HX.out.2.2.2.setCell (by simp;omega) _⟩⟩;rw[HV.out,heap_setCell_same wr _ _ _ _ _ HX.out.2.2.1,HSET.out]
     case measure=>simp[intOf];omega
   ·have r3:decide (0<=kz)=false:=by rw[decide_eq_false_iff_not];omega
    have hcv:fill=c:=by
     rw[<- hc];unfold Dm;rw[if_neg τ]
    subst hcv;clear hc;have HX:=H;have ca:wr.cell? ⟨w.heap.size+1+1,p,none⟩=some (.int .u64 (bpt (Dm x sh fill) p k:Nat)):=(cell_of_row _ _ p _ _ _ HX.out.2.2.1).trans (Pk _ k p τ);have cf:wr.frozen? ⟨w.heap.size+1+1,p,none⟩=false:=frozen_of_row _ _ p _ _ HX.out.2.2.1;go_wp2
    go_roundw
    case rel =>
     refine⟨k+1,τ,by go_num,Lib.hid ⟨(heap_setCell_other wr _ _ _ (by simp;omega)).trans HX.out.1,(heap_setCell_other wr _ _ _ υ).trans HX.out.2.1,?_,HX.out.2.2.2.setCell (by simp;omega) _⟩⟩;rw[HV.out,heap_setCell_same wr _ _ _ _ _ HX.out.2.2.1,HSET.out]
    case measure=>simp[intOf];omega
  ·obtain rfl:k=256:=by omega
   have hi:(Tryz.prog.info? 24).map (·.size)=some 4:=by kernel_rfl
   have HI:=Lib.hid hi;clear hi
   go_wp2_with (first | (refine wpList_load_row rfl 24 _ rfl (w.heap.size+1+1) rfl 24 _ (0,0) _ H.out.2.2.1 Tryz.underlying24 rfl HI.out ?_) | (refine wpList_store_row rfl 24 _ _ rfl (w.heap.size+1) (rb4 (Dm x sh fill) 256) rfl rfl 24 (rb4 (Dm x sh fill) 0) H.out.2.1 HI.out ((Nz _ _).trans (Nz _ _).symm) (Yi _ _) ?_))
   refine bodyPost_ret (v:=.agg (rb4 (Dm x sh fill) 256)) (results_cell_row (p:=6) rfl _ _ (w.heap.size+1) 24 _ (0,0) _ rfl (setRow_heap _ _ _ _ _ _ H.out.2.1) Tryz.underlying24 rfl HI.out) rfl ⟨rfl,below_setRow H.out.2.2.2 τ _⟩
-- WHAT pick COMES TO.
theorem Wo(x fill:Nat)(sh:Int)(h1:-256<=sh)(h2:sh<=256)(hf:fill<2)(w:World) :
  Calls Tryz.prog 92 #[wv x,.int .i64 sh,.int .u64 fill] w fun e w'=>e=.returned (wv (vb (Dm x sh fill) 256))/\Below w.heap.size w w':=by
 have h:=Tz x fill sh h1 h2 hf w;rw[A1q _ (fun j _=>LJ _ _ _ _ hf)]at h;exact h
theorem Wp(a0 a1 a2 a3:Nat)(h1:((a1:Int) != 0)=true)(w:World):Calls Tryz.prog 93 #[.agg #[.int .u64 a0,.int .u64 a1,.int .u64 a2,.int .u64 a3]] w fun e w'=>e=.returned (.int .i64 256)/\Below w.heap.size w w':=by
 go_enter Tryz.func93,Tryz.ntmps93;go_wp2;go_ret;exact⟨rfl,by go_grown⟩
theorem Wq(a0 a2 a3:Nat)(h2:((a2:Int) != 0)=true)(w:World):Calls Tryz.prog 93 #[.agg #[.int .u64 a0,.int .u64 0,.int .u64 a2,.int .u64 a3]] w fun e w'=>e=.returned (.int .i64 256)/\Below w.heap.size w w':=by
 go_enter Tryz.func93,Tryz.ntmps93;go_wp2;go_ret;exact⟨rfl,by go_grown⟩
theorem Ws(a0 a3:Nat)(h3:((a3:Int) != 0)=true)(w:World):Calls Tryz.prog 93 #[.agg #[.int .u64 a0,.int .u64 0,.int .u64 0,.int .u64 a3]] w fun e w'=>e=.returned (.int .i64 256)/\Below w.heap.size w w':=by
 go_enter Tryz.func93,Tryz.ntmps93;go_wp2;go_ret;exact⟨rfl,by go_grown⟩
theorem Wt(a0:Nat)(h0:(256:Int)<a0)(w:World):Calls Tryz.prog 93 #[.agg #[.int .u64 a0,.int .u64 0,.int .u64 0,.int .u64 0]] w fun e w'=>e=.returned (.int .i64 256)/\Below w.heap.size w w':=by
 go_enter Tryz.func93,Tryz.ntmps93;go_wp2;go_ret;exact⟨rfl,by go_grown⟩
theorem A2a(a0:Nat)(h0:(a0:Int)<=256)(w:World):Calls Tryz.prog 93 #[.agg #[.int .u64 a0,.int .u64 0,.int .u64 0,.int .u64 0]] w fun e w'=>e=.returned (.int .i64 a0)/\Below w.heap.size w w':=by
 have h00:(0:Int)<=a0:=by omega
 go_enter Tryz.func93,Tryz.ntmps93;go_wp2;go_ret;exact⟨rfl,by go_grown⟩
-- WHAT Num COMES TO.
theorem Zv(k:Nat)(w:World):Calls Tryz.prog 93 #[wv k] w fun e w'=>e=.returned (.int .i64 ((min (k%2^256) 256:Nat):Int))/\Below w.heap.size w w':=by
 obtain⟨a0,a1,a2,a3,u0,u1,u2,u3,ea,na⟩:=Ai k;rw[ea,<- na];by_cases h1:a1=0
 ·subst h1
  by_cases h2:a2=0
  ·subst h2
   by_cases h3:a3=0
   ·subst h3
    by_cases h0:a0<=256
    ·rw[show min (n4 a0 0 0 0) 256=a0 by unfold n4;omega]
     exact A2a a0 τ w
    ·rw[show min (n4 a0 0 0 0) 256=256 by unfold n4;omega]
     exact Wt a0 τ w
   ·rw[show min (n4 a0 0 0 a3) 256=256 by unfold n4;omega]
    exact Ws a0 a3 (by rw[bne_iff_ne];omega) w
  ·rw[show min (n4 a0 0 a2 a3) 256=256 by unfold n4;omega]
   exact Wq a0 a2 a3 (by rw[bne_iff_ne];omega) w
 ·rw[show min (n4 a0 a1 a2 a3) 256=256 by unfold n4;omega]
  exact Wp a0 a1 a2 a3 (by rw[bne_iff_ne];omega) w
-- WHAT bailiwickref01.Shr COMES TO.
theorem Zw(k x:Nat)(w:World) :
  Calls Tryz.prog 75 #[.agg (pw k),.agg (pw x)] w fun e w'=>e=.returned (wv (x%2^256 / 2^min (k%2^256) 256))/\Below w.heap.size w w':=by
 go_enter Tryz.func75,Tryz.ntmps75
 go_wp2_with fail
 refine FP (CB w k x) (fun i v wx=>match i with | 0=>v=wv x | 1=>v=wv k | 2=>v=.int .i64 ((min (k%2^256) 256:Nat):Int) | 3=>v=wv (x%2^256 / 2^min (k%2^256) 256) | 4=>wx.heap[(w.heap.size+1+1)]?=some (.cells (pw (x%2^256 / 2^min (k%2^256) 256)) 24 (0,0)) | _=>True) (Rs (w.heap.size+1+1) (x%2^256 / 2^min (k%2^256) 256)) ω ω ?_ ?_ ?_ ?_
 ·exact⟨by go_grown,(Cs _ _ _ _).1,(Cs _ _ _ _).2.1,_,rfl,(Cs _ _ _ _).2.2⟩
 ·intro i v wa wb hR h
  match i,h with
  | 0,h=>exact h
  | 1,h=>exact h
  | 2,h=>exact h
  | 3,h=>exact h
  | 4,h=>exact hR.2 h
  | _+5,_=>trivial
 ·refine⟨fun a wx hC hK=>?_,fun a wx hC hK=>?_,fun a wx hC hK=>?_,fun a wx hC hK=>?_,fun a wx hC hK=>?_,trivial⟩
  ·exact Fg 24 (.tmp 3) (.pointer (some ⟨w.heap.size+1,0,none⟩)) (wv x) rfl ω (fun h=>by cases h) (hK.1 3 ω) (Bq hC.2.2.1) hC rfl (Rs.refl _ _ _)
  ·exact Fg 24 (.tmp 2) (.pointer (some ⟨w.heap.size,0,none⟩)) (wv k) rfl ω (fun h=>by cases h) (hK.1 2 ω) (Bq hC.2.1) hC rfl (Rs.refl _ _ _)
  ·have h0:a.tmps.getD 6 undef=wv k:=hK.2 ⟨1,.data⟩ υ rfl _ rfl
   refine CY 93 #[a.tmps.getD 6 undef] ω ⟨_,rfl⟩ ω ?_;rw[h0];exact(Zv k wx).mono fun e w' h=>⟨_,h.1,hC.below h.2,rfl,Rs.of hC.lt h.2⟩
  ·have h0:a.tmps.getD 5 undef=wv x:=hK.2 ⟨0,.data⟩ υ rfl _ rfl
   have h1:(a.tmps.getD 7 undef)=.int .i64 ((min (k%2^256) 256:Nat):Int):=hK.2 ⟨2,.data⟩ υ rfl _ rfl;refine CY 92 #[a.tmps.getD 5 undef,(a.tmps.getD 7 undef),.int .u64 0] ω ⟨_,rfl⟩ ω ?_;rw[h0,h1];have hp:=Wo x 0 ((min (k%2^256) 256:Nat):Int) τ τ τ wx;rw[A1r]at hp;exact hp.mono fun e w' h=>⟨_,h.1,hC.below h.2,rfl,Rs.of hC.lt h.2⟩
  ·have h0:a.tmps.getD 8 undef=wv (x%2^256 / 2^min (k%2^256) 256):=hK.2 ⟨3,.data⟩ υ rfl _ rfl
   obtain⟨-,-,-,cs,hcs,hrow⟩:=id hC;exact Jk ω (run_store 24 (.tmp 4) (.tmp 8) _ _ rfl (hK.1 4 ω) h0 (Ed hcs hrow)) (hC.row _ rfl) (setRow_heap _ _ _ _ _ _ hrow) (Rs.row hrow)
 ·intro f wx hC hf
  have h6:wx.heap[(w.heap.size+1+1)]?=some (.cells (pw (x%2^256 / 2^min (k%2^256) 256)) 24 (0,0)):=hf 4 _ rfl;generalize hA:Aj _ _ _=A;have h4:A.tmps.getD 4 undef=Value.pointer (some ⟨(w.heap.size+1+1),0,none⟩):=by subst hA;kernel_rfl
  have hd:A.defers=[]:=by subst hA;kernel_rfl
  clear hA hf;go_wp2
  (try simp only[Exit.inBlock,Exit.then])
  exact bodyPost_ret (v:=.agg (pw (x%2^256 / 2^min (k%2^256) 256))) (results_cell_row (p:=4) rfl _ _ (w.heap.size+1+1) 24 _ (0,0) _ h4 h6 Tryz.underlying24 rfl Aq) hd ⟨rfl,hC.1⟩
open Go.RowKit
theorem A3x(m:Nat):pN m 0%4=m%4:=by rw[pN0 m];omega
theorem A3y(x b:Nat)(h:x%4=b)(hx:x<18446744073709551616)(w:World):(binOp BinOp.rem 22 (.int .u64 (x:Nat)) (.int .u64 4)).run Tryz.prog w=.ok (.int .u64 (b:Nat)) w:=by
 have hx0:(0:Int)<=x:=by omega
 have e:(x:Int).tmod 4=(b:Int):=by rw[Int.tmod_eq_emod_of_nonneg hx0];omega
 have e2:(x:Int)%4=(b:Int):=by omega
 have e3:IntKind.u64.wrap (b:Int)=(b:Int):=by rw[IntKind.wrap_u64];omega
 go_simp
theorem A2b{w:World}{G m lo sq:Nat}(h:RFat w G m lo sq):(Instr.loadAt 22 (.pointer (some ⟨G,0,none⟩))).run Tryz.prog w=.ok (.int .u64 (pN m 0:Nat)) w:=by
 have c0:=h.cell 0 τ;rw[show rfw m lo sq 0=pN m 0 from A0C m lo sq 0 τ]at c0
 go_simp
theorem TA(G m a:Nat)(h3:m%4=3)(hal:a<m)(hm:m<2^256)(w:World)(hF:RFld w G m):Calls Tryz.prog 48 #[(.pointer (some ⟨G,0,none⟩)),.agg (pw a)] w fun r w'=>r=.returned (.tuple #[.agg (pw (if a^(m / 2^2+1)%m*(a^(m / 2^2+1)%m)%m=a then a^(m / 2^2+1)%m else 0)),.bool (decide (a^(m / 2^2+1)%m*(a^(m / 2^2+1)%m)%m=a))])/\Below w.heap.size w w':=by
 have ho:m%2=1:=by omega
 have h1:1<m:=by omega
 obtain⟨lo,hll,hlo,hR⟩:=hF;obtain⟨sq,hsq⟩:∃ sq,2^256*2^256%m=sq:=⟨_,rfl⟩
 have HFL:=Lib.hid (show ∀ wx,RFat wx G m lo sq->RFld wx G m from fun wx h=>⟨lo,hll,hlo,by rw[hsq];exact h⟩);rw[hsq]at hR;have H0:=Lib.hid (CRf.one hR a);have HR:=Lib.hid (A3y (pN m 0) 3 ((A3x m).trans h3) (Jv m 0));have HSH:=Lib.hid (fun wx=>Zw 2 m wx);rw[Nat.mod_eq_of_lt hm,show min (2%2^256) 256=2 from rfl,BR,show(pw 2:Array Value)=#[.int .u64 2,.int .u64 0,.int .u64 0,.int .u64 0] from rfl]at HSH;have hkl:m / 2^2+1<2^256:=by omega
 have HPL:=Lib.hid (fun wx=>Iq (m / 2^2) 1 τ τ wx);rw[decide_eq_false τ,show(pw 1:Array Value)=#[.int .u64 1,.int .u64 0,.int .u64 0,.int .u64 0] from rfl]at HPL;obtain⟨k0,hk0⟩:∃ k0,m / 2^2=k0:=⟨_,rfl⟩
 rw[hk0]at HSH HPL hkl |-
 obtain⟨k,hk⟩:∃ k,k0+1=k:=⟨_,rfl⟩
 rw[hk]at HPL hkl |-
 have hvl:a^k%m<m:=Nat.mod_lt _ τ;have HEX:=Lib.hid (fun wx (c:RFat wx G m lo sq)=>Wn G m a k hal hkl hm h1 ho wx (HFL.out wx c));obtain⟨v,hv⟩:∃ v,a^k%m=v:=⟨_,rfl⟩
 rw[hv]at HEX hvl |-
 have HML:=Lib.hid (fun wx (c:RFat wx G m lo sq)=>K8 G m v v hvl hvl hm h1 ho wx (HFL.out wx c));obtain⟨u,hu⟩:∃ u,v*v%m=u:=⟨_,rfl⟩
 have HNE:=Lib.hid (fun wx=>J6 u a (by rw[<- hu];exact Nat.lt_trans (Nat.mod_lt _ τ) hm) (Nat.lt_trans hal hm) wx);rw[hu]at HML |-
 clear hsq hR hal hm h1 ho hll hlo h3 hk0 hk hkl hvl hv hu HFL;go_enter Tryz.func48,Tryz.ntmps48
 go_upto_region 1 with(fail)
 refine F3 (CRf w G m lo sq [(w.heap.size+1,#[.int .u64 0,.int .u64 0,.int .u64 0,.int .u64 0]),(w.heap.size,pw a)]) H0.out ?_
 with_reducible refine q_val (.pointer (some ⟨G,0,none⟩)) ω (fun _ _=>by kernel_rfl) ?_
 with_reducible refine q_val (.pointer (some ⟨G,0,none⟩)) ω (fun _ _=>Ao (.tmp 9) _ rfl ω) ?_
 with_reducible refine Am (Instr.fieldAt 83 (.pointer (some ⟨G,0,none⟩)) 0) (.pointer (some ⟨G,0,none⟩)) ω ω (fun w' _=>(Cz G w').1) ?_
 with_reducible refine Am (Instr.indexAt 24 (.pointer (some ⟨G,0,none⟩)) (.int .i64 (0:Nat))) (.pointer (some ⟨G,0,none⟩)) ω ω (fun w' _=>by kernel_rfl) ?_
 with_reducible refine Ac 22 (.tmp 12) (.pointer (some ⟨G,0,none⟩)) (.int .u64 (pN m 0:Nat)) rfl ω ω (fun _ c=>A2b c.fld) ?_
 with_reducible refine Ce .rem 22 (.tmp 13) _ 22 (.int .u64 (pN m 0:Nat)) (.int .u64 4) (.int .u64 (3:Nat)) rfl ω ω ω (fun _=>by kernel_rfl) (fun w'=>HR.out w') ?_
 with_reducible refine Ce .neq 22 (.tmp 14) _ 22 (.int .u64 (3:Nat)) (.int .u64 3) (.bool false) rfl ω ω ω (fun _=>by kernel_rfl) (fun w'=> ω) ?_
 with_reducible refine wpQuiet_nil ?_
 intro wx hC;have HC:=Lib.hid hC;clear hC H0 HR;simp only[Act.put,List.setIfInBounds_toArray,List.set_cons_succ,List.set_cons_zero]
 go_wp2_with (refine Ae rfl 24 _ rfl (.pointer (some ⟨G,0,none⟩)) (.agg (pw m)) rfl (DV (by exact HC.out.fld)) ?_)
 refine(HSH.out _).mono ?_;rintro r w2 ⟨rfl,hb2⟩;have H2:=Lib.hid (HC.out.below hb2);clear hb2 HC HSH
 go_wp2_with fail
 refine(HPL.out _).mono ?_;rintro r w3 ⟨rfl,hb3⟩;have H3:=Lib.hid (H2.out.below hb3);clear hb3 H2 HPL;have HN3:=Lib.hid (heap_alloc_new w3 (.cells (#[.int .u64 0,.int .u64 0,.int .u64 0,.int .u64 0]) 24));have H4:=Lib.hid (H3.out.lay (pw k))
 go_upto_region 4 with(refine wpList_store_row rfl 24 _ _ rfl (w3.heap.size) (pw k) rfl rfl 24 (#[.int .u64 0,.int .u64 0,.int .u64 0,.int .u64 0]) (by exact HN3.out) (by rw[A7];exact Ab) (by first | rfl | (rw[A7];rfl) | (rw[A7,A7])) (Ag _) ?_)
 obtain⟨w4,hw4⟩:∃ w4,(w3.alloc (.cells (#[.int .u64 0,.int .u64 0,.int .u64 0,.int .u64 0]) 24)).setRow w3.heap.size (pw k)=w4:=⟨_,rfl⟩
 rw[hw4]at H4 |-
 obtain⟨K,hK⟩:∃ K,w3.heap.size=K:=⟨_,rfl⟩
 rw[hK]at H4 |-
 clear hw4 hK HN3 H3
 go_wp2_with (first | (refine Ae rfl 24 _ rfl (.pointer (some ⟨w.heap.size,0,none⟩)) (.agg (pw a)) rfl (Ad (by exact H4.out.is _ _ υ)) ?_) | (refine Ae rfl 24 _ rfl (.pointer (some ⟨K,0,none⟩)) (.agg (pw k)) rfl (Ad (by exact H4.out.is _ _ υ)) ?_))
 refine(CRf.calls HEX.out _ H4.out).mono ?_;rintro r w5 ⟨rfl,c5⟩;have H5:=Lib.hid (c5.lay (pw v));clear c5 H4 HEX;have HN5:=Lib.hid (heap_alloc_new w5 (.cells (#[.int .u64 0,.int .u64 0,.int .u64 0,.int .u64 0]) 24))
 go_upto_region 5 with(refine wpList_store_row rfl 24 _ _ rfl (w5.heap.size) (pw v) rfl rfl 24 (#[.int .u64 0,.int .u64 0,.int .u64 0,.int .u64 0]) (by exact HN5.out) (by rw[A7];exact Ab) (by first | rfl | (rw[A7];rfl) | (rw[A7,A7])) (Ag _) ?_)
 obtain⟨w6,hw6⟩:∃ w6,(w5.alloc (.cells (#[.int .u64 0,.int .u64 0,.int .u64 0,.int .u64 0]) 24)).setRow w5.heap.size (pw v)=w6:=⟨_,rfl⟩
 rw[hw6]at H5 |-
 obtain⟨E,hE⟩:∃ E,w5.heap.size=E:=⟨_,rfl⟩
 rw[hE]at H5 |-
 clear hw6 hE HN5;by_cases h1:u=a
 ·rw[show(!decide (u=a))=false from by rw[h1];simp]at HNE
  refine wp_region_quiet (C:=CRf w G m lo sq [(E,pw v),(K,pw k),(w.heap.size+1,#[.int .u64 0,.int .u64 0,.int .u64 0,.int .u64 0]),(w.heap.size,pw a)]) ω ω (H5.out.drew) ?_;simp only
  with_reducible refine q_val (.pointer (some ⟨G,0,none⟩)) ω (fun _ _=>by kernel_rfl) ?_
  with_reducible refine Ac 24 (.tmp 8) (.pointer (some ⟨E,0,none⟩)) (.agg (pw v)) rfl ω ω (fun _ c=>Ad (c.is _ _ υ)) ?_
  with_reducible refine Ac 24 (.tmp 8) (.pointer (some ⟨E,0,none⟩)) (.agg (pw v)) rfl ω ω (fun _ c=>Ad (c.is _ _ υ)) ?_
  with_reducible refine Ah 32 #[.pointer (some ⟨G,0,none⟩),.agg (pw v),.agg (pw v)] (.agg (pw u)) ω (fun _=>by kernel_rfl) (CRf.calls HML.out) ?_
  with_reducible refine Ac 24 (.tmp 3) (.pointer (some ⟨w.heap.size,0,none⟩)) (.agg (pw a)) rfl ω ω (fun _ c=>Ad (c.is _ _ υ)) ?_
  with_reducible refine Ce .neq 24 _ _ 24 (.agg (pw u)) (.agg (pw a)) (.bool false) rfl ω ω ω (fun _=>by kernel_rfl) (fun w'=>HNE.out w') ?_
  with_reducible refine wpQuiet_nil ?_
  intro wx hC;have HC:=Lib.hid hC;clear hC H5;simp only[Act.put,List.setIfInBounds_toArray,List.set_cons_succ,List.set_cons_zero]
  go_wp2_with (first | (refine Ae rfl 24 _ rfl (.pointer (some ⟨E,0,none⟩)) (.agg (pw v)) rfl (Ad (by exact HC.out.is _ _ υ)) ?_) | (refine wpList_store_row rfl 24 _ _ rfl (w.heap.size+1) (pw v) rfl rfl 24 (#[.int .u64 0,.int .u64 0,.int .u64 0,.int .u64 0]) (by exact HC.out.is _ _ υ) (by rw[A7];exact Ab) (by first | rfl | (rw[A7];rfl) | (rw[A7,A7])) (Ag _) ?_))
  refine bodyPost_ret (v:=.tuple #[.agg (pw v),.bool true]) (De (p:=4) (u:=5) (vb:=.bool true) rfl _ _ (w.heap.size+1) 24 (pw v) (0,0) _ rfl rfl (setRow_heap _ _ _ _ _ _ (HC.out.is (w.heap.size+1) (#[.int .u64 0,.int .u64 0,.int .u64 0,.int .u64 0]) υ)) Tryz.underlying24 rfl (by rw[A7];exact Ab)) rfl ⟨by first | rfl | rw[if_pos h1,decide_eq_true h1],below_setRow HC.out.old τ _⟩
 ·rw[show(!decide (u=a))=true from by simp[h1]]at HNE
  refine wp_region_quiet (C:=CRf w G m lo sq [(E,pw v),(K,pw k),(w.heap.size+1,#[.int .u64 0,.int .u64 0,.int .u64 0,.int .u64 0]),(w.heap.size,pw a)]) ω ω (H5.out.drew) ?_;simp only
  with_reducible refine q_val (.pointer (some ⟨G,0,none⟩)) ω (fun _ _=>by kernel_rfl) ?_
  with_reducible refine Ac 24 (.tmp 8) (.pointer (some ⟨E,0,none⟩)) (.agg (pw v)) rfl ω ω (fun _ c=>Ad (c.is _ _ υ)) ?_
  with_reducible refine Ac 24 (.tmp 8) (.pointer (some ⟨E,0,none⟩)) (.agg (pw v)) rfl ω ω (fun _ c=>Ad (c.is _ _ υ)) ?_
  with_reducible refine Ah 32 #[.pointer (some ⟨G,0,none⟩),.agg (pw v),.agg (pw v)] (.agg (pw u)) ω (fun _=>by kernel_rfl) (CRf.calls HML.out) ?_
  with_reducible refine Ac 24 (.tmp 3) (.pointer (some ⟨w.heap.size,0,none⟩)) (.agg (pw a)) rfl ω ω (fun _ c=>Ad (c.is _ _ υ)) ?_
  with_reducible refine Ce .neq 24 _ _ 24 (.agg (pw u)) (.agg (pw a)) (.bool true) rfl ω ω ω (fun _=>by kernel_rfl) (fun w'=>HNE.out w') ?_
  with_reducible refine wpQuiet_nil ?_
  intro wx hC;have HC:=Lib.hid hC;clear hC H5;simp only[Act.put,List.setIfInBounds_toArray,List.set_cons_succ,List.set_cons_zero]
  go_wp2_with (refine wpList_store_row rfl 24 _ _ rfl (w.heap.size+1) (pw 0) rfl rfl 24 (#[.int .u64 0,.int .u64 0,.int .u64 0,.int .u64 0]) (by exact HC.out.is _ _ υ) (by rw[A7];exact Ab) (by first | rfl | (rw[A7];rfl) | (rw[A7,A7])) (Ag _) ?_)
  refine bodyPost_ret (v:=.tuple #[.agg (pw 0),.bool false]) (De (p:=4) (u:=5) (vb:=.bool false) rfl _ _ (w.heap.size+1) 24 (pw 0) (0,0) _ rfl rfl (setRow_heap _ _ _ _ _ _ (HC.out.is (w.heap.size+1) (#[.int .u64 0,.int .u64 0,.int .u64 0,.int .u64 0]) υ)) Tryz.underlying24 rfl (by rw[A7];exact Ab)) rfl ⟨by first | rfl | rw[if_neg h1,decide_eq_false h1],below_setRow HC.out.old τ _⟩
end Go.Proofs.YtphafjbajlcbnaaGreat
