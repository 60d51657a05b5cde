/- The law CurveOrders: so many times a point as the order says is none; numbers of times are added modulo the order. (Cut to what is reached, written closely: RAm · SyOr.) -/
import Derived.Test.YtphafjbajlcbnaaB15
import Derived.Test.YtphafjbajlcbnaaB43
import Derived.Test.YtphafjbajlcbnaaB16
set_option linter.all false
set_option maxRecDepth 100000
set_option maxHeartbeats 8000000
namespace Go.Proofs.Ytphafjbajlcbnaa
open Go.RowKit
theorem addmodr_in(x y z:Nat)(hz:¬z%2^256=0)(w:World):Calls Try.prog 10 #[.agg (pw x),.agg (pw y),.agg (pw z)] w fun e w'=>e=.returned (.agg (pw (((x%2^256)+(y%2^256))%(z%2^256))))/\Below w.heap.size w w':=by
 have hzf:=eqz_run z false (decide_eq_false hz);have hzg:=eqz_guard z;have HY:=Lib.hid (Nat.pos_of_ne_zero hz);clear hz;have hC0:CT w x y z ((((w.alloc (.cells (pw x) 24)).alloc (.cells (pw y) 24)).alloc (.cells (pw z) 24)).alloc (.cells #[.int .u64 0,.int .u64 0,.int .u64 0,.int .u64 0] 24)):=⟨by go_grown,(heap4 _ _ _ _ _).1,(heap4 _ _ _ _ _).2.1,(heap4 _ _ _ _ _).2.2.1,(heap4 _ _ _ _ _).2.2.2⟩
 have HC0:=Lib.hid hC0;clear hC0;go_enter Try.func10,Try.ntmps10
 go_wp2_with (refine wpList_load_row rfl 24 _ rfl (w.heap.size+1+1) rfl 24 (pw z) (0,0) _ HC0.out.r2 Try.underlying24 rfl infoWord ?_)
 refine region_tie (CT w x y z) (fun i s wx=>match i with | 0=>s 14=wv x | 1=>DS 16 (x%2^256) (s 15) wx | 2=>s 16=wv y | 3=>DS 16 (y%2^256) (s 17) wx | 4=>DS (max 16 16+1) ((x%2^256)+(y%2^256)) (s 18) wx | 5=>s 19=wv z | 6=>DS 16 (z%2^256) (s 20) wx | 7=>DQ (max 16 16+1) 16 ((x%2^256)+(y%2^256)) (z%2^256) (s 21) wx | 8=>DQ (max 16 16+1) 16 ((x%2^256)+(y%2^256)) (z%2^256) (s 13) wx | 9=>DS (max 16 16+1) (((x%2^256)+(y%2^256)) / (z%2^256)) (s 22) wx | 10=>DR 16 (((x%2^256)+(y%2^256))%(z%2^256)) (s 23) wx | 11=>DS (max 16 16+1) (((x%2^256)+(y%2^256)) / (z%2^256)) (s 7) wx | 12=>DR 16 (((x%2^256)+(y%2^256))%(z%2^256)) (s 8) wx | _=>True) RN (fun i=>match i with | 0=>[14] | 1=>[15] | 2=>[16] | 3=>[17] | 4=>[18] | 5=>[19] | 6=>[20] | 7=>[21] | 8=>[13] | 9=>[22] | 10=>[23] | 11=>[7] | 12=>[8] | _=>[]) (fun i=>i) (by kernel_rfl) (by kernel_rfl) (⟨HC0.out.old.drew,HC0.out.r0,HC0.out.r1,HC0.out.r2,HC0.out.r3⟩) ?_ ?_ ?_ ?_
 ·intro i s s' wx he hp
  match i,he,hp with
  | 0,he,hp=>have h:=he 14 (by simp);(first | exact h ▸ hp | (rw[h]at hp;exact hp))
  | 1,he,hp=>have h:=he 15 (by simp);(first | exact h ▸ hp | (rw[h]at hp;exact hp))
  | 2,he,hp=>have h:=he 16 (by simp);(first | exact h ▸ hp | (rw[h]at hp;exact hp))
  | 3,he,hp=>have h:=he 17 (by simp);(first | exact h ▸ hp | (rw[h]at hp;exact hp))
  | 4,he,hp=>have h:=he 18 (by simp);(first | exact h ▸ hp | (rw[h]at hp;exact hp))
  | 5,he,hp=>have h:=he 19 (by simp);(first | exact h ▸ hp | (rw[h]at hp;exact hp))
  | 6,he,hp=>have h:=he 20 (by simp);(first | exact h ▸ hp | (rw[h]at hp;exact hp))
  | 7,he,hp=>have h:=he 21 (by simp);(first | exact h ▸ hp | (rw[h]at hp;exact hp))
  | 8,he,hp=>have h:=he 13 (by simp);(first | exact h ▸ hp | (rw[h]at hp;exact hp))
  | 9,he,hp=>have h:=he 22 (by simp);(first | exact h ▸ hp | (rw[h]at hp;exact hp))
  | 10,he,hp=>have h:=he 23 (by simp);(first | exact h ▸ hp | (rw[h]at hp;exact hp))
  | 11,he,hp=>have h:=he 7 (by simp);(first | exact h ▸ hp | (rw[h]at hp;exact hp))
  | 12,he,hp=>have h:=he 8 (by simp);(first | exact h ▸ hp | (rw[h]at hp;exact hp))
  | _+13,_,_=>trivial
 ·intro i s wa wb hR hp
  match i,hp with
  | 0,hp=>exact hp
  | 1,hp=>exact hp.keep hR
  | 2,hp=>exact hp
  | 3,hp=>exact hp.keep hR
  | 4,hp=>exact hp.keep hR
  | 5,hp=>exact hp
  | 6,hp=>exact hp.keep hR
  | 7,hp=>exact hp.keep hR
  | 8,hp=>exact hp.keep hR
  | 9,hp=>exact hp.keep hR
  | 10,hp=>exact hp.keep hR
  | 11,hp=>exact hp.keep hR
  | 12,hp=>exact hp.keep hR
  | _+13,_=>trivial
 ·refine⟨?_,?_,?_,?_,?_,?_,?_,?_,?_,?_,?_,?_,?_,trivial⟩
  ·intro a wx hC hsz hK
   have h0:a.tmps.getD 3 undef=.pointer (some ⟨w.heap.size,0,none⟩):=hK.1 3 (by kernel_rfl);exact tt_load 24 (.tmp 3) (.pointer (some ⟨w.heap.size,0,none⟩)) (wv x) rfl (by kernel_rfl) h0 (load_pw hC.r0) hC (slots_put _ _ _ (by rw[hsz];exact of_decide_eq_true (by kernel_rfl))) (RN.refl _)
  ·intro a wx hC hsz hK
   have h0:=hK.2 ⟨0,.data⟩ (by simp) rfl _ rfl;refine tt_call 24 #[a.tmps.getD 14 undef] (by kernel_rfl) (by kernel_rfl) ?_;rw[show a.tmps.getD 14 undef=_ from h0];refine Calls.mono (digits_ds x wx) ?_;rintro e w' ⟨v,rfl,hb,hv⟩;exact⟨v,rfl,hC.below hb,by rw[slots_put _ _ _ (by rw[hsz];exact of_decide_eq_true (by kernel_rfl))];exact hv,RN.of hb⟩
  ·intro a wx hC hsz hK
   have h0:a.tmps.getD 4 undef=.pointer (some ⟨w.heap.size+1,0,none⟩):=hK.1 4 (by kernel_rfl);exact tt_load 24 (.tmp 4) (.pointer (some ⟨w.heap.size+1,0,none⟩)) (wv y) rfl (by kernel_rfl) h0 (load_pw hC.r1) hC (slots_put _ _ _ (by rw[hsz];exact of_decide_eq_true (by kernel_rfl))) (RN.refl _)
  ·intro a wx hC hsz hK
   have h0:=hK.2 ⟨2,.data⟩ (by simp) rfl _ rfl;refine tt_call 24 #[a.tmps.getD 16 undef] (by kernel_rfl) (by kernel_rfl) ?_;rw[show a.tmps.getD 16 undef=_ from h0];refine Calls.mono (digits_ds y wx) ?_;rintro e w' ⟨v,rfl,hb,hv⟩;exact⟨v,rfl,hC.below hb,by rw[slots_put _ _ _ (by rw[hsz];exact of_decide_eq_true (by kernel_rfl))];exact hv,RN.of hb⟩
  ·intro a wx hC hsz hK
   have h0:=hK.2 ⟨1,.data⟩ (by simp) rfl _ rfl;have h1:=hK.2 ⟨3,.data⟩ (by simp) rfl _ rfl;refine tt_call 23 #[a.tmps.getD 15 undef,a.tmps.getD 17 undef] (by kernel_rfl) (by kernel_rfl) ?_;refine Calls.mono (sum_ds (by omega) (by omega) h0 h1) ?_;rintro e w' ⟨v,rfl,hb,hv⟩;exact⟨v,rfl,hC.below hb,by rw[slots_put _ _ _ (by rw[hsz];exact of_decide_eq_true (by kernel_rfl))];exact hv,RN.of hb⟩
  ·intro a wx hC hsz hK
   have h0:a.tmps.getD 5 undef=.pointer (some ⟨w.heap.size+1+1,0,none⟩):=hK.1 5 (by kernel_rfl);exact tt_load 24 (.tmp 5) (.pointer (some ⟨w.heap.size+1+1,0,none⟩)) (wv z) rfl (by kernel_rfl) h0 (load_pw hC.r2) hC (slots_put _ _ _ (by rw[hsz];exact of_decide_eq_true (by kernel_rfl))) (RN.refl _)
  ·intro a wx hC hsz hK
   have h0:=hK.2 ⟨5,.data⟩ (by simp) rfl _ rfl;refine tt_call 24 #[a.tmps.getD 19 undef] (by kernel_rfl) (by kernel_rfl) ?_;rw[show a.tmps.getD 19 undef=_ from h0];refine Calls.mono (digits_ds z wx) ?_;rintro e w' ⟨v,rfl,hb,hv⟩;exact⟨v,rfl,hC.below hb,by rw[slots_put _ _ _ (by rw[hsz];exact of_decide_eq_true (by kernel_rfl))];exact hv,RN.of hb⟩
  ·intro a wx hC hsz hK
   have h0:=hK.2 ⟨4,.data⟩ (by simp) rfl _ rfl;have h1:=hK.2 ⟨6,.data⟩ (by simp) rfl _ rfl;refine tt_call 22 #[a.tmps.getD 18 undef,a.tmps.getD 20 undef] (by kernel_rfl) (by kernel_rfl) ?_;refine Calls.mono (divide_ds (by omega) (by omega) HY.out h0 h1) ?_;rintro e w' ⟨v,rfl,hb,hv⟩;exact⟨v,rfl,hC.below hb,by rw[slots_put _ _ _ (by rw[hsz];exact of_decide_eq_true (by kernel_rfl))];exact hv,RN.of hb⟩
  ·intro a wx hC hsz hK
   have h0:=hK.2 ⟨7,.data⟩ (by simp) rfl _ rfl;exact tt_val (a.tmps.getD 21 undef) (by kernel_rfl) (by kernel_rfl) hC (by rw[slots_put _ _ _ (by rw[hsz];exact of_decide_eq_true (by kernel_rfl))];exact h0) (RN.refl _)
  ·intro a wx hC hsz hK
   have h0:=hK.2 ⟨8,.data⟩ (by simp) rfl _ rfl;obtain⟨qv,rv,ev,hq,hr⟩:=h0;have ev':a.tmps.getD 13 undef=.tuple #[qv,rv]:=ev;refine tt_v (Instr.extract (a.tmps.getD 13 undef) 0) qv (by kernel_rfl) rfl ?_ hC (by rw[slots_put _ _ _ (by rw[hsz];exact of_decide_eq_true (by kernel_rfl))];exact hq) (RN.refl _);rw[ev'];kernel_rfl
  ·intro a wx hC hsz hK
   have h0:=hK.2 ⟨8,.data⟩ (by simp) rfl _ rfl;obtain⟨qv,rv,ev,hq,hr⟩:=h0;have ev':a.tmps.getD 13 undef=.tuple #[qv,rv]:=ev;refine tt_v (Instr.extract (a.tmps.getD 13 undef) 1) rv (by kernel_rfl) rfl ?_ hC (by rw[slots_put _ _ _ (by rw[hsz];exact of_decide_eq_true (by kernel_rfl))];exact hr) (RN.refl _);rw[ev'];kernel_rfl
  ·intro a wx hC hsz hK
   have h0:=hK.2 ⟨9,.data⟩ (by simp) rfl _ rfl;exact tt_val (a.tmps.getD 22 undef) (by kernel_rfl) (by kernel_rfl) hC (by rw[slots_put _ _ _ (by rw[hsz];exact of_decide_eq_true (by kernel_rfl))];exact h0) (RN.refl _)
  ·intro a wx hC hsz hK
   have h0:=hK.2 ⟨10,.data⟩ (by simp) rfl _ rfl;exact tt_val (a.tmps.getD 23 undef) (by kernel_rfl) (by kernel_rfl) hC (by rw[slots_put _ _ _ (by rw[hsz];exact of_decide_eq_true (by kernel_rfl))];exact h0) (RN.refl _)
 ·intro f wx hC hf
  have s14:=hf 0 _ rfl;obtain⟨b15,c15,d15,s15,g15,l15,v15⟩:=hf 1 _ rfl;have s16:=hf 2 _ rfl;obtain⟨b17,c17,d17,s17,g17,l17,v17⟩:=hf 3 _ rfl;obtain⟨b18,c18,d18,s18,g18,l18,v18⟩:=hf 4 _ rfl;have s19:=hf 5 _ rfl;obtain⟨b20,c20,d20,s20,g20,l20,v20⟩:=hf 6 _ rfl;obtain⟨q21,r21,s21,-,-⟩:=hf 7 _ rfl;obtain⟨q13,r13,s13,-,-⟩:=hf 8 _ rfl;obtain⟨b22,c22,d22,s22,g22,l22,v22⟩:=hf 9 _ rfl;obtain⟨n23,m23,b23,c23,d23,s23,g23,l23,v23⟩:=hf 10 _ rfl;obtain⟨b7,c7,d7,s7,g7,l7,v7⟩:=hf 11 _ rfl;obtain⟨n8,m8,b8,c8,d8,s8,g8,l8,v8⟩:=hf 12 _ rfl;clear hf;generalize hA:putAll _ _ _=A at *;have hsz:A.tmps.size=26:=by rw[<- hA,putAll_size];rfl
  have t0:A.tmps.getD 0 undef=.agg (pw x):=by subst hA;kernel_rfl
  have t1:A.tmps.getD 1 undef=.agg (pw y):=by subst hA;kernel_rfl
  have t2:A.tmps.getD 2 undef=.agg (pw z):=by subst hA;kernel_rfl
  have t3:A.tmps.getD 3 undef=.pointer (some ⟨w.heap.size,0,none⟩):=by subst hA;kernel_rfl
  have t4:A.tmps.getD 4 undef=.pointer (some ⟨w.heap.size+1,0,none⟩):=by subst hA;kernel_rfl
  have t5:A.tmps.getD 5 undef=.pointer (some ⟨w.heap.size+1+1,0,none⟩):=by subst hA;kernel_rfl
  have t6:A.tmps.getD 6 undef=.pointer (some ⟨w.heap.size+1+1+1,0,none⟩):=by subst hA;kernel_rfl
  have t9:A.tmps.getD 9 undef=.agg (pw z):=by subst hA;kernel_rfl
  have t10:A.tmps.getD 10 undef=.agg #[.int .u64 0,.int .u64 0,.int .u64 0,.int .u64 0]:=by subst hA;kernel_rfl
  have t11:A.tmps.getD 11 undef=.bool false:=by subst hA;kernel_rfl
  have t12:A.tmps.getD 12 undef=undef:=by subst hA;kernel_rfl
  have t24:A.tmps.getD 24 undef=undef:=by subst hA;kernel_rfl
  have t25:A.tmps.getD 25 undef=undef:=by subst hA;kernel_rfl
  have hd:A.defers=[]:=by subst hA;kernel_rfl
  clear hA;obtain⟨tm,df⟩:=A;simp only[slots]at *;have hL:=arr_lit tm;rw[hsz]at hL;simp only[List.range,List.range.loop,List.map]at hL;rw[t0,t1,t2,t3,t4,t5,t6,s7,s8,t9,t10,t11,t12,s13,s14,s15,s16,s17,s18,s19,s20,s21,s22,s23,t24,t25]at hL;subst hL hd;clear t0 t1 t2 t3 t4 t5 t6 s7 s8 t9 t10 t11 t12 s13 s14 s15 s16 s17 s18 s19 s20 s21 s22 s23 t24 t25 hsz;have HC:=Lib.hid hC;clear hC
  go_wp2_with fail
  refine(word_any b8 c8 n8 d8 (by omega) l8 wx g8).mono ?_;rintro e w1 ⟨rfl,hb1⟩;rw[v8];have HC1:=Lib.hid (HC.out.below hb1);clear hb1
  go_wp2_with (refine wpList_store_row rfl 24 _ _ rfl (w.heap.size+1+1+1) (pw (((x%2^256)+(y%2^256))%(z%2^256))) rfl rfl 24 #[.int .u64 0,.int .u64 0,.int .u64 0,.int .u64 0] HC1.out.r3 infoWord rfl (pw_one _) ?_)
  (try simp only[Exit.inBlock,Exit.then])
  exact bodyPost_ret (v:=.agg (pw (((x%2^256)+(y%2^256))%(z%2^256)))) (results_cell_row (p:=6) rfl _ _ (w.heap.size+1+1+1) 24 _ (0,0) _ rfl (setRow_heap _ _ _ _ _ _ HC1.out.r3) Try.underlying24 rfl infoWord) rfl ⟨rfl,below_setRow HC1.out.old (by omega) _⟩
theorem addmodr_nought(x y:Nat)(w:World):Calls Try.prog 10 #[.agg (pw x),.agg (pw y),.agg #[.int .u64 0,.int .u64 0,.int .u64 0,.int .u64 0]] w fun e w'=>e=.returned (.agg #[.int .u64 0,.int .u64 0,.int .u64 0,.int .u64 0])/\Below w.heap.size w w':=by
 have hzf:∀ w,(binOp BinOp.eql 24 (.agg #[.int .u64 0,.int .u64 0,.int .u64 0,.int .u64 0]) (.agg #[.int .u64 0,.int .u64 0,.int .u64 0,.int .u64 0])).run Try.prog w=.ok (.bool true) w:=fun w=>eqz_run 0 true rfl w;have hzg:∀(o1 o2:Operand) w,(eqGuard BinOp.eql 24 o1 o2 (.agg #[.int .u64 0,.int .u64 0,.int .u64 0,.int .u64 0]) (.agg #[.int .u64 0,.int .u64 0,.int .u64 0,.int .u64 0])).run Try.prog w=.ok () w:=fun o1 o2 w=>eqz_guard 0 o1 o2 w;go_enter Try.func10,Try.ntmps10;go_wp2;refine bodyPost_ret (v:=.agg #[.int .u64 0,.int .u64 0,.int .u64 0,.int .u64 0]) (by simp[results,Try.results10,go_sem];try rfl) rfl ⟨rfl,by go_grown⟩
-- WHAT bailiwickref01.AddMod COMES TO.
theorem addmod_ref(x y z:Nat)(w:World):Calls Try.prog 10 #[wv x,wv y,wv z] w fun e w'=>e=.returned (wv (remV ((x%2^256)+(y%2^256)) z))/\Below w.heap.size w w':=by
 unfold remV;rw[wv_pw x,wv_pw y,wv_pw z];by_cases h:z%2^256=0
 ·rw[if_pos h,pw_nought h]
  exact addmodr_nought x y w
 ·rw[if_neg h]
  exact addmodr_in x y z h w
open Go.RowKit
open Sy
theorem order_any(w:World):Calls Try.prog 7 #[] w fun r w'=>r=.returned (.agg (pw nK))/\Below w.heap.size w w' :=
 calls_at (E1_ok (more:=[]) (γ0:=fun _=>0) trivial) (by kernel_rfl) (fun _=>0) Try.func7 (by kernel_rfl) [] trivial (by kernel_rfl) (by kernel_rfl) (.leaf (.w nK)) (by kernel_rfl) rfl
theorem ramod_w(a b m:Nat)(ha:a<2^256)(hb:b<2^256)(h0:0<m)(hm:m<2^256)(w:World):Calls Try.prog 10 #[.agg (pw a),.agg (pw b),.agg (pw m)] w fun e w'=>e=.returned (.agg (pw ((a+b)%m)))/\Below w.heap.size w w':=by
 have h:=addmod_ref a b m w;rw[Nat.mod_eq_of_lt ha,Nat.mod_eq_of_lt hb,remV_of h0 hm]at h;exact h
namespace Sy
def cOrder:Con:=conV 7 fun l=>match l with
 | []=>some (.w nK,[])
 | _=>none
theorem nK_lt:nK<2^256:=by decide
theorem cOrder_ok{base:Nat}{γ0:Pl}{w0:World}:ConOk Try.prog base γ0 w0 cOrder:=conV_ok (fun _ _=>by kernel_rfl) fun us r q h hq hok=>by
 split at h
 ·cases h
  exact⟨nK_lt,rfl,fun γ w=>order_any w⟩
 ·cases h
def cAddMod:Con:=conV 10 fun l=>match l with
 | [.w a,.w b,.w m]=>some (.w ((a+b)%m),[.ask (0<m/\m<2^256)])
 | _=>none
theorem cAddMod_ok{base:Nat}{γ0:Pl}{w0:World}:ConOk Try.prog base γ0 w0 cAddMod:=conV_ok (fun _ _=>by kernel_rfl) fun us r q h hq hok=>by
 split at h
 ·rename_i a b m
  cases h;obtain⟨h0,hm⟩:0<m/\m<2^256:=hq _ (.head _);exact⟨Nat.lt_trans (Nat.mod_lt _ h0) hm,rfl,fun γ w=>ramod_w a b m (hok (.w a) (by simp)) (hok (.w b) (by simp)) h0 hm w⟩
 ·cases h
end Sy
theorem corders_any(j k x y:Nat)(n:Bool)(hj:j<2^256)(hk:k<2^256)(hx:x<2^256)(hy:y<2^256)(w:World):Calls Try.prog 3 #[.agg (pw j),.agg (pw k),.agg (pc x y n)] w fun r w'=>r=.returned (.bool true)/\Below w.heap.size w w':=by
 have k0:onB mK (x,y,n)=true->(muP nK (x,y,n)).2.2=true:=fun hb=>by
  rw[show muP nK (x,y,n)=canon (nmul FK nK (ptOf (x,y,n))) from if_pos hb,orderK (rel_pt hb).2];rfl
 have k1:onB mK (x,y,n)=true->(onB mK (muP j (x,y,n))&&onB mK (muP k (x,y,n)))=true/\adP (muP j (x,y,n)) (muP k (x,y,n))=muP ((j+k)%nK) (x,y,n):=fun hb=>by
  have o:=(rel_pt hb).2;have e:∀ i,muP i (x,y,n)=canon (nmul FK i (ptOf (x,y,n))):=fun i=>if_pos hb;have b:(onB mK (muP j (x,y,n))&&onB mK (muP k (x,y,n)))=true:=by
   rw[e,e,on_can' (on_nmul curveK o j),on_can' (on_nmul curveK o k)];rfl
  refine⟨b,(if_pos b).trans ?_⟩;rw[e,e,e,pt_canon,pt_canon,nmul_mod curveK o (orderK o),nmul_add curveK o]
 refine calls_at (EQ_ok (more:=cOrder::cAddMod::[]) ⟨cOrder_ok,cAddMod_ok,trivial⟩) (by kernel_rfl) (fun _=>0) Try.func3 (by kernel_rfl) [.w j,.w k,sP x y n] ⟨⟨hj,rfl⟩,⟨hk,rfl⟩,⟨⟨hx,hy,trivial,trivial⟩,rfl⟩,trivial⟩ (by kernel_rfl) (by kernel_rfl)
  (let p:=(x,y,n);let e:Int:=if onB mK p=true then 0 else 81
  .br (!(onB mK p)) (.leaf (.v (.bool true))) (.br (bif !(eqI e 0)then true else !(muP nK p).2.2) (.leaf (.v (.bool false))) (.need (0<nK/\nK<2^256) (.leaf (.b (bif (bif eqI e 0 then smB (adP (muP j p) (muP k p)) (muP ((j+k)%nK) p)else false)then true else false)))))) (by kernel_rfl) ?_
 refine⟨fun _=>rfl,fun h=>?_⟩;have hb:onB mK (x,y,n)=true:=by simpa using h
 refine⟨fun h1=>?_,fun _=>⟨⟨by decide,nK_lt⟩,congrArg Value.bool (same_law hb (k1 hb).2)⟩⟩;have h1:(bif !(eqI (if onB mK (x,y,n)=true then 0 else 81) 0)then true else !(muP nK (x,y,n)).2.2)=true:=h1;rw[k0 hb,if_pos hb]at h1;cases h1
end Go.Proofs.Ytphafjbajlcbnaa
