/- Identities of polynomials in four letters over any commutative ring, held by one great number: what is nought where the letters are high powers of one base, and has few terms of small degrees, is nought everywhere. (Cut to what is reached, written closely: FInv · Kron.) -/
import Derived.Test.YtpipdfgfoocifaaGreatT27
set_option linter.all false
set_option maxRecDepth 100000
set_option maxHeartbeats 8000000
namespace Go.Proofs.YtpipdfgfoocifaaGreat
open Go.RowKit
theorem CW.rowed2{w wx:World}{F m a g:Nat}{cs:Array Value}(c:CW w F m [(w.heap.size+1,#[.int .u64 0,.int .u64 0,.int .u64 0,.int .u64 0]),(w.heap.size,pw a)] wx)(hg:w.heap.size+2<=g):CW w F m [(w.heap.size+1,#[.int .u64 0,.int .u64 0,.int .u64 0,.int .u64 0]),(w.heap.size,pw a)] (wx.setRow g cs):=by
 have hF:=c.hF;refine⟨below_setRow c.old (by omega) _,fld_row c.fld (by omega),hF,fun p hp=>(setRow_other _ _ _ _ ?_).trans (c.rows p hp)⟩;simp only[List.mem_cons,List.not_mem_nil,or_false]at hp;rcases hp with rfl | rfl
 ·show w.heap.size+1≠g;omega
 ·show w.heap.size≠g;omega
theorem CW.high2{w wx:World}{F m a:Nat}(c:CW w F m [(w.heap.size+1,#[.int .u64 0,.int .u64 0,.int .u64 0,.int .u64 0]),(w.heap.size,pw a)] wx):w.heap.size+2<=wx.heap.size:=(Array.getElem?_eq_some_iff.1 (c.is (w.heap.size+1) (#[.int .u64 0,.int .u64 0,.int .u64 0,.int .u64 0]) (by simp))).1
theorem res_cell_tmp{P:Program}{fn:Func}{p u:Tmp}{ty:TypeId}{vb:Value}(h:fn.results=#[.cell p ty,.tmp u])(tmps:Array Value)(w:World)(g:Nat)(t:TypeId)(cs:Array Value)(fr:Nat × Nat)(d:TypeDesc)
  (hp:tmps.getD p undef=.pointer (some ⟨g,0,none⟩)) (hb:tmps.getD u undef=vb) (hg:w.heap[g]?=some (.cells cs t fr))
  (hu:P.underlying ty=some d) (hd:(match d with | .struct _ | .array _ _=>true | _=>false)=true) (hi:(P.info? ty).map (·.size)=some cs.size) :
  (results fn tmps).run P w=.ok (.tuple #[.agg cs,vb]) w:=by
 have hp':tmps[p]?.getD undef=.pointer (some ⟨g,0,none⟩):=by simpa using hp
 have hb':tmps[u]?.getD undef=vb:=by simpa using hb
 simp[results,h,hp',hb',asAddr,run_loadVar_row w g t ty cs fr d hg hu hd hi]
theorem less2{m:Nat}(h1:1<m)(hm:m<2^256):pw (m+(2^256 - 2))=pw (m - 2):=pw_congr (by omega)
-- WHAT Inv COMES TO.
theorem finv_any(F m n:Nat)(ha:n<2^256)(w:World)(hF:FldAt w F m):Calls Tryz.prog 61 #[.pointer (some ⟨F,0,none⟩),.agg (pw n)] w fun e w'=>e=.returned (.tuple #[.agg (pw (if n*(n^(m - 2)%m)%m=1 then n^(m - 2)%m else 0)),.bool (decide (n*(n^(m - 2)%m)%m=1))])/\Below w.heap.size w w':=by
 have H0:=Lib.hid (CW.one hF n);have HO:=Lib.hid (And.intro hF.odd (And.intro hF.big hF.lt));have HEX:=Lib.hid (fun wx (c:CW w F m [(w.heap.size+1,#[.int .u64 0,.int .u64 0,.int .u64 0,.int .u64 0]),(w.heap.size,pw n)] wx)=>fexp_any F m n (m - 2) ha (by have:=hF.lt;omega) wx c.fld);have HSB:=Lib.hid (fun wx=>sub_pw m 2 (by omega) wx);rw[less2 hF.big hF.lt]at HSB;have hil:n^(m - 2)%m<m:=Nat.mod_lt _ (by have:=hF.big;omega);obtain⟨v,hv⟩:∃ v,n^(m - 2)%m=v:=⟨_,rfl⟩
 rw[hv]at HEX hil |-
 obtain⟨u,hu⟩:∃ u,n*v%m=u:=⟨_,rfl⟩
 have HUL:=Lib.hid (show u<2^256 from by rw[<- hu];exact Nat.lt_trans (Nat.mod_lt _ (by have:=hF.big;omega)) hF.lt);have HU:=Lib.hid hu;rw[hu];have HN:=Lib.hid (And.intro ha (Nat.lt_trans hil hF.lt));clear hF ha hil hv hu;go_enter Tryz.func61,Tryz.ntmps61
 go_wp2_with fail
 refine region_tie (CW w F m [(w.heap.size+1,#[.int .u64 0,.int .u64 0,.int .u64 0,.int .u64 0]),(w.heap.size,pw n)]) (fun i s wx=>match i with | 0=>s 7=(.pointer (some ⟨F,0,none⟩)) | 1=>s 8=(.agg (pw n)) | 2=>s 9=(.pointer (some ⟨F,0,none⟩)) | 3=>s 10=(.pointer (some ⟨F,0,none⟩)) | 4=>s 11=(.pointer (some ⟨F,0,none⟩)) | 5=>s 12=(.agg (pw m)) | 6=>s 13=(.agg (pw 2)) | 7=>s 14=(.agg (pw (m - 2))) | 8=>s 15=(.agg (pw v)) | 9=>∃ D,s 6=.pointer (some ⟨D,0,none⟩)/\(w.heap.size+2)<=D/\∃ cs:Array Value,wx.heap[D]?=some (.cells cs 24 (0,0))/\cs.size=4 | 10=>∃ D,s 6=.pointer (some ⟨D,0,none⟩)/\(w.heap.size+2)<=D/\wx.heap[D]?=some (.cells (FW v 24) 24 (0,0)) | _=>True) (RT (w.heap.size+2) (FW v)) (fun i=>match i with | 0=>[7] | 1=>[8] | 2=>[9] | 3=>[10] | 4=>[11] | 5=>[12] | 6=>[13] | 7=>[14] | 8=>[15] | 9=>[6] | 10=>[6] | _=>[]) (fun i=>i) (by kernel_rfl) (by kernel_rfl) H0.out.drew ?_ ?_ ?_ ?_
 ·intro i s s' wx he hp
  match i,he,hp with
  | 0,he,hp=>exact(he 7 (by simp)).symm.trans hp
  | 1,he,hp=>exact(he 8 (by simp)).symm.trans hp
  | 2,he,hp=>exact(he 9 (by simp)).symm.trans hp
  | 3,he,hp=>exact(he 10 (by simp)).symm.trans hp
  | 4,he,hp=>exact(he 11 (by simp)).symm.trans hp
  | 5,he,hp=>exact(he 12 (by simp)).symm.trans hp
  | 6,he,hp=>exact(he 13 (by simp)).symm.trans hp
  | 7,he,hp=>exact(he 14 (by simp)).symm.trans hp
  | 8,he,hp=>exact(he 15 (by simp)).symm.trans hp
  | 9,he,hp=>obtain⟨D,h1,h2⟩:=hp;exact⟨D,(he 6 (by simp)).symm.trans h1,h2⟩
  | 10,he,hp=>obtain⟨D,h1,h2⟩:=hp;exact⟨D,(he 6 (by simp)).symm.trans h1,h2⟩
  | _+11,_,_=>trivial
 ·intro i s wa wb hR hp
  match i,hp with
  | 0,hp=>exact hp
  | 1,hp=>exact hp
  | 2,hp=>exact hp
  | 3,hp=>exact hp
  | 4,hp=>exact hp
  | 5,hp=>exact hp
  | 6,hp=>exact hp
  | 7,hp=>exact hp
  | 8,hp=>exact hp
  | 9,hp=>obtain⟨D,h1,h2,cs,h3,h4⟩:=hp;obtain⟨cs',h5,h6⟩:=hR.shape _ _ _ _ h3;exact⟨D,h1,h2,cs',h5,h6.trans h4⟩
  | 10,hp=>obtain⟨D,h1,h2,h3⟩:=hp;exact⟨D,h1,h2,hR.keep _ _ _ h3⟩
  | _+11,_=>trivial
 ·refine⟨?_,?_,?_,?_,?_,?_,?_,?_,?_,?_,?_,trivial⟩
  ·intro a wx hC hsz hK
   have h0:a.tmps.getD 0 undef=(.pointer (some ⟨F,0,none⟩)):=hK.1 0 (by kernel_rfl);exact tt_val ((.pointer (some ⟨F,0,none⟩))) (by kernel_rfl) (by rw[<- h0];kernel_rfl) hC (slots_put _ _ _ (by rw[hsz];exact of_decide_eq_true (by kernel_rfl))) (RT.refl _ _ _)
  ·intro a wx hC hsz hK
   have h0:a.tmps.getD 3 undef=(.pointer (some ⟨w.heap.size,0,none⟩)):=hK.1 3 (by kernel_rfl);exact tt_load 24 (.tmp 3) ((.pointer (some ⟨w.heap.size,0,none⟩))) ((.agg (pw n))) rfl (by kernel_rfl) h0 (ld_pw (hC.is _ _ (by simp))) hC (slots_put _ _ _ (by rw[hsz];exact of_decide_eq_true (by kernel_rfl))) (RT.refl _ _ _)
  ·intro a wx hC hsz hK
   have h0:a.tmps.getD 0 undef=(.pointer (some ⟨F,0,none⟩)):=hK.1 0 (by kernel_rfl);exact tt_val ((.pointer (some ⟨F,0,none⟩))) (by kernel_rfl) (by rw[<- h0];kernel_rfl) hC (slots_put _ _ _ (by rw[hsz];exact of_decide_eq_true (by kernel_rfl))) (RT.refl _ _ _)
  ·intro a wx hC hsz hK
   have h0:a.tmps.getD 9 undef=(.pointer (some ⟨F,0,none⟩)):=hK.2 ⟨2,.data⟩ (by simp) rfl _ rfl;exact tt_val (.pointer (some ⟨F,0,none⟩)) (by kernel_rfl) (run_nil (.tmp 9) _ rfl (by rw[<- h0];kernel_rfl)) hC (slots_put _ _ _ (by rw[hsz];exact of_decide_eq_true (by kernel_rfl))) (RT.refl _ _ _)
  ·intro a wx hC hsz hK
   have h0:a.tmps.getD 10 undef=(.pointer (some ⟨F,0,none⟩)):=hK.2 ⟨3,.data⟩ (by simp) rfl _ rfl;refine tt_v (Instr.fieldAt 102 (a.tmps.getD 10 undef) 0) ((.pointer (some ⟨F,0,none⟩))) (by kernel_rfl) (by kernel_rfl) ?_ hC (slots_put _ _ _ (by rw[hsz];exact of_decide_eq_true (by kernel_rfl))) (RT.refl _ _ _);rw[h0];exact fld_at F wx
  ·intro a wx hC hsz hK
   have h0:a.tmps.getD 11 undef=(.pointer (some ⟨F,0,none⟩)):=hK.2 ⟨4,.data⟩ (by simp) rfl _ rfl;exact tt_load 24 (.tmp 11) ((.pointer (some ⟨F,0,none⟩))) ((.agg (pw m))) rfl (by kernel_rfl) h0 (ld_m hC.fld) hC (slots_put _ _ _ (by rw[hsz];exact of_decide_eq_true (by kernel_rfl))) (RT.refl _ _ _)
  ·intro a wx hC hsz hK
   refine tt_call 71 #[(.int .u64 (2:Nat))] (by kernel_rfl) (by kernel_rfl) ?_;exact(of_wv 2 (by omega) wx).mono fun e w' hh=>⟨_,hh.1,hC.below hh.2,(slots_put _ _ _ (by rw[hsz];exact of_decide_eq_true (by kernel_rfl))),RT.of hC.high2 hh.2⟩
  ·intro a wx hC hsz hK
   have h0:a.tmps.getD 12 undef=(.agg (pw m)):=hK.2 ⟨5,.data⟩ (by simp) rfl _ rfl;have h1:a.tmps.getD 13 undef=(.agg (pw 2)):=hK.2 ⟨6,.data⟩ (by simp) rfl _ rfl;refine tt_call 91 #[a.tmps.getD 12 undef,a.tmps.getD 13 undef] (by kernel_rfl) (by kernel_rfl) ?_;rw[h0,h1];exact(HSB.out wx).mono fun e w' hh=>⟨_,hh.1,hC.below hh.2,(slots_put _ _ _ (by rw[hsz];exact of_decide_eq_true (by kernel_rfl))),RT.of hC.high2 hh.2⟩
  ·intro a wx hC hsz hK
   have h0:a.tmps.getD 7 undef=(.pointer (some ⟨F,0,none⟩)):=hK.2 ⟨0,.data⟩ (by simp) rfl _ rfl;have h1:a.tmps.getD 8 undef=(.agg (pw n)):=hK.2 ⟨1,.data⟩ (by simp) rfl _ rfl;have h2:a.tmps.getD 14 undef=(.agg (pw (m - 2))):=hK.2 ⟨7,.data⟩ (by simp) rfl _ rfl;refine tt_call 90 #[a.tmps.getD 7 undef,a.tmps.getD 8 undef,a.tmps.getD 14 undef] (by kernel_rfl) (by kernel_rfl) ?_;rw[h0,h1,h2];exact(HEX.out wx hC).mono fun e w' hh=>⟨_,hh.1,hC.below hh.2,(slots_put _ _ _ (by rw[hsz];exact of_decide_eq_true (by kernel_rfl))),RT.of hC.high2 hh.2⟩
  ·intro a wx hC hsz hK
   exact tt_new (.pointer (some ⟨wx.heap.size,0,none⟩)) (by kernel_rfl) (by kernel_rfl) (hC.below ((Below.refl _ _).alloc (Nat.le_refl _) _)) ⟨_,(slots_put _ _ _ (by rw[hsz];exact of_decide_eq_true (by kernel_rfl))),hC.high2,#[.int .u64 0,.int .u64 0,.int .u64 0,.int .u64 0],heap_alloc_new _ _,rfl⟩ (RT.of hC.high2 ((Below.refl _ _).alloc (Nat.le_refl _) _))
  ·intro a wx hC hsz hK
   obtain⟨D,h1,h2,cs,h3,h4⟩:=hK.2 ⟨9,.data⟩ (by simp) rfl _ rfl;have h0:a.tmps.getD 15 undef=(.agg (pw v)):=hK.2 ⟨8,.data⟩ (by simp) rfl _ rfl;exact tt_store (by kernel_rfl) rfl (run_store 24 (.tmp 6) (.tmp 15) _ _ rfl h1 h0 (store_w h4 h3)) (hC.rowed2 h2) ⟨D,h1,h2,setRow_heap _ _ _ _ _ _ h3⟩ (RT.row h2 h3 (by rw[h4];rfl))
 intro f1 w5 hC hf1;obtain⟨E,s6,hE,hrE⟩:=hf1 10 _ rfl;have H2:=Lib.hid (show CW w F m [(E,pw v),(w.heap.size+1,#[.int .u64 0,.int .u64 0,.int .u64 0,.int .u64 0]),(w.heap.size,pw n)] w5 from⟨hC.old,hC.fld,hC.hF,fun p hp=>by
  rcases List.mem_cons.1 hp with rfl | hp
  ·exact hrE
  ·exact hC.rows p hp⟩)
 have HE:=Lib.hid hE;clear hC hE hrE H0 HSB HEX;generalize hAct:putAll _ _ _=G at *;have s0:G.tmps.getD 0 undef=.pointer (some ⟨F,0,none⟩):=by subst hAct;kernel_rfl
 have s3:G.tmps.getD 3 undef=.pointer (some ⟨w.heap.size,0,none⟩):=by subst hAct;kernel_rfl
 have s4:G.tmps.getD 4 undef=.pointer (some ⟨w.heap.size+1,0,none⟩):=by subst hAct;kernel_rfl
 have s5:G.tmps.getD 5 undef=.bool false:=by subst hAct;kernel_rfl
 have s6':G.tmps.getD 6 undef=.pointer (some ⟨E,0,none⟩):=s6;have hsz:G.tmps.size=24:=by rw[<- hAct,putAll_size];rfl
 have hdf:G.defers=[]:=by subst hAct;kernel_rfl
 clear hAct s6 hf1;obtain⟨u1,t1⟩:∃ u,G.tmps.getD 1 undef=u:=⟨_,rfl⟩
 obtain⟨u2,t2⟩:∃ u,G.tmps.getD 2 undef=u:=⟨_,rfl⟩
 obtain⟨u7,t7⟩:∃ u,G.tmps.getD 7 undef=u:=⟨_,rfl⟩
 obtain⟨u8,t8⟩:∃ u,G.tmps.getD 8 undef=u:=⟨_,rfl⟩
 obtain⟨u9,t9⟩:∃ u,G.tmps.getD 9 undef=u:=⟨_,rfl⟩
 obtain⟨u10,t10⟩:∃ u,G.tmps.getD 10 undef=u:=⟨_,rfl⟩
 obtain⟨u11,t11⟩:∃ u,G.tmps.getD 11 undef=u:=⟨_,rfl⟩
 obtain⟨u12,t12⟩:∃ u,G.tmps.getD 12 undef=u:=⟨_,rfl⟩
 obtain⟨u13,t13⟩:∃ u,G.tmps.getD 13 undef=u:=⟨_,rfl⟩
 obtain⟨u14,t14⟩:∃ u,G.tmps.getD 14 undef=u:=⟨_,rfl⟩
 obtain⟨u15,t15⟩:∃ u,G.tmps.getD 15 undef=u:=⟨_,rfl⟩
 obtain⟨u16,t16⟩:∃ u,G.tmps.getD 16 undef=u:=⟨_,rfl⟩
 obtain⟨u17,t17⟩:∃ u,G.tmps.getD 17 undef=u:=⟨_,rfl⟩
 obtain⟨u18,t18⟩:∃ u,G.tmps.getD 18 undef=u:=⟨_,rfl⟩
 obtain⟨u19,t19⟩:∃ u,G.tmps.getD 19 undef=u:=⟨_,rfl⟩
 obtain⟨u20,t20⟩:∃ u,G.tmps.getD 20 undef=u:=⟨_,rfl⟩
 obtain⟨u21,t21⟩:∃ u,G.tmps.getD 21 undef=u:=⟨_,rfl⟩
 obtain⟨u22,t22⟩:∃ u,G.tmps.getD 22 undef=u:=⟨_,rfl⟩
 obtain⟨u23,t23⟩:∃ u,G.tmps.getD 23 undef=u:=⟨_,rfl⟩
 obtain⟨tm,df⟩:=G;simp only at *;have hLt:=arr_lit4 tm;rw[hsz]at hLt;simp only[List.range,List.range.loop,List.map]at hLt;rw[s0,t1,t2,s3,s4,s5,s6',t7,t8,t9,t10,t11,t12,t13,t14,t15,t16,t17,t18,t19,t20,t21,t22,t23]at hLt;subst hLt hdf;clear s0 t1 t2 s3 s4 s5 s6' t7 t8 t9 t10 t11 t12 t13 t14 t15 t16 t17 t18 t19 t20 t21 t22 t23 hsz;have HML:=Lib.hid (fun wx (c:CW w F m [(E,pw v),(w.heap.size+1,#[.int .u64 0,.int .u64 0,.int .u64 0,.int .u64 0]),(w.heap.size,pw n)] wx)=>fmul_any F m n v HN.out.1 HN.out.2 wx c.fld);rw[HU.out]at HML;have HNE:=Lib.hid (fun wx=>new_run u 1 HUL.out (by omega) wx)
 go_upto_region 2 with(fail)
 by_cases h1:u=1
 ·rw[show(!decide (u=1))=false from by rw[h1];rfl]at HNE
  refine q_region (CW w F m [(E,pw v),(w.heap.size+1,#[.int .u64 0,.int .u64 0,.int .u64 0,.int .u64 0]),(w.heap.size,pw n)]) H2.out ?_
  with_reducible refine q_val (.pointer (some ⟨F,0,none⟩)) (by kernel_rfl) (fun _ _=>by kernel_rfl) ?_
  with_reducible refine q_load 24 (.tmp 3) (.pointer (some ⟨w.heap.size,0,none⟩)) (.agg (pw n)) rfl (by kernel_rfl) (by kernel_rfl) (fun _ c=>ld_pw (c.is _ _ (by simp))) ?_
  with_reducible refine q_load 24 (.tmp 6) (.pointer (some ⟨E,0,none⟩)) (.agg (pw v)) rfl (by kernel_rfl) (by kernel_rfl) (fun _ c=>ld_pw (c.is _ _ (by simp))) ?_
  with_reducible refine q_call 63 #[.pointer (some ⟨F,0,none⟩),.agg (pw n),.agg (pw v)] (.agg (pw u)) (by kernel_rfl) (fun _=>by kernel_rfl) (CW.calls (fun wx hf=>fmul_any F m n v HN.out.1 HN.out.2 wx hf |>.mono fun e w' hh=>⟨by rw[hh.1,HU.out],hh.2⟩)) ?_
  with_reducible refine q_call 71 #[.int .u64 (1:Nat)] (.agg (pw 1)) (by kernel_rfl) (fun _=>by kernel_rfl) (CW.calls (fun wx _=>of_wv 1 (by omega) wx)) ?_
  with_reducible refine q_bin .neq 24 _ _ 24 (.agg (pw u)) (.agg (pw 1)) (.bool false) rfl (by kernel_rfl) (by kernel_rfl) (by kernel_rfl) (fun _=>by kernel_rfl) (fun w'=>HNE.out w') ?_
  with_reducible refine wpQuiet_nil ?_
  intro wx hC;have HC:=Lib.hid hC;clear hC H2;simp only[Act.put,List.setIfInBounds_toArray,List.set_cons_succ,List.set_cons_zero]
  go_wp2_with (first | (refine wpList_ld rfl 24 _ rfl (.pointer (some ⟨E,0,none⟩)) (.agg (pw v)) rfl (ld_pw (by exact HC.out.is _ _ (by simp))) ?_) | (refine wpList_store_row rfl 24 _ _ rfl (w.heap.size+1) (pw v) rfl rfl 24 (#[.int .u64 0,.int .u64 0,.int .u64 0,.int .u64 0]) (by exact HC.out.is _ _ (by simp)) (by rw[pw_size];exact infoW4) (by first | rfl | (rw[pw_size];rfl) | (rw[pw_size,pw_size])) (pw_one _) ?_))
  refine bodyPost_ret (v:=.tuple #[.agg (pw v),.bool true]) (res_cell_tmp (p:=4) (u:=5) (vb:=.bool true) rfl _ _ (w.heap.size+1) 24 (pw v) (0,0) _ rfl rfl (setRow_heap _ _ _ _ _ _ (HC.out.is (w.heap.size+1) (#[.int .u64 0,.int .u64 0,.int .u64 0,.int .u64 0]) (by simp))) Tryz.underlying24 rfl (by rw[pw_size];exact infoW4)) rfl ⟨rfl,below_setRow HC.out.old (by omega) _⟩
 ·rw[show(!decide (u=1))=true from by simp[h1]]at HNE
  refine q_region (CW w F m [(E,pw v),(w.heap.size+1,#[.int .u64 0,.int .u64 0,.int .u64 0,.int .u64 0]),(w.heap.size,pw n)]) H2.out ?_
  with_reducible refine q_val (.pointer (some ⟨F,0,none⟩)) (by kernel_rfl) (fun _ _=>by kernel_rfl) ?_
  with_reducible refine q_load 24 (.tmp 3) (.pointer (some ⟨w.heap.size,0,none⟩)) (.agg (pw n)) rfl (by kernel_rfl) (by kernel_rfl) (fun _ c=>ld_pw (c.is _ _ (by simp))) ?_
  with_reducible refine q_load 24 (.tmp 6) (.pointer (some ⟨E,0,none⟩)) (.agg (pw v)) rfl (by kernel_rfl) (by kernel_rfl) (fun _ c=>ld_pw (c.is _ _ (by simp))) ?_
  with_reducible refine q_call 63 #[.pointer (some ⟨F,0,none⟩),.agg (pw n),.agg (pw v)] (.agg (pw u)) (by kernel_rfl) (fun _=>by kernel_rfl) (CW.calls (fun wx hf=>fmul_any F m n v HN.out.1 HN.out.2 wx hf |>.mono fun e w' hh=>⟨by rw[hh.1,HU.out],hh.2⟩)) ?_
  with_reducible refine q_call 71 #[.int .u64 (1:Nat)] (.agg (pw 1)) (by kernel_rfl) (fun _=>by kernel_rfl) (CW.calls (fun wx _=>of_wv 1 (by omega) wx)) ?_
  with_reducible refine q_bin .neq 24 _ _ 24 (.agg (pw u)) (.agg (pw 1)) (.bool true) rfl (by kernel_rfl) (by kernel_rfl) (by kernel_rfl) (fun _=>by kernel_rfl) (fun w'=>HNE.out w') ?_
  with_reducible refine wpQuiet_nil ?_
  intro wx hC;have HC:=Lib.hid hC;clear hC H2;simp only[Act.put,List.setIfInBounds_toArray,List.set_cons_succ,List.set_cons_zero]
  go_wp2_with (refine wpList_store_row rfl 24 _ _ rfl (w.heap.size+1) (pw 0) rfl rfl 24 (#[.int .u64 0,.int .u64 0,.int .u64 0,.int .u64 0]) (by exact HC.out.is _ _ (by simp)) (by rw[pw_size];exact infoW4) (by first | rfl | (rw[pw_size];rfl) | (rw[pw_size,pw_size])) (pw_one _) ?_)
  refine bodyPost_ret (v:=.tuple #[.agg (pw 0),.bool false]) (res_cell_tmp (p:=4) (u:=5) (vb:=.bool false) rfl _ _ (w.heap.size+1) 24 (pw 0) (0,0) _ rfl rfl (setRow_heap _ _ _ _ _ _ (HC.out.is (w.heap.size+1) (#[.int .u64 0,.int .u64 0,.int .u64 0,.int .u64 0]) (by simp))) Tryz.underlying24 rfl (by rw[pw_size];exact infoW4)) rfl ⟨rfl,below_setRow HC.out.old (by omega) _⟩
structure CRing (K:Type) where
 add:K->K->K
 mul:K->K->K
 neg:K->K
 zero:K
 one:K
 add_assoc:∀ a b c,add (add a b) c=add a (add b c)
 add_comm:∀ a b,add a b=add b a
 add_zero:∀ a,add a zero=a
 add_neg:∀ a,add a (neg a)=zero
 mul_assoc:∀ a b c,mul (mul a b) c=mul a (mul b c)
 mul_comm:∀ a b,mul a b=mul b a
 mul_one:∀ a,mul a one=a
 mul_add:∀ a b c,mul a (add b c)=add (mul a b) (mul a c)
namespace CRing
variable {K:Type} (C:CRing K)
def sub(a b:K):K:=C.add a (C.neg b)
theorem zero_add(a:K):C.add C.zero a=a:=by rw[C.add_comm,C.add_zero]
theorem one_mul(a:K):C.mul C.one a=a:=by rw[C.mul_comm,C.mul_one]
theorem add_mul(a b c:K):C.mul (C.add a b) c=C.add (C.mul a c) (C.mul b c):=by rw[C.mul_comm,C.mul_add,C.mul_comm c a,C.mul_comm c b]
theorem add_left(a b c:K):C.add a (C.add b c)=C.add b (C.add a c):=by rw[<- C.add_assoc,C.add_comm a b,C.add_assoc]
theorem add_cancel{a b c:K}(h:C.add a c=C.add b c):a=b:=by
 have h2:=congrArg (fun x=>C.add x (C.neg c)) h;simp only[C.add_assoc,C.add_neg,C.add_zero]at h2;exact h2
theorem mul_zero(a:K):C.mul a C.zero=C.zero:=by
 apply C.add_cancel (c:=C.mul a C.zero);rw[<- C.mul_add,C.add_zero,C.zero_add]
theorem zero_mul(a:K):C.mul C.zero a=C.zero:=by rw[C.mul_comm,C.mul_zero]
theorem swap4(a b c d:K):C.add (C.add a b) (C.add c d)=C.add (C.add a c) (C.add b d):=by
 rw[C.add_assoc,C.add_assoc,C.add_left b c d]
theorem sub_add(a b:K):C.add (C.sub a b) b=a:=by
 unfold sub;rw[C.add_assoc,C.add_comm (C.neg b) b,C.add_neg,C.add_zero]
theorem eq_of_sub{a b:K}(h:C.sub a b=C.zero):a=b:=by rw[<- C.sub_add a b,h,C.zero_add]
theorem neg_zero:C.neg C.zero=C.zero:=by
 have h:=C.add_neg C.zero;rwa [C.zero_add]at h
theorem sub_zero(a:K):C.sub a C.zero=a:=by unfold sub;rw[C.neg_zero,C.add_zero]
theorem mul_neg(a b:K):C.mul a (C.neg b)=C.neg (C.mul a b):=by
 apply C.add_cancel (c:=C.mul a b);rw[<- C.mul_add,C.add_comm (C.neg b) b,C.add_neg,C.mul_zero,C.add_comm,C.add_neg]
def nat:Nat->K
 | 0=>C.zero
 | n+1=>C.add (nat n) C.one
def pow(a:K):Nat->K
 | 0=>C.one
 | n+1=>C.mul (pow a n) a
theorem pow_add(a:K)(m:Nat):∀ n,C.pow a (m+n)=C.mul (C.pow a m) (C.pow a n)
 | 0=>(C.mul_one _).symm
 | n+1=>by rw[<- Nat.add_assoc,pow,pow,pow_add a m n,C.mul_assoc]
theorem mul4(a b c d:K):C.mul (C.mul a b) (C.mul c d)=C.mul (C.mul a c) (C.mul b d):=by
 rw[C.mul_assoc,C.mul_assoc,<- C.mul_assoc b c d,C.mul_comm b c,C.mul_assoc c b d]
end CRing
abbrev Mn:=Nat × Nat × Nat × Nat
def Mn.mul(m n:Mn):Mn:=(m.1+n.1,m.2.1+n.2.1,m.2.2.1+n.2.2.1,m.2.2.2+n.2.2.2)
def Mn.var:Nat->Mn
 | 0=>(1,0,0,0)
 | 1=>(0,1,0,0)
 | 2=>(0,0,1,0)
 | _=>(0,0,0,1)
inductive Ex
 | v (i:Nat)
 | k (n:Nat)
 | add (a b:Ex)
 | mul (a b:Ex)
 | sub (a b:Ex)
def mulL(p q:List Mn):List Mn:=p.flatMap fun m=>q.map (Mn.mul m)
def degMax(a b:Mn):Mn:=(max a.1 b.1,max a.2.1 b.2.1,max a.2.2.1 b.2.2.1,max a.2.2.2 b.2.2.2)
def ndAdd(p q:Nat × Mn):Nat × Mn:=if p.1=0 then q else if q.1=0 then p else (p.1+q.1,degMax p.2 q.2)
def ndMul(p q:Nat × Mn):Nat × Mn:=if p.1=0 then p else if q.1=0 then q else (p.1*q.1,p.2.mul q.2)
namespace Ex
def pm:Ex->List Mn × List Mn
 | .v i=>([Mn.var i],[])
 | .k n=>(List.replicate n (0,0,0,0),[])
 | .add a b=>(a.pm.1++b.pm.1,a.pm.2++b.pm.2)
 | .sub a b=>(a.pm.1++b.pm.2,a.pm.2++b.pm.1)
 | .mul a b=>(mulL a.pm.1 b.pm.1++mulL a.pm.2 b.pm.2,mulL a.pm.1 b.pm.2++mulL a.pm.2 b.pm.1)
def norm:Ex->Nat
 | .v _=>1
 | .k n=>n
 | .add a b=>a.norm+b.norm
 | .sub a b=>a.norm+b.norm
 | .mul a b=>a.norm*b.norm
def nd:Ex->Nat × Mn
 | .v i=>(1,Mn.var i)
 | .k n=>(n,(0,0,0,0))
 | .add a b=>ndAdd a.nd b.nd
 | .sub a b=>ndAdd a.nd b.nd
 | .mul a b=>ndMul a.nd b.nd
section
variable {K:Type} (C:CRing K) (r:Nat->K)
def eval:Ex->K
 | .v 0=>r 0
 | .v 1=>r 1
 | .v 2=>r 2
 | .v _=>r 3
 | .k n=>C.nat n
 | .add a b=>C.add a.eval b.eval
 | .sub a b=>C.sub a.eval b.eval
 | .mul a b=>C.mul a.eval b.eval
end
end Ex
section
variable {K:Type} (C:CRing K) (r:Nat->K)
def Mn.val(m:Mn):K:=C.mul (C.mul (C.pow (r 0) m.1) (C.pow (r 1) m.2.1)) (C.mul (C.pow (r 2) m.2.2.1) (C.pow (r 3) m.2.2.2))
def sumL:List Mn->K
 | []=>C.zero
 | m::l=>C.add (m.val C r) (sumL l)
theorem val_mul(m n:Mn):(m.mul n).val C r=C.mul (m.val C r) (n.val C r):=by
 unfold Mn.val Mn.mul;simp only[C.pow_add];rw[C.mul4 (C.pow (r 0) m.1),C.mul4 (C.pow (r 2) m.2.2.1),C.mul4 (C.mul (C.pow (r 0) m.1) (C.pow (r 1) m.2.1))]
theorem sumL_append(p q:List Mn):sumL C r (p++q)=C.add (sumL C r p) (sumL C r q):=by
 induction p with
 | nil=>exact(C.zero_add _).symm
 | cons m p ih=>rw[List.cons_append,sumL,sumL,ih,C.add_assoc]
theorem sumL_map(m:Mn)(q:List Mn):sumL C r (q.map (Mn.mul m))=C.mul (m.val C r) (sumL C r q):=by
 induction q with
 | nil=>exact(C.mul_zero _).symm
 | cons n q ih=>rw[List.map_cons,sumL,sumL,ih,val_mul,C.mul_add]
theorem sumL_mul(p q:List Mn):sumL C r (mulL p q)=C.mul (sumL C r p) (sumL C r q):=by
 induction p with
 | nil=>exact(C.zero_mul _).symm
 | cons m p ih =>
  show sumL C r (q.map (Mn.mul m)++mulL p q)=_;rw[sumL_append,sumL_map,ih,sumL,C.add_mul]
theorem sumL_perm{p q:List Mn}(h:p.Perm q):sumL C r p=sumL C r q:=by
 induction h with
 | nil=>rfl
 | cons m _ ih=>rw[sumL,sumL,ih]
 | swap m n l=>rw[sumL,sumL,sumL,sumL,C.add_left]
 | trans _ _ h1 h2=>rw[h1,h2]
theorem kval_one:Mn.val C r (0,0,0,0)=C.one:=by
 unfold Mn.val CRing.pow;rw[C.mul_one,C.mul_one]
theorem sum_nat(n:Nat):sumL C r (List.replicate n (0,0,0,0))=C.nat n:=by
 induction n with
 | zero=>rfl
 | succ n ih=>rw[List.replicate_succ,sumL,ih,kval_one,CRing.nat,C.add_comm]
theorem val_var(i:Nat):sumL C r [Mn.var i]=(Ex.v i).eval C r:=by
 rw[sumL,sumL,C.add_zero]
 match i with
 | 0=>unfold Mn.val Mn.var Ex.eval;simp only[CRing.pow,C.mul_one,C.one_mul]
 | 1=>unfold Mn.val Mn.var Ex.eval;simp only[CRing.pow,C.mul_one,C.one_mul]
 | 2=>unfold Mn.val Mn.var Ex.eval;simp only[CRing.pow,C.mul_one,C.one_mul]
 | _+3=>unfold Mn.val Mn.var Ex.eval;simp only[CRing.pow,C.mul_one,C.one_mul]
theorem eval_pm(e:Ex):C.add (e.eval C r) (sumL C r e.pm.2)=sumL C r e.pm.1:=by
 induction e with
 | v i=>rw[Ex.pm,val_var];exact C.add_zero _
 | k n=>rw[Ex.pm,sum_nat];exact C.add_zero _
 | add a b iha ihb=>rw[Ex.pm,Ex.eval,sumL_append,sumL_append,C.swap4,iha,ihb]
 | sub a b iha ihb =>
  rw[Ex.pm,Ex.eval,sumL_append,sumL_append];rw[<- iha,<- ihb,<- C.add_assoc,<- C.add_assoc];congr 1;rw[C.add_assoc,C.add_comm (sumL C r a.pm.2) (b.eval C r),<- C.add_assoc,C.sub_add]
 | mul a b iha ihb =>
  rw[Ex.pm,Ex.eval,sumL_append,sumL_append,sumL_mul,sumL_mul,sumL_mul,sumL_mul];rw[<- iha,<- ihb];generalize a.eval C r=x;generalize b.eval C r=y;generalize sumL C r a.pm.2=s;generalize sumL C r b.pm.2=t;simp only[C.mul_add,C.add_mul,C.add_assoc];congr 1;rw[C.add_comm (C.mul s t) (C.add (C.mul s y) (C.mul s t)),C.add_assoc,C.add_left]
end
def powL(B:Nat):List Nat->Nat
 | []=>0
 | c::l=>B^c+powL B l
theorem powL_split(B:Nat)(l:List Nat):powL B l=l.count 0+B*powL B ((l.filter (·≠0)).map Nat.pred):=by
 induction l with
 | nil=>rfl
 | cons c l ih =>
  cases c with
  | zero =>
   rw[powL,ih,List.count_cons_self,List.filter_cons_of_neg (by simp)];simp only[Nat.pow_zero];omega
  | succ c =>
   rw[powL,ih,List.count_cons_of_ne (by simp),List.filter_cons_of_pos (by simp),List.map_cons,powL,Nat.pow_succ,Nat.pred_succ,Nat.mul_add,Nat.mul_comm (B^c) B];omega
theorem count_succ(l:List Nat)(c:Nat):l.count (c+1)=((l.filter (·≠0)).map Nat.pred).count c:=by
 induction l with
 | nil=>rfl
 | cons d l ih =>
  cases d with
  | zero=>rw[List.count_cons_of_ne (by simp),List.filter_cons_of_neg (by simp),ih]
  | succ d =>
   rw[List.filter_cons_of_pos (by simp),List.map_cons,Nat.pred_succ];by_cases e:d=c
   ·subst e
    rw[List.count_cons_self,List.count_cons_self,ih]
   ·rw[List.count_cons_of_ne (by omega),List.count_cons_of_ne (by omega),ih]
theorem len_le(l:List Nat):((l.filter (·≠0)).map Nat.pred).length<=l.length:=by
 rw[List.length_map];exact List.length_filter_le _ _
theorem powL_inj{B:Nat}:∀(c:Nat) (p q:List Nat),p.length<B->q.length<B->powL B p=powL B q->p.count c=q.count c:=by
 intro c
 induction c with
 | zero =>
  intro p q hp hq h;rw[powL_split B p,powL_split B q]at h;have h1:=congrArg (·%B) h;simp only[Nat.add_mul_mod_self_left]at h1;rwa [Nat.mod_eq_of_lt (Nat.lt_of_le_of_lt List.count_le_length hp),Nat.mod_eq_of_lt (Nat.lt_of_le_of_lt List.count_le_length hq)]at h1
 | succ c ih =>
  intro p q hp hq h;have h0:p.count 0=q.count 0:=by
   have h2:=h;rw[powL_split B p,powL_split B q]at h2;have h1:=congrArg (·%B) h2;simp only[Nat.add_mul_mod_self_left]at h1;rwa [Nat.mod_eq_of_lt (Nat.lt_of_le_of_lt List.count_le_length hp),Nat.mod_eq_of_lt (Nat.lt_of_le_of_lt List.count_le_length hq)]at h1
  rw[count_succ,count_succ];refine ih _ _ (Nat.lt_of_le_of_lt (len_le p) hp) (Nat.lt_of_le_of_lt (len_le q) hq) ?_;rw[powL_split B p,powL_split B q,h0]at h;exact Nat.eq_of_mul_eq_mul_left (by omega) (Nat.add_left_cancel h)
def Mn.code(d:Mn)(m:Mn):Nat:=m.1+(d.1+1)*(m.2.1+(d.2.1+1)*(m.2.2.1+(d.2.2.1+1)*m.2.2.2))
def Mn.back(d:Mn)(c:Nat):Mn:=(c%(d.1+1),c / (d.1+1)%(d.2.1+1),c / (d.1+1) / (d.2.1+1)%(d.2.2.1+1),c / (d.1+1) / (d.2.1+1) / (d.2.2.1+1))
def Mn.le(m d:Mn):Prop:=m.1<=d.1/\m.2.1<=d.2.1/\m.2.2.1<=d.2.2.1/\m.2.2.2<=d.2.2.2
theorem back_code{m d:Mn}(h:m.le d):Mn.back d (Mn.code d m)=m:=by
 obtain⟨h1,h2,h3,-⟩:=h;have dm:∀ a n q:Nat,a<=n->(a+(n+1)*q)%(n+1)=a/\(a+(n+1)*q) / (n+1)=q:=fun a n q ha=>⟨by rw[Nat.add_mul_mod_self_left,Nat.mod_eq_of_lt (by omega)],by rw[Nat.add_mul_div_left _ _ (by omega),Nat.div_eq_of_lt (by omega),Nat.zero_add]⟩
 unfold Mn.back Mn.code;rw[(dm _ _ _ h1).1,(dm _ _ _ h1).2,(dm _ _ _ h2).1,(dm _ _ _ h2).2,(dm _ _ _ h3).1,(dm _ _ _ h3).2]
theorem perm_of_codes{B:Nat}{d:Mn}{p q:List Mn}(hp:∀ m∈p,m.le d)(hq:∀ m∈q,m.le d)(lp:p.length<B)(lq:q.length<B)(h:powL B (p.map (Mn.code d))=powL B (q.map (Mn.code d))):p.Perm q:=by
 have hc:(p.map (Mn.code d)).Perm (q.map (Mn.code d)):=List.perm_iff_count.2 fun c=>powL_inj c _ _ (by rw[List.length_map];exact lp) (by rw[List.length_map];exact lq) h;have h2:=hc.map (Mn.back d);have key:∀ l:List Mn,(∀ m∈l,m.le d)->(l.map (Mn.code d)).map (Mn.back d)=l:=fun l hl=>by
  rw[List.map_map]
  conv=>rhs;rw[<- List.map_id l]
  exact List.map_congr_left fun m hm=>back_code (hl m hm)
 rwa [key p hp,key q hq]at h2
theorem mem_mulL{p q:List Mn}{m:Mn}(h:m∈mulL p q):∃ x∈p,∃ y∈q,m=x.mul y:=by
 unfold mulL at h;rw[List.mem_flatMap]at h;obtain⟨x,hx,h⟩:=h;rw[List.mem_map]at h;obtain⟨y,hy,h⟩:=h;exact⟨x,hx,y,hy,h.symm⟩
theorem len_mulL(p q:List Mn):(mulL p q).length=p.length*q.length:=by
 unfold mulL
 induction p with
 | nil=>simp
 | cons m p ih=>rw[List.flatMap_cons,List.length_append,ih,List.length_map,List.length_cons,Nat.succ_mul,Nat.add_comm]
theorem le_mul{x y d e:Mn}(h1:x.le d)(h2:y.le e):(x.mul y).le (d.mul e):=⟨Nat.add_le_add h1.1 h2.1,Nat.add_le_add h1.2.1 h2.2.1,Nat.add_le_add h1.2.2.1 h2.2.2.1,Nat.add_le_add h1.2.2.2 h2.2.2.2⟩
theorem pm_len(e:Ex):e.pm.1.length+e.pm.2.length=e.norm:=by
 induction e with
 | v i=>rfl
 | k n=>simp[Ex.pm,Ex.norm]
 | add a b iha ihb=>simp only[Ex.pm,Ex.norm,List.length_append];omega
 | sub a b iha ihb=>simp only[Ex.pm,Ex.norm,List.length_append];omega
 | mul a b iha ihb =>
  simp only[Ex.pm,Ex.norm,List.length_append,len_mulL];rw[<- iha,<- ihb,Nat.add_mul,Nat.mul_add,Nat.mul_add];omega
theorem nd_add(p q:Nat × Mn):(ndAdd p q).1=p.1+q.1:=by
 unfold ndAdd;by_cases h:p.1=0
 ·rw[if_pos h,h,Nat.zero_add]
 ·rw[if_neg h]
  by_cases h2:q.1=0
  ·rw[if_pos h2,h2,Nat.add_zero]
  ·rw[if_neg h2]
theorem nd_mul(p q:Nat × Mn):(ndMul p q).1=p.1*q.1:=by
 unfold ndMul;by_cases h:p.1=0
 ·rw[if_pos h,h,Nat.zero_mul]
 ·rw[if_neg h]
  by_cases h2:q.1=0
  ·rw[if_pos h2,h2,Nat.mul_zero]
  ·rw[if_neg h2]
theorem nd_norm(e:Ex):e.nd.1=e.norm:=by
 induction e with
 | v i=>rfl
 | k n=>rfl
 | add a b iha ihb=>rw[Ex.nd,nd_add,iha,ihb];rfl
 | sub a b iha ihb=>rw[Ex.nd,nd_add,iha,ihb];rfl
 | mul a b iha ihb=>rw[Ex.nd,nd_mul,iha,ihb];rfl
theorem pm_none{e:Ex}(h:e.nd.1=0):e.pm.1=[]/\e.pm.2=[]:=by
 have h1:=pm_len e;rw[<- nd_norm,h]at h1;exact⟨List.length_eq_zero_iff.1 (by omega),List.length_eq_zero_iff.1 (by omega)⟩
theorem le_left{a b m:Mn}(h:m.le a):m.le (degMax a b):=⟨Nat.le_trans h.1 (Nat.le_max_left _ _),Nat.le_trans h.2.1 (Nat.le_max_left _ _),Nat.le_trans h.2.2.1 (Nat.le_max_left _ _),Nat.le_trans h.2.2.2 (Nat.le_max_left _ _)⟩
theorem le_right{a b m:Mn}(h:m.le b):m.le (degMax a b):=⟨Nat.le_trans h.1 (Nat.le_max_right _ _),Nat.le_trans h.2.1 (Nat.le_max_right _ _),Nat.le_trans h.2.2.1 (Nat.le_max_right _ _),Nat.le_trans h.2.2.2 (Nat.le_max_right _ _)⟩
theorem nd_le{a b:Ex}{m:Mn}(ha:(∀ m∈a.pm.1,m.le a.nd.2)/\∀ m∈a.pm.2,m.le a.nd.2)(hb:(∀ m∈b.pm.1,m.le b.nd.2)/\∀ m∈b.pm.2,m.le b.nd.2)(h:(m∈a.pm.1\/m∈a.pm.2)\/(m∈b.pm.1\/m∈b.pm.2)):m.le (ndAdd a.nd b.nd).2:=by
 unfold ndAdd;by_cases h1:a.nd.1=0
 ·rw[if_pos h1]
  rw[(pm_none h1).1,(pm_none h1).2]at h;rcases h with(h | h) | h | h
  ·cases h
  ·cases h
  ·exact hb.1 m h
  ·exact hb.2 m h
 ·rw[if_neg h1]
  by_cases h2:b.nd.1=0
  ·rw[if_pos h2]
   rw[(pm_none h2).1,(pm_none h2).2]at h;rcases h with(h | h) | h | h
   ·exact ha.1 m h
   ·exact ha.2 m h
   ·cases h
   ·cases h
  ·rw[if_neg h2]
   rcases h with(h | h) | h | h
   ·exact le_left (ha.1 m h)
   ·exact le_left (ha.2 m h)
   ·exact le_right (hb.1 m h)
   ·exact le_right (hb.2 m h)
theorem pm_deg(e:Ex):(∀ m∈e.pm.1,m.le e.nd.2)/\∀ m∈e.pm.2,m.le e.nd.2:=by
 induction e with
 | v i =>
  refine⟨fun m hm=>?_,fun m hm=>by cases hm⟩;have:m=Mn.var i:=by simpa[Ex.pm]using hm
  subst this;exact⟨Nat.le_refl _,Nat.le_refl _,Nat.le_refl _,Nat.le_refl _⟩
 | k n =>
  refine⟨fun m hm=>?_,fun m hm=>by cases hm⟩;have:m=(0,0,0,0):=List.eq_of_mem_replicate hm;subst this;exact⟨Nat.le_refl _,Nat.le_refl _,Nat.le_refl _,Nat.le_refl _⟩
 | add a b iha ihb =>
  exact⟨fun m hm=>nd_le iha ihb ((List.mem_append.1 hm).imp .inl .inl),fun m hm=>nd_le iha ihb ((List.mem_append.1 hm).imp .inr .inr)⟩
 | sub a b iha ihb =>
  exact⟨fun m hm=>nd_le iha ihb ((List.mem_append.1 hm).imp .inl .inr),fun m hm=>nd_le iha ihb ((List.mem_append.1 hm).imp .inr .inl)⟩
 | mul a b iha ihb =>
  have M:∀ {p q:List Mn} {m:Mn},(p=a.pm.1\/p=a.pm.2)->(q=b.pm.1\/q=b.pm.2)->m∈mulL p q->m.le (Ex.mul a b).nd.2:=fun {p q m} hp hq h=>by
   obtain⟨x,hx,y,hy,rfl⟩:=mem_mulL h;have n1:¬a.nd.1=0:=fun e=>by
    rcases hp with rfl | rfl
    ·rw[(pm_none e).1]at hx;cases hx
    ·rw[(pm_none e).2]at hx;cases hx
   have n2:¬b.nd.1=0:=fun e=>by
    rcases hq with rfl | rfl
    ·rw[(pm_none e).1]at hy;cases hy
    ·rw[(pm_none e).2]at hy;cases hy
   show(x.mul y).le (ndMul a.nd b.nd).2;unfold ndMul;rw[if_neg n1,if_neg n2];refine le_mul ?_ ?_
   ·rcases hp with rfl | rfl
    ·exact iha.1 x hx
    ·exact iha.2 x hx
   ·rcases hq with rfl | rfl
    ·exact ihb.1 y hy
    ·exact ihb.2 y hy
  exact⟨fun m hm=>(List.mem_append.1 hm).elim (M (.inl rfl) (.inl rfl)) (M (.inr rfl) (.inr rfl)),fun m hm=>(List.mem_append.1 hm).elim (M (.inl rfl) (.inr rfl)) (M (.inr rfl) (.inl rfl))⟩
def intRing:CRing Int:=⟨(·+·),(·*·),(- ·),0,1,Int.add_assoc,Int.add_comm,Int.add_zero,Int.add_right_neg,Int.mul_assoc,Int.mul_comm,Int.mul_one,Int.mul_add⟩
theorem int_pow(a n:Nat):intRing.pow (a:Int) n=((a^n:Nat):Int):=by
 induction n with
 | zero=>rfl
 | succ n ih=>rw[CRing.pow,ih,Nat.pow_succ,Int.natCast_mul];rfl
def kp(B:Nat)(d:Mn):Nat->Int
 | 0=>(B:Nat)
 | 1=>((B^(d.1+1):Nat):Int)
 | 2=>((B^((d.1+1)*(d.2.1+1)):Nat):Int)
 | _=>((B^((d.1+1)*((d.2.1+1)*(d.2.2.1+1))):Nat):Int)
theorem val_kp(B:Nat)(d m:Mn):m.val intRing (kp B d)=((B^Mn.code d m:Nat):Int):=by
 show intRing.mul (intRing.mul (intRing.pow ((B:Nat):Int) m.1) (intRing.pow ((B^(d.1+1):Nat):Int) m.2.1)) (intRing.mul (intRing.pow ((B^((d.1+1)*(d.2.1+1)):Nat):Int) m.2.2.1) (intRing.pow ((B^((d.1+1)*((d.2.1+1)*(d.2.2.1+1))):Nat):Int) m.2.2.2))=_;rw[int_pow,int_pow,int_pow,int_pow];show((_:Nat):Int)*((_:Nat):Int)*(((_:Nat):Int)*((_:Nat):Int))=_;rw[<- Int.natCast_mul,<- Int.natCast_mul,<- Int.natCast_mul,<- Nat.pow_mul,<- Nat.pow_mul,<- Nat.pow_mul,<- Nat.pow_add,<- Nat.pow_add,<- Nat.pow_add];congr 2;unfold Mn.code;generalize d.1+1=x;generalize d.2.1+1=y;generalize d.2.2.1+1=z;simp only[Nat.mul_add,Nat.mul_assoc,Nat.add_assoc]
theorem sum_kp(B:Nat)(d:Mn)(l:List Mn):sumL intRing (kp B d) l=((powL B (l.map (Mn.code d)):Nat):Int):=by
 induction l with
 | nil=>rfl
 | cons m l ih=>rw[sumL,ih,val_kp,List.map_cons,powL,Int.natCast_add];rfl
theorem kron{K:Type}(C:CRing K)(r:Nat->K)(B:Nat)(d:Mn)(e:Ex)(hd:e.nd.2.le d)(hn:e.nd.1<B)(h0:e.eval intRing (kp B d)=0):e.eval C r=C.zero:=by
 have h1:=eval_pm intRing (kp B d) e;rw[h0,sum_kp,sum_kp]at h1;have h2:powL B (e.pm.1.map (Mn.code d))=powL B (e.pm.2.map (Mn.code d)):=by
  have h3:(0:Int)+_=_:=h1;rw[Int.zero_add]at h3;exact(Int.ofNat.inj h3).symm
 have hl:=pm_len e;rw[<- nd_norm]at hl;have tr:∀ {m:Mn},m.le e.nd.2->m.le d:=fun h=>⟨Nat.le_trans h.1 hd.1,Nat.le_trans h.2.1 hd.2.1,Nat.le_trans h.2.2.1 hd.2.2.1,Nat.le_trans h.2.2.2 hd.2.2.2⟩
 have hp:=perm_of_codes (fun m hm=>tr ((pm_deg e).1 m hm)) (fun m hm=>tr ((pm_deg e).2 m hm)) (by omega) (by omega) h2;have h4:=eval_pm C r e;rw[sumL_perm C r hp]at h4;exact C.add_cancel (h4.trans (C.zero_add _).symm)
end Go.Proofs.YtpipdfgfoocifaaGreat
