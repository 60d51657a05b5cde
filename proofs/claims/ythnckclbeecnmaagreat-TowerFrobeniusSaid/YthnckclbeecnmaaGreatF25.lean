/- Prime numbers: Fermat's and Pocklington's theorems, and that the three moduli of the curves are prime. (Cut to what is reached, written closely: FInv · Kron · TwR · EcId · EcK · EcSm · EcGrp · EcMul · EcOrd · Prm.) -/
import Derived.Test.YthnckclbeecnmaaGreatF24
import Derived.Laws.Bits64b
set_option linter.all false
set_option maxRecDepth 100000
set_option maxHeartbeats 8000000
namespace Go.Proofs.YthnckclbeecnmaaGreat
open Go.RowKit
theorem CW.rowed2{w wx:World}{F m a g:Nat}{cs:Array Value}(c:CW w F m [(w.heap.size+1,#[.int .u64 0,.int .u64 0,.int .u64 0,.int .u64 0]),(w.heap.size,pw a)] wx)(hg:w.heap.size+2<=g):CW w F m [(w.heap.size+1,#[.int .u64 0,.int .u64 0,.int .u64 0,.int .u64 0]),(w.heap.size,pw a)] (wx.setRow g cs):=by
 have hF:=c.hF;refine⟨below_setRow c.old (by omega) _,fld_row c.fld (by omega),hF,fun p hp=>(setRow_other _ _ _ _ ?_).trans (c.rows p hp)⟩;simp only[List.mem_cons,List.not_mem_nil,or_false]at hp;rcases hp with rfl | rfl
 ·show w.heap.size+1≠g;omega
 ·show w.heap.size≠g;omega
theorem CW.high2{w wx:World}{F m a:Nat}(c:CW w F m [(w.heap.size+1,#[.int .u64 0,.int .u64 0,.int .u64 0,.int .u64 0]),(w.heap.size,pw a)] wx):w.heap.size+2<=wx.heap.size:=(Array.getElem?_eq_some_iff.1 (c.is (w.heap.size+1) (#[.int .u64 0,.int .u64 0,.int .u64 0,.int .u64 0]) (by simp))).1
theorem res_cell_tmp{P:Program}{fn:Func}{p u:Tmp}{ty:TypeId}{vb:Value}(h:fn.results=#[.cell p ty,.tmp u])(tmps:Array Value)(w:World)(g:Nat)(t:TypeId)(cs:Array Value)(fr:Nat × Nat)(d:TypeDesc)
  (hp:tmps.getD p undef=.pointer (some ⟨g,0,none⟩)) (hb:tmps.getD u undef=vb) (hg:w.heap[g]?=some (.cells cs t fr))
  (hu:P.underlying ty=some d) (hd:(match d with | .struct _ | .array _ _=>true | _=>false)=true) (hi:(P.info? ty).map (·.size)=some cs.size) :
  (results fn tmps).run P w=.ok (.tuple #[.agg cs,vb]) w:=by
 have hp':tmps[p]?.getD undef=.pointer (some ⟨g,0,none⟩):=by simpa using hp
 have hb':tmps[u]?.getD undef=vb:=by simpa using hb
 simp[results,h,hp',hb',asAddr,run_loadVar_row w g t ty cs fr d hg hu hd hi]
theorem less2{m:Nat}(h1:1<m)(hm:m<2^256):pw (m+(2^256 - 2))=pw (m - 2):=pw_congr (by omega)
-- WHAT Inv COMES TO.
theorem finv_any(F m n:Nat)(ha:n<2^256)(w:World)(hF:FldAt w F m):Calls Tryz.prog 61 #[.pointer (some ⟨F,0,none⟩),.agg (pw n)] w fun e w'=>e=.returned (.tuple #[.agg (pw (if n*(n^(m - 2)%m)%m=1 then n^(m - 2)%m else 0)),.bool (decide (n*(n^(m - 2)%m)%m=1))])/\Below w.heap.size w w':=by
 have H0:=Lib.hid (CW.one hF n);have HO:=Lib.hid (And.intro hF.odd (And.intro hF.big hF.lt));have HEX:=Lib.hid (fun wx (c:CW w F m [(w.heap.size+1,#[.int .u64 0,.int .u64 0,.int .u64 0,.int .u64 0]),(w.heap.size,pw n)] wx)=>fexp_any F m n (m - 2) ha (by have:=hF.lt;omega) wx c.fld);have HSB:=Lib.hid (fun wx=>sub_pw m 2 (by omega) wx);rw[less2 hF.big hF.lt]at HSB;have hil:n^(m - 2)%m<m:=Nat.mod_lt _ (by have:=hF.big;omega);obtain⟨v,hv⟩:∃ v,n^(m - 2)%m=v:=⟨_,rfl⟩
 rw[hv]at HEX hil |-
 obtain⟨u,hu⟩:∃ u,n*v%m=u:=⟨_,rfl⟩
 have HUL:=Lib.hid (show u<2^256 from by rw[<- hu];exact Nat.lt_trans (Nat.mod_lt _ (by have:=hF.big;omega)) hF.lt);have HU:=Lib.hid hu;rw[hu];have HN:=Lib.hid (And.intro ha (Nat.lt_trans hil hF.lt));clear hF ha hil hv hu;go_enter Tryz.func61,Tryz.ntmps61
 go_wp2_with fail
 refine region_tie (CW w F m [(w.heap.size+1,#[.int .u64 0,.int .u64 0,.int .u64 0,.int .u64 0]),(w.heap.size,pw n)]) (fun i s wx=>match i with | 0=>s 7=(.pointer (some ⟨F,0,none⟩)) | 1=>s 8=(.agg (pw n)) | 2=>s 9=(.pointer (some ⟨F,0,none⟩)) | 3=>s 10=(.pointer (some ⟨F,0,none⟩)) | 4=>s 11=(.pointer (some ⟨F,0,none⟩)) | 5=>s 12=(.agg (pw m)) | 6=>s 13=(.agg (pw 2)) | 7=>s 14=(.agg (pw (m - 2))) | 8=>s 15=(.agg (pw v)) | 9=>∃ D,s 6=.pointer (some ⟨D,0,none⟩)/\(w.heap.size+2)<=D/\∃ cs:Array Value,wx.heap[D]?=some (.cells cs 24 (0,0))/\cs.size=4 | 10=>∃ D,s 6=.pointer (some ⟨D,0,none⟩)/\(w.heap.size+2)<=D/\wx.heap[D]?=some (.cells (FW v 24) 24 (0,0)) | _=>True) (RT (w.heap.size+2) (FW v)) (fun i=>match i with | 0=>[7] | 1=>[8] | 2=>[9] | 3=>[10] | 4=>[11] | 5=>[12] | 6=>[13] | 7=>[14] | 8=>[15] | 9=>[6] | 10=>[6] | _=>[]) (fun i=>i) (by kernel_rfl) (by kernel_rfl) H0.out.drew ?_ ?_ ?_ ?_
 ·intro i s s' wx he hp
  match i,he,hp with
  | 0,he,hp=>exact(he 7 (by simp)).symm.trans hp
  | 1,he,hp=>exact(he 8 (by simp)).symm.trans hp
  | 2,he,hp=>exact(he 9 (by simp)).symm.trans hp
  | 3,he,hp=>exact(he 10 (by simp)).symm.trans hp
  | 4,he,hp=>exact(he 11 (by simp)).symm.trans hp
  | 5,he,hp=>exact(he 12 (by simp)).symm.trans hp
  | 6,he,hp=>exact(he 13 (by simp)).symm.trans hp
  | 7,he,hp=>exact(he 14 (by simp)).symm.trans hp
  | 8,he,hp=>exact(he 15 (by simp)).symm.trans hp
  | 9,he,hp=>obtain⟨D,h1,h2⟩:=hp;exact⟨D,(he 6 (by simp)).symm.trans h1,h2⟩
  | 10,he,hp=>obtain⟨D,h1,h2⟩:=hp;exact⟨D,(he 6 (by simp)).symm.trans h1,h2⟩
  | _+11,_,_=>trivial
 ·intro i s wa wb hR hp
  match i,hp with
  | 0,hp=>exact hp
  | 1,hp=>exact hp
  | 2,hp=>exact hp
  | 3,hp=>exact hp
  | 4,hp=>exact hp
  | 5,hp=>exact hp
  | 6,hp=>exact hp
  | 7,hp=>exact hp
  | 8,hp=>exact hp
  | 9,hp=>obtain⟨D,h1,h2,cs,h3,h4⟩:=hp;obtain⟨cs',h5,h6⟩:=hR.shape _ _ _ _ h3;exact⟨D,h1,h2,cs',h5,h6.trans h4⟩
  | 10,hp=>obtain⟨D,h1,h2,h3⟩:=hp;exact⟨D,h1,h2,hR.keep _ _ _ h3⟩
  | _+11,_=>trivial
 ·refine⟨?_,?_,?_,?_,?_,?_,?_,?_,?_,?_,?_,trivial⟩
  ·intro a wx hC hsz hK
   have h0:a.tmps.getD 0 undef=(.pointer (some ⟨F,0,none⟩)):=hK.1 0 (by kernel_rfl);exact tt_val ((.pointer (some ⟨F,0,none⟩))) (by kernel_rfl) (by rw[<- h0];kernel_rfl) hC (slots_put _ _ _ (by rw[hsz];exact of_decide_eq_true (by kernel_rfl))) (RT.refl _ _ _)
  ·intro a wx hC hsz hK
   have h0:a.tmps.getD 3 undef=(.pointer (some ⟨w.heap.size,0,none⟩)):=hK.1 3 (by kernel_rfl);exact tt_load 24 (.tmp 3) ((.pointer (some ⟨w.heap.size,0,none⟩))) ((.agg (pw n))) rfl (by kernel_rfl) h0 (ld_pw (hC.is _ _ (by simp))) hC (slots_put _ _ _ (by rw[hsz];exact of_decide_eq_true (by kernel_rfl))) (RT.refl _ _ _)
  ·intro a wx hC hsz hK
   have h0:a.tmps.getD 0 undef=(.pointer (some ⟨F,0,none⟩)):=hK.1 0 (by kernel_rfl);exact tt_val ((.pointer (some ⟨F,0,none⟩))) (by kernel_rfl) (by rw[<- h0];kernel_rfl) hC (slots_put _ _ _ (by rw[hsz];exact of_decide_eq_true (by kernel_rfl))) (RT.refl _ _ _)
  ·intro a wx hC hsz hK
   have h0:a.tmps.getD 9 undef=(.pointer (some ⟨F,0,none⟩)):=hK.2 ⟨2,.data⟩ (by simp) rfl _ rfl;exact tt_val (.pointer (some ⟨F,0,none⟩)) (by kernel_rfl) (run_nil (.tmp 9) _ rfl (by rw[<- h0];kernel_rfl)) hC (slots_put _ _ _ (by rw[hsz];exact of_decide_eq_true (by kernel_rfl))) (RT.refl _ _ _)
  ·intro a wx hC hsz hK
   have h0:a.tmps.getD 10 undef=(.pointer (some ⟨F,0,none⟩)):=hK.2 ⟨3,.data⟩ (by simp) rfl _ rfl;refine tt_v (Instr.fieldAt 102 (a.tmps.getD 10 undef) 0) ((.pointer (some ⟨F,0,none⟩))) (by kernel_rfl) (by kernel_rfl) ?_ hC (slots_put _ _ _ (by rw[hsz];exact of_decide_eq_true (by kernel_rfl))) (RT.refl _ _ _);rw[h0];exact fld_at F wx
  ·intro a wx hC hsz hK
   have h0:a.tmps.getD 11 undef=(.pointer (some ⟨F,0,none⟩)):=hK.2 ⟨4,.data⟩ (by simp) rfl _ rfl;exact tt_load 24 (.tmp 11) ((.pointer (some ⟨F,0,none⟩))) ((.agg (pw m))) rfl (by kernel_rfl) h0 (ld_m hC.fld) hC (slots_put _ _ _ (by rw[hsz];exact of_decide_eq_true (by kernel_rfl))) (RT.refl _ _ _)
  ·intro a wx hC hsz hK
   refine tt_call 71 #[(.int .u64 (2:Nat))] (by kernel_rfl) (by kernel_rfl) ?_;exact(of_wv 2 (by omega) wx).mono fun e w' hh=>⟨_,hh.1,hC.below hh.2,(slots_put _ _ _ (by rw[hsz];exact of_decide_eq_true (by kernel_rfl))),RT.of hC.high2 hh.2⟩
  ·intro a wx hC hsz hK
   have h0:a.tmps.getD 12 undef=(.agg (pw m)):=hK.2 ⟨5,.data⟩ (by simp) rfl _ rfl;have h1:a.tmps.getD 13 undef=(.agg (pw 2)):=hK.2 ⟨6,.data⟩ (by simp) rfl _ rfl;refine tt_call 91 #[a.tmps.getD 12 undef,a.tmps.getD 13 undef] (by kernel_rfl) (by kernel_rfl) ?_;rw[h0,h1];exact(HSB.out wx).mono fun e w' hh=>⟨_,hh.1,hC.below hh.2,(slots_put _ _ _ (by rw[hsz];exact of_decide_eq_true (by kernel_rfl))),RT.of hC.high2 hh.2⟩
  ·intro a wx hC hsz hK
   have h0:a.tmps.getD 7 undef=(.pointer (some ⟨F,0,none⟩)):=hK.2 ⟨0,.data⟩ (by simp) rfl _ rfl;have h1:a.tmps.getD 8 undef=(.agg (pw n)):=hK.2 ⟨1,.data⟩ (by simp) rfl _ rfl;have h2:a.tmps.getD 14 undef=(.agg (pw (m - 2))):=hK.2 ⟨7,.data⟩ (by simp) rfl _ rfl;refine tt_call 90 #[a.tmps.getD 7 undef,a.tmps.getD 8 undef,a.tmps.getD 14 undef] (by kernel_rfl) (by kernel_rfl) ?_;rw[h0,h1,h2];exact(HEX.out wx hC).mono fun e w' hh=>⟨_,hh.1,hC.below hh.2,(slots_put _ _ _ (by rw[hsz];exact of_decide_eq_true (by kernel_rfl))),RT.of hC.high2 hh.2⟩
  ·intro a wx hC hsz hK
   exact tt_new (.pointer (some ⟨wx.heap.size,0,none⟩)) (by kernel_rfl) (by kernel_rfl) (hC.below ((Below.refl _ _).alloc (Nat.le_refl _) _)) ⟨_,(slots_put _ _ _ (by rw[hsz];exact of_decide_eq_true (by kernel_rfl))),hC.high2,#[.int .u64 0,.int .u64 0,.int .u64 0,.int .u64 0],heap_alloc_new _ _,rfl⟩ (RT.of hC.high2 ((Below.refl _ _).alloc (Nat.le_refl _) _))
  ·intro a wx hC hsz hK
   obtain⟨D,h1,h2,cs,h3,h4⟩:=hK.2 ⟨9,.data⟩ (by simp) rfl _ rfl;have h0:a.tmps.getD 15 undef=(.agg (pw v)):=hK.2 ⟨8,.data⟩ (by simp) rfl _ rfl;exact tt_store (by kernel_rfl) rfl (run_store 24 (.tmp 6) (.tmp 15) _ _ rfl h1 h0 (store_w h4 h3)) (hC.rowed2 h2) ⟨D,h1,h2,setRow_heap _ _ _ _ _ _ h3⟩ (RT.row h2 h3 (by rw[h4];rfl))
 intro f1 w5 hC hf1;obtain⟨E,s6,hE,hrE⟩:=hf1 10 _ rfl;have H2:=Lib.hid (show CW w F m [(E,pw v),(w.heap.size+1,#[.int .u64 0,.int .u64 0,.int .u64 0,.int .u64 0]),(w.heap.size,pw n)] w5 from⟨hC.old,hC.fld,hC.hF,fun p hp=>by
  rcases List.mem_cons.1 hp with rfl | hp
  ·exact hrE
  ·exact hC.rows p hp⟩)
 have HE:=Lib.hid hE;clear hC hE hrE H0 HSB HEX;generalize hAct:putAll _ _ _=G at *;have s0:G.tmps.getD 0 undef=.pointer (some ⟨F,0,none⟩):=by subst hAct;kernel_rfl
 have s3:G.tmps.getD 3 undef=.pointer (some ⟨w.heap.size,0,none⟩):=by subst hAct;kernel_rfl
 have s4:G.tmps.getD 4 undef=.pointer (some ⟨w.heap.size+1,0,none⟩):=by subst hAct;kernel_rfl
 have s5:G.tmps.getD 5 undef=.bool false:=by subst hAct;kernel_rfl
 have s6':G.tmps.getD 6 undef=.pointer (some ⟨E,0,none⟩):=s6;have hsz:G.tmps.size=24:=by rw[<- hAct,putAll_size];rfl
 have hdf:G.defers=[]:=by subst hAct;kernel_rfl
 clear hAct s6 hf1;obtain⟨u1,t1⟩:∃ u,G.tmps.getD 1 undef=u:=⟨_,rfl⟩
 obtain⟨u2,t2⟩:∃ u,G.tmps.getD 2 undef=u:=⟨_,rfl⟩
 obtain⟨u7,t7⟩:∃ u,G.tmps.getD 7 undef=u:=⟨_,rfl⟩
 obtain⟨u8,t8⟩:∃ u,G.tmps.getD 8 undef=u:=⟨_,rfl⟩
 obtain⟨u9,t9⟩:∃ u,G.tmps.getD 9 undef=u:=⟨_,rfl⟩
 obtain⟨u10,t10⟩:∃ u,G.tmps.getD 10 undef=u:=⟨_,rfl⟩
 obtain⟨u11,t11⟩:∃ u,G.tmps.getD 11 undef=u:=⟨_,rfl⟩
 obtain⟨u12,t12⟩:∃ u,G.tmps.getD 12 undef=u:=⟨_,rfl⟩
 obtain⟨u13,t13⟩:∃ u,G.tmps.getD 13 undef=u:=⟨_,rfl⟩
 obtain⟨u14,t14⟩:∃ u,G.tmps.getD 14 undef=u:=⟨_,rfl⟩
 obtain⟨u15,t15⟩:∃ u,G.tmps.getD 15 undef=u:=⟨_,rfl⟩
 obtain⟨u16,t16⟩:∃ u,G.tmps.getD 16 undef=u:=⟨_,rfl⟩
 obtain⟨u17,t17⟩:∃ u,G.tmps.getD 17 undef=u:=⟨_,rfl⟩
 obtain⟨u18,t18⟩:∃ u,G.tmps.getD 18 undef=u:=⟨_,rfl⟩
 obtain⟨u19,t19⟩:∃ u,G.tmps.getD 19 undef=u:=⟨_,rfl⟩
 obtain⟨u20,t20⟩:∃ u,G.tmps.getD 20 undef=u:=⟨_,rfl⟩
 obtain⟨u21,t21⟩:∃ u,G.tmps.getD 21 undef=u:=⟨_,rfl⟩
 obtain⟨u22,t22⟩:∃ u,G.tmps.getD 22 undef=u:=⟨_,rfl⟩
 obtain⟨u23,t23⟩:∃ u,G.tmps.getD 23 undef=u:=⟨_,rfl⟩
 obtain⟨tm,df⟩:=G;simp only at *;have hLt:=arr_lit4 tm;rw[hsz]at hLt;simp only[List.range,List.range.loop,List.map]at hLt;rw[s0,t1,t2,s3,s4,s5,s6',t7,t8,t9,t10,t11,t12,t13,t14,t15,t16,t17,t18,t19,t20,t21,t22,t23]at hLt;subst hLt hdf;clear s0 t1 t2 s3 s4 s5 s6' t7 t8 t9 t10 t11 t12 t13 t14 t15 t16 t17 t18 t19 t20 t21 t22 t23 hsz;have HML:=Lib.hid (fun wx (c:CW w F m [(E,pw v),(w.heap.size+1,#[.int .u64 0,.int .u64 0,.int .u64 0,.int .u64 0]),(w.heap.size,pw n)] wx)=>fmul_any F m n v HN.out.1 HN.out.2 wx c.fld);rw[HU.out]at HML;have HNE:=Lib.hid (fun wx=>new_run u 1 HUL.out (by omega) wx)
 go_upto_region 2 with(fail)
 by_cases h1:u=1
 ·rw[show(!decide (u=1))=false from by rw[h1];rfl]at HNE
  refine q_region (CW w F m [(E,pw v),(w.heap.size+1,#[.int .u64 0,.int .u64 0,.int .u64 0,.int .u64 0]),(w.heap.size,pw n)]) H2.out ?_
  with_reducible refine q_val (.pointer (some ⟨F,0,none⟩)) (by kernel_rfl) (fun _ _=>by kernel_rfl) ?_
  with_reducible refine q_load 24 (.tmp 3) (.pointer (some ⟨w.heap.size,0,none⟩)) (.agg (pw n)) rfl (by kernel_rfl) (by kernel_rfl) (fun _ c=>ld_pw (c.is _ _ (by simp))) ?_
  with_reducible refine q_load 24 (.tmp 6) (.pointer (some ⟨E,0,none⟩)) (.agg (pw v)) rfl (by kernel_rfl) (by kernel_rfl) (fun _ c=>ld_pw (c.is _ _ (by simp))) ?_
  with_reducible refine q_call 63 #[.pointer (some ⟨F,0,none⟩),.agg (pw n),.agg (pw v)] (.agg (pw u)) (by kernel_rfl) (fun _=>by kernel_rfl) (CW.calls (fun wx hf=>fmul_any F m n v HN.out.1 HN.out.2 wx hf |>.mono fun e w' hh=>⟨by rw[hh.1,HU.out],hh.2⟩)) ?_
  with_reducible refine q_call 71 #[.int .u64 (1:Nat)] (.agg (pw 1)) (by kernel_rfl) (fun _=>by kernel_rfl) (CW.calls (fun wx _=>of_wv 1 (by omega) wx)) ?_
  with_reducible refine q_bin .neq 24 _ _ 24 (.agg (pw u)) (.agg (pw 1)) (.bool false) rfl (by kernel_rfl) (by kernel_rfl) (by kernel_rfl) (fun _=>by kernel_rfl) (fun w'=>HNE.out w') ?_
  with_reducible refine wpQuiet_nil ?_
  intro wx hC;have HC:=Lib.hid hC;clear hC H2;simp only[Act.put,List.setIfInBounds_toArray,List.set_cons_succ,List.set_cons_zero]
  go_wp2_with (first | (refine wpList_ld rfl 24 _ rfl (.pointer (some ⟨E,0,none⟩)) (.agg (pw v)) rfl (ld_pw (by exact HC.out.is _ _ (by simp))) ?_) | (refine wpList_store_row rfl 24 _ _ rfl (w.heap.size+1) (pw v) rfl rfl 24 (#[.int .u64 0,.int .u64 0,.int .u64 0,.int .u64 0]) (by exact HC.out.is _ _ (by simp)) (by rw[pw_size];exact infoW4) (by first | rfl | (rw[pw_size];rfl) | (rw[pw_size,pw_size])) (pw_one _) ?_))
  refine bodyPost_ret (v:=.tuple #[.agg (pw v),.bool true]) (res_cell_tmp (p:=4) (u:=5) (vb:=.bool true) rfl _ _ (w.heap.size+1) 24 (pw v) (0,0) _ rfl rfl (setRow_heap _ _ _ _ _ _ (HC.out.is (w.heap.size+1) (#[.int .u64 0,.int .u64 0,.int .u64 0,.int .u64 0]) (by simp))) Tryz.underlying24 rfl (by rw[pw_size];exact infoW4)) rfl ⟨rfl,below_setRow HC.out.old (by omega) _⟩
 ·rw[show(!decide (u=1))=true from by simp[h1]]at HNE
  refine q_region (CW w F m [(E,pw v),(w.heap.size+1,#[.int .u64 0,.int .u64 0,.int .u64 0,.int .u64 0]),(w.heap.size,pw n)]) H2.out ?_
  with_reducible refine q_val (.pointer (some ⟨F,0,none⟩)) (by kernel_rfl) (fun _ _=>by kernel_rfl) ?_
  with_reducible refine q_load 24 (.tmp 3) (.pointer (some ⟨w.heap.size,0,none⟩)) (.agg (pw n)) rfl (by kernel_rfl) (by kernel_rfl) (fun _ c=>ld_pw (c.is _ _ (by simp))) ?_
  with_reducible refine q_load 24 (.tmp 6) (.pointer (some ⟨E,0,none⟩)) (.agg (pw v)) rfl (by kernel_rfl) (by kernel_rfl) (fun _ c=>ld_pw (c.is _ _ (by simp))) ?_
  with_reducible refine q_call 63 #[.pointer (some ⟨F,0,none⟩),.agg (pw n),.agg (pw v)] (.agg (pw u)) (by kernel_rfl) (fun _=>by kernel_rfl) (CW.calls (fun wx hf=>fmul_any F m n v HN.out.1 HN.out.2 wx hf |>.mono fun e w' hh=>⟨by rw[hh.1,HU.out],hh.2⟩)) ?_
  with_reducible refine q_call 71 #[.int .u64 (1:Nat)] (.agg (pw 1)) (by kernel_rfl) (fun _=>by kernel_rfl) (CW.calls (fun wx _=>of_wv 1 (by omega) wx)) ?_
  with_reducible refine q_bin .neq 24 _ _ 24 (.agg (pw u)) (.agg (pw 1)) (.bool true) rfl (by kernel_rfl) (by kernel_rfl) (by kernel_rfl) (fun _=>by kernel_rfl) (fun w'=>HNE.out w') ?_
  with_reducible refine wpQuiet_nil ?_
  intro wx hC;have HC:=Lib.hid hC;clear hC H2;simp only[Act.put,List.setIfInBounds_toArray,List.set_cons_succ,List.set_cons_zero]
  go_wp2_with (refine wpList_store_row rfl 24 _ _ rfl (w.heap.size+1) (pw 0) rfl rfl 24 (#[.int .u64 0,.int .u64 0,.int .u64 0,.int .u64 0]) (by exact HC.out.is _ _ (by simp)) (by rw[pw_size];exact infoW4) (by first | rfl | (rw[pw_size];rfl) | (rw[pw_size,pw_size])) (pw_one _) ?_)
  refine bodyPost_ret (v:=.tuple #[.agg (pw 0),.bool false]) (res_cell_tmp (p:=4) (u:=5) (vb:=.bool false) rfl _ _ (w.heap.size+1) 24 (pw 0) (0,0) _ rfl rfl (setRow_heap _ _ _ _ _ _ (HC.out.is (w.heap.size+1) (#[.int .u64 0,.int .u64 0,.int .u64 0,.int .u64 0]) (by simp))) Tryz.underlying24 rfl (by rw[pw_size];exact infoW4)) rfl ⟨rfl,below_setRow HC.out.old (by omega) _⟩
structure CRing (K:Type) where
 add:K->K->K
 mul:K->K->K
 neg:K->K
 zero:K
 one:K
 add_assoc:∀ a b c,add (add a b) c=add a (add b c)
 add_comm:∀ a b,add a b=add b a
 add_zero:∀ a,add a zero=a
 add_neg:∀ a,add a (neg a)=zero
 mul_assoc:∀ a b c,mul (mul a b) c=mul a (mul b c)
 mul_comm:∀ a b,mul a b=mul b a
 mul_one:∀ a,mul a one=a
 mul_add:∀ a b c,mul a (add b c)=add (mul a b) (mul a c)
namespace CRing
variable {K:Type} (C:CRing K)
def sub(a b:K):K:=C.add a (C.neg b)
theorem zero_add(a:K):C.add C.zero a=a:=by rw[C.add_comm,C.add_zero]
theorem one_mul(a:K):C.mul C.one a=a:=by rw[C.mul_comm,C.mul_one]
theorem add_mul(a b c:K):C.mul (C.add a b) c=C.add (C.mul a c) (C.mul b c):=by rw[C.mul_comm,C.mul_add,C.mul_comm c a,C.mul_comm c b]
theorem add_left(a b c:K):C.add a (C.add b c)=C.add b (C.add a c):=by rw[<- C.add_assoc,C.add_comm a b,C.add_assoc]
theorem add_cancel{a b c:K}(h:C.add a c=C.add b c):a=b:=by
 have h2:=congrArg (fun x=>C.add x (C.neg c)) h;simp only[C.add_assoc,C.add_neg,C.add_zero]at h2;exact h2
theorem mul_zero(a:K):C.mul a C.zero=C.zero:=by
 apply C.add_cancel (c:=C.mul a C.zero);rw[<- C.mul_add,C.add_zero,C.zero_add]
theorem zero_mul(a:K):C.mul C.zero a=C.zero:=by rw[C.mul_comm,C.mul_zero]
theorem swap4(a b c d:K):C.add (C.add a b) (C.add c d)=C.add (C.add a c) (C.add b d):=by
 rw[C.add_assoc,C.add_assoc,C.add_left b c d]
theorem sub_add(a b:K):C.add (C.sub a b) b=a:=by
 unfold sub;rw[C.add_assoc,C.add_comm (C.neg b) b,C.add_neg,C.add_zero]
theorem neg_zero:C.neg C.zero=C.zero:=by
 have h:=C.add_neg C.zero;rwa [C.zero_add]at h
theorem mul_neg(a b:K):C.mul a (C.neg b)=C.neg (C.mul a b):=by
 apply C.add_cancel (c:=C.mul a b);rw[<- C.mul_add,C.add_comm (C.neg b) b,C.add_neg,C.mul_zero,C.add_comm,C.add_neg]
def pow(a:K):Nat->K
 | 0=>C.one
 | n+1=>C.mul (pow a n) a
theorem pow_add(a:K)(m:Nat):∀ n,C.pow a (m+n)=C.mul (C.pow a m) (C.pow a n)
 | 0=>(C.mul_one _).symm
 | n+1=>by rw[<- Nat.add_assoc,pow,pow,pow_add a m n,C.mul_assoc]
theorem mul4(a b c d:K):C.mul (C.mul a b) (C.mul c d)=C.mul (C.mul a c) (C.mul b d):=by
 rw[C.mul_assoc,C.mul_assoc,<- C.mul_assoc b c d,C.mul_comm b c,C.mul_assoc c b d]
end CRing
namespace Ex
end Ex
namespace CRing
variable {K:Type} (C:CRing K)
instance addA:Std.Associative C.add:=⟨C.add_assoc⟩
instance addC:Std.Commutative C.add:=⟨C.add_comm⟩
instance mulA:Std.Associative C.mul:=⟨C.mul_assoc⟩
instance mulC:Std.Commutative C.mul:=⟨C.mul_comm⟩
theorem neg_add(a b:K):C.neg (C.add a b)=C.add (C.neg a) (C.neg b):=by
 apply C.add_cancel (c:=C.add a b);rw[C.add_comm,C.add_neg,C.swap4,C.add_comm (C.neg a),C.add_comm (C.neg b),C.add_neg,C.add_neg,C.add_zero]
theorem neg_mul(a b:K):C.mul (C.neg a) b=C.neg (C.mul a b):=by rw[C.mul_comm,C.mul_neg,C.mul_comm]
theorem sub_of{a b c:K}(h:a=C.add b c):C.sub a c=b:=by
 apply C.add_cancel (c:=c);rw[C.sub_add,h]
theorem neg_neg(a:K):C.neg (C.neg a)=a:=by
 apply C.add_cancel (c:=C.neg a);rw[C.add_comm,C.add_neg,C.add_neg]
def ext2(d:K):CRing (K × K) where
 add a b:=(C.add a.1 b.1,C.add a.2 b.2)
 mul a b:=(C.add (C.mul a.1 b.1) (C.mul d (C.mul a.2 b.2)),C.add (C.mul a.1 b.2) (C.mul a.2 b.1))
 neg a:=(C.neg a.1,C.neg a.2)
 zero:=(C.zero,C.zero)
 one:=(C.one,C.zero)
 add_assoc a b c:=Prod.ext (C.add_assoc _ _ _) (C.add_assoc _ _ _)
 add_comm a b:=Prod.ext (C.add_comm _ _) (C.add_comm _ _)
 add_zero a:=Prod.ext (C.add_zero _) (C.add_zero _)
 add_neg a:=Prod.ext (C.add_neg _) (C.add_neg _)
 mul_assoc a b c:=Prod.ext (by dsimp only;simp only[C.mul_add,C.add_mul];ac_rfl) (by dsimp only;simp only[C.mul_add,C.add_mul];ac_rfl)
 mul_comm a b:=Prod.ext (by dsimp only;ac_rfl) (by dsimp only;ac_rfl)
 mul_one a:=Prod.ext (by dsimp only;simp only[C.mul_zero,C.mul_one,C.add_zero]) (by dsimp only;simp only[C.mul_zero,C.mul_one,C.zero_add])
 mul_add a b c:=Prod.ext (by dsimp only;simp only[C.mul_add];ac_rfl) (by dsimp only;simp only[C.mul_add];ac_rfl)
def ext3(d:K):CRing (K × K × K) where
 add a b:=(C.add a.1 b.1,C.add a.2.1 b.2.1,C.add a.2.2 b.2.2)
 mul a b:=(C.add (C.mul a.1 b.1) (C.mul d (C.add (C.mul a.2.1 b.2.2) (C.mul a.2.2 b.2.1))),C.add (C.add (C.mul a.1 b.2.1) (C.mul a.2.1 b.1)) (C.mul d (C.mul a.2.2 b.2.2)),C.add (C.add (C.mul a.1 b.2.2) (C.mul a.2.2 b.1)) (C.mul a.2.1 b.2.1))
 neg a:=(C.neg a.1,C.neg a.2.1,C.neg a.2.2)
 zero:=(C.zero,C.zero,C.zero)
 one:=(C.one,C.zero,C.zero)
 add_assoc a b c:=Prod.ext (C.add_assoc _ _ _) (Prod.ext (C.add_assoc _ _ _) (C.add_assoc _ _ _))
 add_comm a b:=Prod.ext (C.add_comm _ _) (Prod.ext (C.add_comm _ _) (C.add_comm _ _))
 add_zero a:=Prod.ext (C.add_zero _) (Prod.ext (C.add_zero _) (C.add_zero _))
 add_neg a:=Prod.ext (C.add_neg _) (Prod.ext (C.add_neg _) (C.add_neg _))
 mul_assoc a b c:=Prod.ext (by dsimp only;simp only[C.mul_add,C.add_mul];ac_rfl) (Prod.ext (by dsimp only;simp only[C.mul_add,C.add_mul];ac_rfl) (by dsimp only;simp only[C.mul_add,C.add_mul];ac_rfl))
 mul_comm a b:=Prod.ext (by dsimp only;simp only[C.mul_add];ac_rfl) (Prod.ext (by dsimp only;ac_rfl) (by dsimp only;ac_rfl))
 mul_one a:=Prod.ext (by dsimp only;simp only[C.mul_zero,C.mul_one,C.add_zero]) (Prod.ext (by dsimp only;simp only[C.mul_zero,C.mul_one,C.add_zero,C.zero_add]) (by dsimp only;simp only[C.mul_zero,C.mul_one,C.add_zero,C.zero_add]))
 mul_add a b c:=Prod.ext (by dsimp only;simp only[C.mul_add];ac_rfl) (Prod.ext (by dsimp only;simp only[C.mul_add];ac_rfl) (by dsimp only;simp only[C.mul_add];ac_rfl))
section
variable (d:K)
theorem cross(a b c e:K):C.sub (C.mul (C.add a b) (C.add c e)) (C.add (C.mul a c) (C.mul b e))=C.add (C.mul a e) (C.mul b c) :=
 C.sub_of (by simp only[C.mul_add,C.add_mul];ac_rfl)
end
end CRing
structure CField (K:Type) extends CRing K where
 inv:K->K
 mul_inv:∀ a,a≠zero->mul a (inv a)=one
 one_ne:one≠zero
namespace CField
variable {K:Type} (F:CField K)
end CField
def Pr(p:Nat):Prop:=2<=p/\∀ d,d∣p->d=1\/d=p
theorem Pr.coprime{p a:Nat}(h:Pr p)(ha:¬p∣a):Nat.Coprime p a:=by
 rcases h.2 _ (Nat.gcd_dvd_left p a)with h1 | h1
 ·exact h1
 ·exact absurd (h1 ▸ Nat.gcd_dvd_right p a) ha
theorem Pr.dvd_mul{p a b:Nat}(h:Pr p)(hd:p∣a*b):p∣a\/p∣b:=by
 by_cases ha:p∣a
 ·exact .inl ha
 ·exact .inr ((h.coprime ha).dvd_of_dvd_mul_left hd)
theorem has_prime(n:Nat):2<=n->∃ p,Pr p/\p∣n:=by
 induction n using Nat.strongRecOn with
 | _ n ih =>
  intro hn;by_cases h:∃ d,d∣n/\d≠1/\d≠n
  ·obtain⟨d,hd,h1,h2⟩:=h
   have h3:d<=n:=Nat.le_of_dvd (by omega) hd;have h4:d≠0:=by rintro rfl;have:=Nat.eq_zero_of_zero_dvd hd;omega
   obtain⟨p,hp,hpd⟩:=ih d (by omega) (by omega);exact⟨p,hp,Nat.dvd_trans hpd hd⟩
  ·refine⟨n,⟨hn,fun d hd=>?_⟩,Nat.dvd_refl n⟩
   by_cases h1:d=1
   ·exact .inl h1
   ·by_cases h2:d=n
    ·exact .inr h2
    ·exact absurd ⟨d,hd,h1,h2⟩ h
theorem small_prime{n:Nat}(hn:2<=n)(h:∀ p,Pr p->p∣n->n<p*p):Pr n:=by
 refine⟨hn,fun d hd=>?_⟩;by_cases h1:d=1
 ·exact .inl h1
 ·right
  obtain⟨e,rfl⟩:=hd;have hd0:d≠0:=by rintro rfl;simp at hn
  have he0:e≠0:=by rintro rfl;simp at hn
  obtain⟨p,hp,hpd⟩:=has_prime d (by omega);have hp1:=h p hp (Nat.dvd_trans hpd (Nat.dvd_mul_right _ _));have hpl:=Nat.le_of_dvd (by omega) hpd;by_cases e1:e=1
  ·rw[e1,Nat.mul_one]
  ·obtain⟨q,hq,hqe⟩:=has_prime e (by omega)
   have hq1:=h q hq (Nat.dvd_trans hqe (Nat.dvd_mul_left _ _));have hql:=Nat.le_of_dvd (by omega) hqe;exfalso;have h2:p*q<=d*e:=Nat.mul_le_mul hpl hql;rcases Nat.le_total p q with hpq | hpq
   ·have:=Nat.mul_le_mul_left p hpq;omega
   ·have:=Nat.mul_le_mul_right q hpq;omega
-- BINOMIALS
def cho:Nat->Nat->Nat
 | _,0=>1
 | 0,_+1=>0
 | n+1,k+1=>cho n k+cho n (k+1)
theorem cho_zero(n:Nat):cho n 0=1:=by cases n <;> rfl
theorem cho_above:∀ n k,n<k->cho n k=0
 | 0,0,h=>by omega
 | 0,_+1,_=>rfl
 | _+1,0,h=>by omega
 | n+1,k+1,h=>by rw[cho,cho_above n k (by omega),cho_above n (k+1) (by omega)]
theorem cho_self:∀ n,cho n n=1
 | 0=>rfl
 | n+1=>by rw[cho,cho_self n,cho_above n (n+1) (by omega)]
theorem cho_mul:∀ n k,(k+1)*cho (n+1) (k+1)=(n+1)*cho n k
 | 0,0=>rfl
 | 0,k+1=>by rw[cho_above (0+1) (k+1+1) (by omega),cho_above 0 (k+1) (by omega)];simp
 | n+1,0=>by
  have h:=cho_mul n 0;rw[cho_zero]at h;rw[show cho (n+1+1) (0+1)=cho (n+1) 0+cho (n+1) (0+1) from rfl,cho_zero];omega
 | n+1,k+1=>by
  have h1:=cho_mul n k;have h2:=cho_mul n (k+1);have e:cho (n+1) (k+1)=cho n k+cho n (k+1):=by rw[cho]
  rw[show cho (n+1+1) (k+1+1)=cho (n+1) (k+1)+cho (n+1) (k+1+1) by rw[cho]];generalize cho (n+1) (k+1+1)=u at *;generalize cho (n+1) (k+1)=v at *;generalize cho n (k+1)=x at *;generalize cho n k=y at *;have e1:(k+1+1)*(v+u)=(k+1)*v+v+(k+1+1)*u:=by rw[Nat.mul_add,Nat.succ_mul (k+1) v]
  rw[e1,h1,h2,e,Nat.succ_mul (n+1),Nat.mul_add];omega
theorem cho_prime{p k:Nat}(hp:Pr p)(h0:0<k)(hk:k<p):p∣cho p k:=by
 obtain⟨n,rfl⟩:∃ n,p=n+1:=⟨p - 1,by have:=hp.1;omega⟩
 obtain⟨j,rfl⟩:∃ j,k=j+1:=⟨k - 1,by omega⟩
 have h:=cho_mul n j;have hd:n+1∣(j+1)*cho (n+1) (j+1):=by rw[h];exact Nat.dvd_mul_right _ _
 rcases hp.dvd_mul hd with h1 | h1
 ·exact absurd (Nat.le_of_dvd (by omega) h1) (by omega)
 ·exact h1
def bsum(n a:Nat):Nat->Nat
 | 0=>0
 | j+1=>bsum n a j+cho n j*a^j
theorem bsum_next(n a:Nat):∀ j,bsum (n+1) a (j+1)+cho n j*a^(j+1)=(a+1)*bsum n a j+cho n j*a^(j+1)+cho n j*a^j
 | 0=>by simp[bsum,cho_zero];omega
 | j+1=>by
  have h:=bsum_next n a j;have e:cho (n+1) (j+1)=cho n j+cho n (j+1):=by rw[cho]
  have e2:bsum (n+1) a (j+1+1)=bsum (n+1) a (j+1)+cho (n+1) (j+1)*a^(j+1):=rfl;have e3:bsum n a (j+1)=bsum n a j+cho n j*a^j:=rfl;rw[e2,e3,e,Nat.add_mul,Nat.mul_add];have e4:(a+1)*(cho n j*a^j)=cho n j*a^(j+1)+cho n j*a^j:=by
   rw[Nat.add_mul,Nat.one_mul,Nat.pow_succ,Nat.mul_left_comm,Nat.mul_comm a]
  rw[e4];omega
theorem binom(n a:Nat):bsum n a (n+1)=(a+1)^n:=by
 induction n with
 | zero=>simp[bsum,cho]
 | succ n ih =>
  have h:=bsum_next n a (n+1);rw[cho_above n (n+1) (by omega),ih]at h;simp only[Nat.zero_mul,Nat.add_zero]at h;rw[h,Nat.pow_succ,Nat.mul_comm]
theorem bsum_prime{p:Nat}(hp:Pr p)(a:Nat):∀ j,0<j->j<=p->bsum p a j%p=1%p:=by
 intro j
 induction j with
 | zero=>intro h;omega
 | succ j ih =>
  intro _ hj;by_cases h0:j=0
  ·subst h0;simp[bsum,cho_zero]
  ·have h:=ih (by omega) (by omega)
   obtain⟨q,hq⟩:=cho_prime hp (k:=j) (by omega) (by omega);show(bsum p a j+cho p j*a^j)%p=_;rw[hq,Nat.mul_assoc,Nat.add_mul_mod_self_left,h]
-- FERMAT
theorem fermat{p:Nat}(hp:Pr p)(a:Nat):a^p%p=a%p:=by
 induction a with
 | zero=>rw[Nat.zero_pow (by have:=hp.1;omega)]
 | succ a ih =>
  rw[<- binom];show(bsum p a p+cho p p*a^p)%p=_;rw[cho_self,Nat.one_mul,Nat.add_mod,bsum_prime hp a p (by have:=hp.1;omega) (Nat.le_refl _),ih,<- Nat.add_mod,Nat.add_comm]
theorem fermat1{p:Nat}(hp:Pr p)(a:Nat)(ha:¬p∣a):a^(p - 1)%p=1:=by
 have h:=fermat hp a;have h2:=hp.1;obtain⟨n,rfl⟩:∃ n,p=n+1:=⟨p - 1,by omega⟩
 have hge:1<=a^n:=Nat.pow_pos (Nat.pos_of_ne_zero (by rintro rfl;simp at ha));have hd:n+1∣a*(a^n - 1):=by
  have:=Nat.sub_mod_eq_zero_of_mod_eq h;rw[Nat.mul_sub,Nat.mul_one,<- Nat.pow_succ'];exact Nat.dvd_of_mod_eq_zero this
 have h3:=(hp.coprime ha).dvd_of_dvd_mul_left hd;obtain⟨q,hq⟩:=h3;show a^n%(n+1)=1;have:a^n=1+(n+1)*q:=by omega
 rw[this,Nat.add_mul_mod_self_left,Nat.mod_eq_of_lt (by omega)]
theorem one_gcd{p b:Nat}(hp:1<p)(m n:Nat):b^m%p=1->b^n%p=1->b^Nat.gcd m n%p=1:=by
 induction m,n using Nat.gcd.induction with
 | H0 n=>intro _ h;rw[Nat.gcd_zero_left];exact h
 | H1 m n hm ih =>
  intro h1 h2;rw[Nat.gcd_rec];refine ih ?_ h1;have e:b^n=(b^m)^(n / m)*b^(n%m):=by rw[<- Nat.pow_mul,<- Nat.pow_add,Nat.div_add_mod]
  rw[e,Nat.mul_mod,Nat.pow_mod,h1,Nat.one_pow,Nat.mod_eq_of_lt hp,Nat.one_mul,Nat.mod_mod]at h2;exact h2
-- POCKLINGTON
def pwrm(m:Nat):Nat->Nat->Nat->Nat->Nat
 | 0,_,_,r=>r
 | f+1,b,e,r=>if e=0 then r else pwrm m f (b*b%m) (e / 2) (if e%2=1 then r*b%m else r)
theorem pwrm_eq(m:Nat):∀ f b e r,e<2^f->r%m=r->pwrm m f b e r=r*b^e%m
 | 0,b,e,r,h,hr=>by
  obtain rfl:e=0:=by simpa using h
  simp[pwrm,hr]
 | f+1,b,e,r,h,hr=>by
  unfold pwrm;by_cases h0:e=0
  ·simp[h0,hr]
  ·rw[if_neg h0,pwrm_eq m f _ _ _ (by rw[Nat.pow_succ]at h;omega) (by split;exact Nat.mod_mod _ _;exact hr)]
   have e1:(b*b%m)^(e / 2)%m=b^(2*(e / 2))%m:=by rw[<- Nat.pow_mod,Nat.pow_mul,Nat.pow_two]
   rw[Nat.mul_mod,e1];by_cases h1:e%2=1
   ·rw[if_pos h1,Nat.mod_mod,<- Nat.mul_mod,Nat.mul_assoc,<- Nat.pow_succ',show(2*(e / 2)).succ=e by omega]
   ·rw[if_neg h1,<- Nat.mul_mod,show 2*(e / 2)=e by omega]
def pwr(m b e:Nat):Nat:=pwrm m 260 b e (1%m)
theorem pwr_eq(m b e:Nat)(h:e<2^260):pwr m b e=b^e%m:=by
 unfold pwr;rw[pwrm_eq m _ _ _ _ h (Nat.mod_mod _ _),Nat.mul_mod,Nat.mod_mod,<- Nat.mul_mod,Nat.one_mul]
def prodL:List Nat->Nat
 | []=>1
 | q::l=>q*prodL l
def pock(n a:Nat)(qs:List Nat):Bool:=(2<=n)&&(n<2^260)&&(pwr n a (n - 1) == 1)&&qs.all (fun q=>(n - 1)%q == 0&&Nat.gcd (pwr n a ((n - 1) / q)+(n - 1)) n == 1)&&(n<(prodL qs+1)*(prodL qs+1))&&decide qs.Nodup
theorem pock_step{n a q p:Nat}(h2:2<=n)(h3:n<2^260)(h1:pwr n a (n - 1)=1)(hq:Pr q)(hqd:(n - 1)%q=0)(hg:Nat.gcd (pwr n a ((n - 1) / q)+(n - 1)) n=1)(hp:Pr p)(hpn:p∣n):q∣p - 1:=by
 rw[pwr_eq _ _ _ (by omega)]at h1;have hle:(n - 1) / q<=n - 1:=Nat.div_le_self _ _;rw[pwr_eq _ _ _ (by omega)]at hg;obtain⟨b,hb⟩:∃ b,a^((n - 1) / q)=b:=⟨_,rfl⟩
 rw[hb]at hg;have hbq:b^q=a^(n - 1):=by rw[<- hb,<- Nat.pow_mul,Nat.div_mul_cancel (Nat.dvd_of_mod_eq_zero hqd)]
 have hp2:=hp.1;have hmm:∀ x,x%n%p=x%p:=fun x=>Nat.mod_mod_of_dvd x hpn;have hbq1:b^q%p=1:=by rw[hbq,<- hmm,h1,Nat.mod_eq_of_lt (by omega)]
 have hpb:¬p∣b:=fun h=>by
  have h4:p∣b^q:=Nat.dvd_trans h (by obtain⟨k,rfl⟩:∃ k,q=k+1:=⟨q - 1,by have:=hq.1;omega⟩;rw[Nat.pow_succ];exact Nat.dvd_mul_left _ _);have:=Nat.mod_eq_zero_of_dvd h4;omega
 have hbp:=fermat1 hp b hpb;by_cases hd:q∣p - 1
 ·exact hd
 ·exfalso
  have hc:=one_gcd (by omega) q (p - 1) hbq1 hbp;rw[show Nat.gcd q (p - 1)=1 from hq.coprime hd,Nat.pow_one]at hc;have h5:p∣b%n+(n - 1):=by
   apply Nat.dvd_of_mod_eq_zero;obtain⟨k,hk⟩:=hpn;rw[Nat.add_mod,hmm,hc];have e:n - 1=(p - 1)+p*(k - 1):=by
    have hk0:k≠0:=by rintro rfl;simp at hk;omega
    obtain⟨j,rfl⟩:∃ j,k=j+1:=⟨k - 1,by omega⟩
    rw[hk,Nat.mul_add,Nat.add_sub_cancel];omega
   rw[e,Nat.add_mul_mod_self_left,Nat.mod_eq_of_lt (show p - 1<p by omega),show 1+(p - 1)=p by omega,Nat.mod_self]
  have h6:=Nat.dvd_gcd h5 hpn;rw[hg]at h6;have:=Nat.le_of_dvd (by omega) h6;omega
theorem prodL_dvd{m:Nat}:∀ l:List Nat,l.Nodup->(∀ q∈l,Pr q)->(∀ q∈l,q∣m)->prodL l∣m/\∀ x,Pr x->x ∉ l->Nat.Coprime x (prodL l)
 | [],_,_,_=>⟨Nat.one_dvd _,fun x _ _=>Nat.coprime_one_right x⟩
 | q::l,hn,hp,hd=>by
  rw[List.nodup_cons]at hn;obtain⟨h1,h2⟩:=prodL_dvd l hn.2 (fun q h=>hp q (.tail _ h)) (fun q h=>hd q (.tail _ h));have hq:=hp q (.head _);refine⟨Nat.Coprime.mul_dvd_of_dvd_of_dvd (h2 q hq hn.1) (hd q (.head _)) h1,fun x hx hxl=>?_⟩;refine Nat.Coprime.mul_right (hx.coprime fun h=>?_) (h2 x hx fun h=>hxl (.tail _ h));rcases hq.2 x h with h3 | h3
  ·have:=hx.1;omega
  ·exact hxl (h3 ▸ .head _)
theorem pocklington(n a:Nat)(qs:List Nat)(h:pock n a qs=true)(hqs:∀ q∈qs,Pr q):Pr n:=by
 unfold pock at h;simp only[Bool.and_eq_true,decide_eq_true_eq,beq_iff_eq,List.all_eq_true]at h;obtain⟨⟨⟨⟨⟨h2,h3⟩,h1⟩,hq⟩,hs⟩,hn⟩:=h;refine small_prime h2 fun p hp hpn=>?_;have hd:=(prodL_dvd (m:=p - 1) qs hn hqs (fun q hm=>pock_step h2 h3 h1 (hqs q hm) (hq q hm).1 (hq q hm).2 hp hpn)).1;have hp2:=hp.1;have hle:=Nat.le_of_dvd (by omega) hd;have:=Nat.mul_le_mul (show prodL qs+1<=p by omega) (show prodL qs+1<=p by omega);omega
def trial(n:Nat):Nat->Bool
 | 0=>true
 | k+1=>(k<2||n%k != 0)&&trial n k
theorem trial_at(n:Nat):∀ k,trial n k=true->∀ d,2<=d->d<k->n%d≠0
 | 0,_,d,_,h=>by omega
 | k+1,h,d,h2,hd=>by
  unfold trial at h;simp only[Bool.and_eq_true,Bool.or_eq_true,decide_eq_true_eq,bne_iff_ne]at h;by_cases e:d=k
  ·subst e
   rcases h.1 with h1 | h1
   ·omega
   ·exact h1
  ·exact trial_at n k h.2 d h2 (by omega)
theorem tried(n k:Nat)(h2:2<=n)(hk:n<k*k)(h:trial n k=true):Pr n:=by
 refine small_prime h2 fun p hp hpn=>?_;have hp2:=hp.1;by_cases e:p<k
 ·exact absurd (Nat.mod_eq_zero_of_dvd hpn) (trial_at n k h p hp2 e)
 ·have:=Nat.mul_le_mul (show k<=p by omega) (show k<=p by omega)
  omega
theorem prm_127:Pr 127:=tried 127 12 (by decide) (by decide) (by decide +kernel)
theorem prm_3557:Pr 3557:=pocklington 3557 2 [127] (by decide +kernel) (by intro q hq;simp only[List.mem_cons,List.not_mem_nil,or_false]at hq;rcases hq with rfl <;> first | exact prm_127)
theorem prm_911:Pr 911:=tried 911 31 (by decide) (by decide) (by decide +kernel)
theorem prm_1263766531:Pr 1263766531:=pocklington 1263766531 2 [3557,911] (by decide +kernel) (by intro q hq;simp only[List.mem_cons,List.not_mem_nil,or_false]at hq;rcases hq with rfl | rfl <;> first | exact prm_3557 | exact prm_911)
theorem prm_35385462869:Pr 35385462869:=pocklington 35385462869 2 [1263766531] (by decide +kernel) (by intro q hq;simp only[List.mem_cons,List.not_mem_nil,or_false]at hq;rcases hq with rfl <;> first | exact prm_1263766531)
theorem prm_2480874801745591:Pr 2480874801745591:=pocklington 2480874801745591 2 [35385462869] (by decide +kernel) (by intro q hq;simp only[List.mem_cons,List.not_mem_nil,or_false]at hq;rcases hq with rfl <;> first | exact prm_35385462869)
theorem prm_37:Pr 37:=tried 37 7 (by decide) (by decide) (by decide +kernel)
theorem prm_5:Pr 5:=tried 5 3 (by decide) (by decide) (by decide +kernel)
theorem prm_2221:Pr 2221:=pocklington 2221 2 [37,5] (by decide +kernel) (by intro q hq;simp only[List.mem_cons,List.not_mem_nil,or_false]at hq;rcases hq with rfl | rfl <;> first | exact prm_37 | exact prm_5)
theorem prm_13327:Pr 13327:=pocklington 13327 2 [2221] (by decide +kernel) (by intro q hq;simp only[List.mem_cons,List.not_mem_nil,or_false]at hq;rcases hq with rfl <;> first | exact prm_2221)
theorem prm_173171039:Pr 173171039:=pocklington 173171039 2 [13327] (by decide +kernel) (by intro q hq;simp only[List.mem_cons,List.not_mem_nil,or_false]at hq;rcases hq with rfl <;> first | exact prm_13327)
theorem prm_13427688667394608761327070753331941386769:Pr 13427688667394608761327070753331941386769:=pocklington 13427688667394608761327070753331941386769 2 [2480874801745591,173171039] (by decide +kernel) (by intro q hq;simp only[List.mem_cons,List.not_mem_nil,or_false]at hq;rcases hq with rfl | rfl <;> first | exact prm_2480874801745591 | exact prm_173171039)
theorem prm_21888242871839275222246405745257275088696311157297823662689037894645226208583:Pr 21888242871839275222246405745257275088696311157297823662689037894645226208583:=pocklington 21888242871839275222246405745257275088696311157297823662689037894645226208583 2 [13427688667394608761327070753331941386769] (by decide +kernel) (by intro q hq;simp only[List.mem_cons,List.not_mem_nil,or_false]at hq;rcases hq with rfl <;> first | exact prm_13427688667394608761327070753331941386769)
end Go.Proofs.YthnckclbeecnmaaGreat
