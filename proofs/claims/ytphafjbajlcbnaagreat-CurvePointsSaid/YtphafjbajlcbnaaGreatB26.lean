/- The program's curve, by values told by letters: its types, what lies at slices, the field's own calls. (Cut to what is reached, written closely: FInv · SyT.) -/
import Derived.Test.YtphafjbajlcbnaaGreatB25
import Derived.Test.YtphafjbajlcbnaaGreatB23
import Derived.Test.YtphafjbajlcbnaaGreatB17
set_option linter.all false
set_option maxRecDepth 100000
set_option maxHeartbeats 8000000
namespace Go.Proofs.YtphafjbajlcbnaaGreat
open Go.RowKit
theorem CW.rowed2{w wx:World}{F m a g:Nat}{cs:Array Value}(c:CW w F m [(w.heap.size+1,#[.int .u64 0,.int .u64 0,.int .u64 0,.int .u64 0]),(w.heap.size,pw a)] wx)(hg:w.heap.size+2<=g):CW w F m [(w.heap.size+1,#[.int .u64 0,.int .u64 0,.int .u64 0,.int .u64 0]),(w.heap.size,pw a)] (wx.setRow g cs):=by
 have hF:=c.hF;refine⟨below_setRow c.old τ _,Fu c.fld τ,hF,fun p hp=>(setRow_other _ _ _ _ ?_).trans (c.rows p hp)⟩;simp only[List.mem_cons,List.not_mem_nil,or_false]at hp;rcases hp with rfl | rfl
 ·show w.heap.size+1≠g;omega
 ·show w.heap.size≠g;omega
theorem CW.high2{w wx:World}{F m a:Nat}(c:CW w F m [(w.heap.size+1,#[.int .u64 0,.int .u64 0,.int .u64 0,.int .u64 0]),(w.heap.size,pw a)] wx):w.heap.size+2<=wx.heap.size:=(Array.getElem?_eq_some_iff.1 (c.is (w.heap.size+1) (#[.int .u64 0,.int .u64 0,.int .u64 0,.int .u64 0]) υ)).1
theorem Hf{P:Program}{fn:Func}{p u:Tmp}{ty:TypeId}{vb:Value}(h:fn.results=#[.cell p ty,.tmp u])(tmps:Array Value)(w:World)(g:Nat)(t:TypeId)(cs:Array Value)(fr:Nat × Nat)(d:TypeDesc)
  (hp:tmps.getD p undef=.pointer (some ⟨g,0,none⟩)) (hb:tmps.getD u undef=vb) (hg:w.heap[g]?=some (.cells cs t fr))
  (hu:P.underlying ty=some d) (hd:(match d with | .struct _ | .array _ _=>true | _=>false)=true) (hi:(P.info? ty).map (·.size)=some cs.size) :
  (results fn tmps).run P w=.ok (.tuple #[.agg cs,vb]) w:=by
 have hp':tmps[p]?.getD undef=.pointer (some ⟨g,0,none⟩):=by simpa using hp
 have hb':tmps[u]?.getD undef=vb:=by simpa using hb
 simp[results,h,hp',hb',asAddr,run_loadVar_row w g t ty cs fr d hg hu hd hi]
theorem A3h{m:Nat}(h1:1<m)(hm:m<2^256):pw (m+(2^256 - 2))=pw (m - 2):=Dx τ
-- WHAT Inv COMES TO.
theorem VD(F m n:Nat)(ha:n<2^256)(w:World)(hF:FldAt w F m):Calls Tryz.prog 81 #[.pointer (some ⟨F,0,none⟩),.agg (pw n)] w fun e w'=>e=.returned (.tuple #[.agg (pw (if n*(n^(m - 2)%m)%m=1 then n^(m - 2)%m else 0)),.bool (decide (n*(n^(m - 2)%m)%m=1))])/\Below w.heap.size w w':=by
 have H0:=Lib.hid (CW.one hF n);have HO:=Lib.hid (And.intro hF.odd (And.intro hF.big hF.lt));have HEX:=Lib.hid (fun wx (c:CW w F m [(w.heap.size+1,#[.int .u64 0,.int .u64 0,.int .u64 0,.int .u64 0]),(w.heap.size,pw n)] wx)=>VC F m n (m - 2) ha (by have:=hF.lt;omega) wx c.fld);have HSB:=Lib.hid (fun wx=>UT m 2 τ wx);rw[A3h hF.big hF.lt]at HSB;have hil:n^(m - 2)%m<m:=Nat.mod_lt _ (by have:=hF.big;omega);obtain⟨v,hv⟩:∃ v,n^(m - 2)%m=v:=⟨_,rfl⟩
 rw[hv]at HEX hil |-
 obtain⟨u,hu⟩:∃ u,n*v%m=u:=⟨_,rfl⟩
 have HUL:=Lib.hid (show u<2^256 from by rw[<- hu];exact Nat.lt_trans (Nat.mod_lt _ (by have:=hF.big;omega)) hF.lt);have HU:=Lib.hid hu;rw[hu];have HN:=Lib.hid (And.intro ha (Nat.lt_trans hil hF.lt));clear hF ha hil hv hu;go_enter Tryz.func81,Tryz.ntmps81
 go_wp2_with fail
 refine BU (CW w F m [(w.heap.size+1,#[.int .u64 0,.int .u64 0,.int .u64 0,.int .u64 0]),(w.heap.size,pw n)]) (fun i s wx=>match i with | 0=>s 7=(.pointer (some ⟨F,0,none⟩)) | 1=>s 8=(.agg (pw n)) | 2=>s 9=(.pointer (some ⟨F,0,none⟩)) | 3=>s 10=(.pointer (some ⟨F,0,none⟩)) | 4=>s 11=(.pointer (some ⟨F,0,none⟩)) | 5=>s 12=(.agg (pw m)) | 6=>s 13=(.agg (pw 2)) | 7=>s 14=(.agg (pw (m - 2))) | 8=>s 15=(.agg (pw v)) | 9=>∃ D,s 6=.pointer (some ⟨D,0,none⟩)/\(w.heap.size+2)<=D/\∃ cs:Array Value,wx.heap[D]?=some (.cells cs 24 (0,0))/\cs.size=4 | 10=>∃ D,s 6=.pointer (some ⟨D,0,none⟩)/\(w.heap.size+2)<=D/\wx.heap[D]?=some (.cells (FW v 24) 24 (0,0)) | _=>True) (RT (w.heap.size+2) (FW v)) (fun i=>match i with | 0=>[7] | 1=>[8] | 2=>[9] | 3=>[10] | 4=>[11] | 5=>[12] | 6=>[13] | 7=>[14] | 8=>[15] | 9=>[6] | 10=>[6] | _=>[]) (fun i=>i) ω ω H0.out.drew ?_ ?_ ?_ ?_
 ·intro i s s' wx he hp
  match i,he,hp with
  | 0,he,hp=>exact(he 7 υ).symm.trans hp
  | 1,he,hp=>exact(he 8 υ).symm.trans hp
  | 2,he,hp=>exact(he 9 υ).symm.trans hp
  | 3,he,hp=>exact(he 10 υ).symm.trans hp
  | 4,he,hp=>exact(he 11 υ).symm.trans hp
  | 5,he,hp=>exact(he 12 υ).symm.trans hp
  | 6,he,hp=>exact(he 13 υ).symm.trans hp
  | 7,he,hp=>exact(he 14 υ).symm.trans hp
  | 8,he,hp=>exact(he 15 υ).symm.trans hp
  | 9,he,hp=>obtain⟨D,h1,h2⟩:=hp;exact⟨D,(he 6 υ).symm.trans h1,h2⟩
  | 10,he,hp=>obtain⟨D,h1,h2⟩:=hp;exact⟨D,(he 6 υ).symm.trans h1,h2⟩
  | _+11,_,_=>trivial
 ·intro i s wa wb hR hp
  match i,hp with
  | 0,hp=>exact hp
  | 1,hp=>exact hp
  | 2,hp=>exact hp
  | 3,hp=>exact hp
  | 4,hp=>exact hp
  | 5,hp=>exact hp
  | 6,hp=>exact hp
  | 7,hp=>exact hp
  | 8,hp=>exact hp
  | 9,hp=>obtain⟨D,h1,h2,cs,h3,h4⟩:=hp;obtain⟨cs',h5,h6⟩:=hR.shape _ _ _ _ h3;exact⟨D,h1,h2,cs',h5,h6.trans h4⟩
  | 10,hp=>obtain⟨D,h1,h2,h3⟩:=hp;exact⟨D,h1,h2,hR.keep _ _ _ h3⟩
  | _+11,_=>trivial
 ·refine⟨?_,?_,?_,?_,?_,?_,?_,?_,?_,?_,?_,trivial⟩
  ·intro a wx hC hsz hK
   have h0:a.tmps.getD 0 undef=(.pointer (some ⟨F,0,none⟩)):=hK.1 0 ω;exact AU ((.pointer (some ⟨F,0,none⟩))) ω (by rw[<- h0];kernel_rfl) hC (A8 _ _ _ (by rw[hsz];exact of_decide_eq_true ω)) (RT.refl _ _ _)
  ·intro a wx hC hsz hK
   have h0:a.tmps.getD 3 undef=(.pointer (some ⟨w.heap.size,0,none⟩)):=hK.1 3 ω;exact Bj 24 (.tmp 3) ((.pointer (some ⟨w.heap.size,0,none⟩))) ((.agg (pw n))) rfl ω h0 (Ad (hC.is _ _ υ)) hC (A8 _ _ _ (by rw[hsz];exact of_decide_eq_true ω)) (RT.refl _ _ _)
  ·intro a wx hC hsz hK
   have h0:a.tmps.getD 0 undef=(.pointer (some ⟨F,0,none⟩)):=hK.1 0 ω;exact AU ((.pointer (some ⟨F,0,none⟩))) ω (by rw[<- h0];kernel_rfl) hC (A8 _ _ _ (by rw[hsz];exact of_decide_eq_true ω)) (RT.refl _ _ _)
  ·intro a wx hC hsz hK
   have h0:a.tmps.getD 9 undef=(.pointer (some ⟨F,0,none⟩)):=hK.2 ⟨2,.data⟩ υ rfl _ rfl;exact AU (.pointer (some ⟨F,0,none⟩)) ω (Ao (.tmp 9) _ rfl (by rw[<- h0];kernel_rfl)) hC (A8 _ _ _ (by rw[hsz];exact of_decide_eq_true ω)) (RT.refl _ _ _)
  ·intro a wx hC hsz hK
   have h0:a.tmps.getD 10 undef=(.pointer (some ⟨F,0,none⟩)):=hK.2 ⟨3,.data⟩ υ rfl _ rfl;refine IV (Instr.fieldAt 103 (a.tmps.getD 10 undef) 0) ((.pointer (some ⟨F,0,none⟩))) ω ω ?_ hC (A8 _ _ _ (by rw[hsz];exact of_decide_eq_true ω)) (RT.refl _ _ _);rw[h0];exact DX F wx
  ·intro a wx hC hsz hK
   have h0:a.tmps.getD 11 undef=(.pointer (some ⟨F,0,none⟩)):=hK.2 ⟨4,.data⟩ υ rfl _ rfl;exact Bj 24 (.tmp 11) ((.pointer (some ⟨F,0,none⟩))) ((.agg (pw m))) rfl ω h0 (Lv hC.fld) hC (A8 _ _ _ (by rw[hsz];exact of_decide_eq_true ω)) (RT.refl _ _ _)
  ·intro a wx hC hsz hK
   refine Bf 70 #[(.int .u64 (2:Nat))] ω ω ?_;exact(FL 2 τ wx).mono fun e w' hh=>⟨_,hh.1,hC.below hh.2,(A8 _ _ _ (by rw[hsz];exact of_decide_eq_true ω)),RT.of hC.high2 hh.2⟩
  ·intro a wx hC hsz hK
   have h0:a.tmps.getD 12 undef=(.agg (pw m)):=hK.2 ⟨5,.data⟩ υ rfl _ rfl;have h1:a.tmps.getD 13 undef=(.agg (pw 2)):=hK.2 ⟨6,.data⟩ υ rfl _ rfl;refine Bf 98 #[a.tmps.getD 12 undef,a.tmps.getD 13 undef] ω ω ?_;rw[h0,h1];exact(HSB.out wx).mono fun e w' hh=>⟨_,hh.1,hC.below hh.2,(A8 _ _ _ (by rw[hsz];exact of_decide_eq_true ω)),RT.of hC.high2 hh.2⟩
  ·intro a wx hC hsz hK
   have h0:a.tmps.getD 7 undef=(.pointer (some ⟨F,0,none⟩)):=hK.2 ⟨0,.data⟩ υ rfl _ rfl;have h1:a.tmps.getD 8 undef=(.agg (pw n)):=hK.2 ⟨1,.data⟩ υ rfl _ rfl;have h2:a.tmps.getD 14 undef=(.agg (pw (m - 2))):=hK.2 ⟨7,.data⟩ υ rfl _ rfl;refine Bf 71 #[a.tmps.getD 7 undef,a.tmps.getD 8 undef,a.tmps.getD 14 undef] ω ω ?_;rw[h0,h1,h2];exact(HEX.out wx hC).mono fun e w' hh=>⟨_,hh.1,hC.below hh.2,(A8 _ _ _ (by rw[hsz];exact of_decide_eq_true ω)),RT.of hC.high2 hh.2⟩
  ·intro a wx hC hsz hK
   exact Ep (.pointer (some ⟨wx.heap.size,0,none⟩)) ω ω (hC.below ((Below.refl _ _).alloc (Nat.le_refl _) _)) ⟨_,(A8 _ _ _ (by rw[hsz];exact of_decide_eq_true ω)),hC.high2,#[.int .u64 0,.int .u64 0,.int .u64 0,.int .u64 0],heap_alloc_new _ _,rfl⟩ (RT.of hC.high2 ((Below.refl _ _).alloc (Nat.le_refl _) _))
  ·intro a wx hC hsz hK
   obtain⟨D,h1,h2,cs,h3,h4⟩:=hK.2 ⟨9,.data⟩ υ rfl _ rfl;have h0:a.tmps.getD 15 undef=(.agg (pw v)):=hK.2 ⟨8,.data⟩ υ rfl _ rfl;exact BB ω rfl (run_store 24 (.tmp 6) (.tmp 15) _ _ rfl h1 h0 (BS h4 h3)) (hC.rowed2 h2) ⟨D,h1,h2,setRow_heap _ _ _ _ _ _ h3⟩ (RT.row h2 h3 (by rw[h4];rfl))
 intro f1 w5 hC hf1;obtain⟨E,s6,hE,hrE⟩:=hf1 10 _ rfl;have H2:=Lib.hid (show CW w F m [(E,pw v),(w.heap.size+1,#[.int .u64 0,.int .u64 0,.int .u64 0,.int .u64 0]),(w.heap.size,pw n)] w5 from⟨hC.old,hC.fld,hC.hF,fun p hp=>by
  rcases List.mem_cons.1 hp with rfl | hp
  ·exact hrE
  ·exact hC.rows p hp⟩)
 have HE:=Lib.hid hE;clear hC hE hrE H0 HSB HEX;generalize hAct:Aj _ _ _=G at *;have s0:G.tmps.getD 0 undef=.pointer (some ⟨F,0,none⟩):=by subst hAct;kernel_rfl
 have s3:G.tmps.getD 3 undef=.pointer (some ⟨w.heap.size,0,none⟩):=by subst hAct;kernel_rfl
 have s4:G.tmps.getD 4 undef=.pointer (some ⟨w.heap.size+1,0,none⟩):=by subst hAct;kernel_rfl
 have s5:G.tmps.getD 5 undef=.bool false:=by subst hAct;kernel_rfl
 have s6':G.tmps.getD 6 undef=.pointer (some ⟨E,0,none⟩):=s6;have hsz:G.tmps.size=24:=by rw[<- hAct,Az];rfl
 have hdf:G.defers=[]:=by subst hAct;kernel_rfl
 clear hAct s6 hf1;obtain⟨u1,t1⟩:∃ u,G.tmps.getD 1 undef=u:=⟨_,rfl⟩
 obtain⟨u2,t2⟩:∃ u,G.tmps.getD 2 undef=u:=⟨_,rfl⟩
 obtain⟨u7,t7⟩:∃ u,G.tmps.getD 7 undef=u:=⟨_,rfl⟩
 obtain⟨u8,t8⟩:∃ u,G.tmps.getD 8 undef=u:=⟨_,rfl⟩
 obtain⟨u9,t9⟩:∃ u,G.tmps.getD 9 undef=u:=⟨_,rfl⟩
 obtain⟨u10,t10⟩:∃ u,G.tmps.getD 10 undef=u:=⟨_,rfl⟩
 obtain⟨u11,t11⟩:∃ u,G.tmps.getD 11 undef=u:=⟨_,rfl⟩
 obtain⟨u12,t12⟩:∃ u,G.tmps.getD 12 undef=u:=⟨_,rfl⟩
 obtain⟨u13,t13⟩:∃ u,G.tmps.getD 13 undef=u:=⟨_,rfl⟩
 obtain⟨u14,t14⟩:∃ u,G.tmps.getD 14 undef=u:=⟨_,rfl⟩
 obtain⟨u15,t15⟩:∃ u,G.tmps.getD 15 undef=u:=⟨_,rfl⟩
 obtain⟨u16,t16⟩:∃ u,G.tmps.getD 16 undef=u:=⟨_,rfl⟩
 obtain⟨u17,t17⟩:∃ u,G.tmps.getD 17 undef=u:=⟨_,rfl⟩
 obtain⟨u18,t18⟩:∃ u,G.tmps.getD 18 undef=u:=⟨_,rfl⟩
 obtain⟨u19,t19⟩:∃ u,G.tmps.getD 19 undef=u:=⟨_,rfl⟩
 obtain⟨u20,t20⟩:∃ u,G.tmps.getD 20 undef=u:=⟨_,rfl⟩
 obtain⟨u21,t21⟩:∃ u,G.tmps.getD 21 undef=u:=⟨_,rfl⟩
 obtain⟨u22,t22⟩:∃ u,G.tmps.getD 22 undef=u:=⟨_,rfl⟩
 obtain⟨u23,t23⟩:∃ u,G.tmps.getD 23 undef=u:=⟨_,rfl⟩
 obtain⟨tm,df⟩:=G;simp only at *;have hLt:=JE tm;rw[hsz]at hLt;simp only[List.range,List.range.loop,List.map]at hLt;rw[s0,t1,t2,s3,s4,s5,s6',t7,t8,t9,t10,t11,t12,t13,t14,t15,t16,t17,t18,t19,t20,t21,t22,t23]at hLt;subst hLt hdf;clear s0 t1 t2 s3 s4 s5 s6' t7 t8 t9 t10 t11 t12 t13 t14 t15 t16 t17 t18 t19 t20 t21 t22 t23 hsz;have HML:=Lib.hid (fun wx (c:CW w F m [(E,pw v),(w.heap.size+1,#[.int .u64 0,.int .u64 0,.int .u64 0,.int .u64 0]),(w.heap.size,pw n)] wx)=>Ee F m n v HN.out.1 HN.out.2 wx c.fld);rw[HU.out]at HML;have HNE:=Lib.hid (fun wx=>J6 u 1 HUL.out τ wx)
 go_upto_region 2 with(fail)
 by_cases h1:u=1
 ·rw[show(!decide (u=1))=false from by rw[h1];rfl]at HNE
  refine F3 (CW w F m [(E,pw v),(w.heap.size+1,#[.int .u64 0,.int .u64 0,.int .u64 0,.int .u64 0]),(w.heap.size,pw n)]) H2.out ?_
  with_reducible refine q_val (.pointer (some ⟨F,0,none⟩)) ω (fun _ _=>by kernel_rfl) ?_
  with_reducible refine Ac 24 (.tmp 3) (.pointer (some ⟨w.heap.size,0,none⟩)) (.agg (pw n)) rfl ω ω (fun _ c=>Ad (c.is _ _ υ)) ?_
  with_reducible refine Ac 24 (.tmp 6) (.pointer (some ⟨E,0,none⟩)) (.agg (pw v)) rfl ω ω (fun _ c=>Ad (c.is _ _ υ)) ?_
  with_reducible refine Ah 72 #[.pointer (some ⟨F,0,none⟩),.agg (pw n),.agg (pw v)] (.agg (pw u)) ω (fun _=>by kernel_rfl) (CW.calls (fun wx hf=>Ee F m n v HN.out.1 HN.out.2 wx hf |>.mono fun e w' hh=>⟨by rw[hh.1,HU.out],hh.2⟩)) ?_
  with_reducible refine Ah 70 #[.int .u64 (1:Nat)] (.agg (pw 1)) ω (fun _=>by kernel_rfl) (CW.calls (fun wx _=>FL 1 τ wx)) ?_
  with_reducible refine Ce .neq 24 _ _ 24 (.agg (pw u)) (.agg (pw 1)) (.bool false) rfl ω ω ω (fun _=>by kernel_rfl) (fun w'=>HNE.out w') ?_
  with_reducible refine wpQuiet_nil ?_
  intro wx hC;have HC:=Lib.hid hC;clear hC H2;simp only[Act.put,List.setIfInBounds_toArray,List.set_cons_succ,List.set_cons_zero]
  go_wp2_with (first | (refine Ae rfl 24 _ rfl (.pointer (some ⟨E,0,none⟩)) (.agg (pw v)) rfl (Ad (by exact HC.out.is _ _ υ)) ?_) | (refine wpList_store_row rfl 24 _ _ rfl (w.heap.size+1) (pw v) rfl rfl 24 (#[.int .u64 0,.int .u64 0,.int .u64 0,.int .u64 0]) (by exact HC.out.is _ _ υ) (by rw[A7];exact Ab) (by first | rfl | (rw[A7];rfl) | (rw[A7,A7])) (Ag _) ?_))
  refine bodyPost_ret (v:=.tuple #[.agg (pw v),.bool true]) (Hf (p:=4) (u:=5) (vb:=.bool true) rfl _ _ (w.heap.size+1) 24 (pw v) (0,0) _ rfl rfl (setRow_heap _ _ _ _ _ _ (HC.out.is (w.heap.size+1) (#[.int .u64 0,.int .u64 0,.int .u64 0,.int .u64 0]) υ)) Tryz.underlying24 rfl (by rw[A7];exact Ab)) rfl ⟨rfl,below_setRow HC.out.old τ _⟩
 ·rw[show(!decide (u=1))=true from by simp[h1]]at HNE
  refine F3 (CW w F m [(E,pw v),(w.heap.size+1,#[.int .u64 0,.int .u64 0,.int .u64 0,.int .u64 0]),(w.heap.size,pw n)]) H2.out ?_
  with_reducible refine q_val (.pointer (some ⟨F,0,none⟩)) ω (fun _ _=>by kernel_rfl) ?_
  with_reducible refine Ac 24 (.tmp 3) (.pointer (some ⟨w.heap.size,0,none⟩)) (.agg (pw n)) rfl ω ω (fun _ c=>Ad (c.is _ _ υ)) ?_
  with_reducible refine Ac 24 (.tmp 6) (.pointer (some ⟨E,0,none⟩)) (.agg (pw v)) rfl ω ω (fun _ c=>Ad (c.is _ _ υ)) ?_
  with_reducible refine Ah 72 #[.pointer (some ⟨F,0,none⟩),.agg (pw n),.agg (pw v)] (.agg (pw u)) ω (fun _=>by kernel_rfl) (CW.calls (fun wx hf=>Ee F m n v HN.out.1 HN.out.2 wx hf |>.mono fun e w' hh=>⟨by rw[hh.1,HU.out],hh.2⟩)) ?_
  with_reducible refine Ah 70 #[.int .u64 (1:Nat)] (.agg (pw 1)) ω (fun _=>by kernel_rfl) (CW.calls (fun wx _=>FL 1 τ wx)) ?_
  with_reducible refine Ce .neq 24 _ _ 24 (.agg (pw u)) (.agg (pw 1)) (.bool true) rfl ω ω ω (fun _=>by kernel_rfl) (fun w'=>HNE.out w') ?_
  with_reducible refine wpQuiet_nil ?_
  intro wx hC;have HC:=Lib.hid hC;clear hC H2;simp only[Act.put,List.setIfInBounds_toArray,List.set_cons_succ,List.set_cons_zero]
  go_wp2_with (refine wpList_store_row rfl 24 _ _ rfl (w.heap.size+1) (pw 0) rfl rfl 24 (#[.int .u64 0,.int .u64 0,.int .u64 0,.int .u64 0]) (by exact HC.out.is _ _ υ) (by rw[A7];exact Ab) (by first | rfl | (rw[A7];rfl) | (rw[A7,A7])) (Ag _) ?_)
  refine bodyPost_ret (v:=.tuple #[.agg (pw 0),.bool false]) (Hf (p:=4) (u:=5) (vb:=.bool false) rfl _ _ (w.heap.size+1) 24 (pw 0) (0,0) _ rfl rfl (setRow_heap _ _ _ _ _ _ (HC.out.is (w.heap.size+1) (#[.int .u64 0,.int .u64 0,.int .u64 0,.int .u64 0]) υ)) Tryz.underlying24 rfl (by rw[A7];exact Ab)) rfl ⟨rfl,below_setRow HC.out.old τ _⟩
end Go.Proofs.YtphafjbajlcbnaaGreat
namespace Go.Proofs.YtphafjbajlcbnaaGreat.Sy
open Go.RowKit
def A1M(m:Nat):SV:=.ap (.i .u64 (frw m 0:Nat)) (.ap (.i .u64 (frw m 1:Nat)) (.ap (.i .u64 (frw m 2:Nat)) (.ap (.i .u64 (frw m 3:Nat)) (.ap (.i .u64 (frw m 4:Nat)) (.ap (.i .u64 (frw m 5:Nat)) (.ap (.i .u64 (frw m 6:Nat)) (.ap (.i .u64 (frw m 7:Nat)) (.ap (.i .u64 (frw m 8:Nat)) .e))))))))
def isF(ext:Bool)(m:Nat)(M:Rows):SV->Option (List Ob)
 | .p g o _ z=>if o=0/\z=0 then (if ext=true/\g=0 then some []else match F4 g M with
  | some (c,T)=>if T=103 then some [.eq c (A1M m)]else none
  | none=>none)else none
 | _=>none
structure FOk (ext:Bool) (m:Nat) (γ0:Pl) (w0:World):Prop where
 odd:m%2=1
 big:1<m
 lt:m<2^256
 at_:ext=true->FldAt w0 (γ0 0) m
theorem Im{ext:Bool}{m n:Nat}{M:Rows}{x:SV}{p:List Ob}{γ0 γ:Pl}{w0 wx:World}(h:isF ext m M x=some p)(hp:All p)(hf:FOk ext m γ0 w0)(hγ:∀ k,k<1->γ k=γ0 k)(hw:Below w0.heap.size w0 wx)(hL:Kt γ n M wx):∃ F,x.val γ=.pointer (some ⟨F,0,none⟩)/\FldAt wx F m:=by
 cases x <;> first | (cases h;done) | skip
 rename_i g o j z;dsimp only[isF]at h
 split at h
 ·rename_i hz
  obtain⟨rfl,rfl⟩:=hz;refine⟨γ g,by simp[SV.val,SV.sc],?_⟩
  split at h
  ·rename_i he
   rw[he.2,hγ 0 (by decide)];exact(hf.at_ he.1).below hw
  ·split at h
   ·rename_i c T hr
    split at h
    ·rename_i hT
     cases h;have hc:c=A1M m:=hp _ (.head _);have:=(hL _ (Bu hr)).1;rw[hc,hT]at this;exact⟨this,hf.odd,hf.big,hf.lt⟩
    ·cases h
   ·cases h
 ·cases h
theorem FOk.of{F m:Nat}{w0:World}(h0:FldAt w0 F m):FOk true m (fun _=>F) w0:=⟨h0.odd,h0.big,h0.lt,fun _=>h0⟩
theorem FOk.mod{ext:Bool}{m:Nat}{γ0:Pl}{w0:World}(hf:FOk ext m γ0 w0)(a:Nat):a%m<2^256:=Nat.lt_trans (Nat.mod_lt _ (by have:=hf.big;omega)) hf.lt
def VE(ext:Bool)(m:Nat)(f:FuncId)(op:Nat->Nat->Nat):Con:=⟨f,fun _ M l=>match l with
 | [x,.w a,.w b]=>(isF ext m M x).map fun p=>(.w (op a b),p,[])
 | _=>none⟩
def YV(ext:Bool)(m:Nat)(f:FuncId)(op:Nat->SV):Con:=⟨f,fun _ M l=>match l with
 | [x,.w a]=>(isF ext m M x).map fun p=>(op a,p,[])
 | _=>none⟩
theorem Mj{γ:Pl}{x:SV}(h:x.lt 0=true):x.val γ=x.val fun _=>0:=(SV.lt_same (γ:=γ) (δ:=fun _=>0) (n:=0) (fun _ hk=>absurd hk (Nat.not_lt_zero _)) h).2.2
theorem Mk{P:Program}{ext:Bool}{m:Nat}{γ0:Pl}{w0:World}{f:FuncId}{op:Nat->Nat->Nat}(hf:FOk ext m γ0 w0)(hc:∀ as_ wx,(callFunc f as_).run P wx=.ok (.enter f as_) wx)(hlt:∀ a b,op a b<2^256)
  (h:∀ F a b,a<2^256->b<2^256->∀ w,FldAt w F m->Calls P f #[.pointer (some ⟨F,0,none⟩),.agg (pw a),.agg (pw b)] w fun e w'=>e=.returned (.agg (pw (op a b)))/\Below w.heap.size w w'):ConOk P 1 γ0 w0 (VE ext m f op) :=
 .of hc fun n M l r p R hr hp hok=>by
  unfold VE at hr;dsimp only at hr
  split at hr
  ·rename_i x a b
   obtain⟨q,hx,e⟩:=Option.map_eq_some_iff.1 hr;cases e;refine⟨rfl,hlt a b,rfl,fun γ hγ wx hw hL=>?_⟩;obtain⟨F,h1,h2⟩:=Im hx hp hf hγ hw hL;show Calls P f #[x.val γ,_,_] wx _;rw[h1];exact h F a b (hok (.w a) υ) (hok (.w b) υ) wx h2
  ·cases hr
theorem QN{P:Program}{ext:Bool}{m:Nat}{γ0:Pl}{w0:World}{f:FuncId}{op:Nat->SV}(hf:FOk ext m γ0 w0)(hc:∀ as_ wx,(callFunc f as_).run P wx=.ok (.enter f as_) wx)(hlt:∀ a,(op a).ok/\(op a).lt 0=true)
  (h:∀ F a,a<2^256->∀ w,FldAt w F m->Calls P f #[.pointer (some ⟨F,0,none⟩),.agg (pw a)] w fun e w'=>e=.returned ((op a).val fun _=>0)/\Below w.heap.size w w'):ConOk P 1 γ0 w0 (YV ext m f op) :=
 .of hc fun n M l r p R hr hp hok=>by
  unfold YV at hr;dsimp only at hr
  split at hr
  ·rename_i x a
   obtain⟨q,hx,e⟩:=Option.map_eq_some_iff.1 hr;cases e;refine⟨rfl,(hlt a).1,(hlt a).2,fun γ hγ wx hw hL=>?_⟩;obtain⟨F,h1,h2⟩:=Im hx hp hf hγ hw hL;show Calls P f #[x.val γ,_] wx _;rw[h1,Mj (hlt a).2];exact h F a (hok (.w a) υ) wx h2
  ·cases hr
def A3i(ext:Bool)(m:Nat):Con:=VE ext m 72 fun a b=>a*b%m
def A3j(ext:Bool)(m:Nat):Con:=VE ext m 74 fun a b=>(a+b)%m
def A3k(ext:Bool)(m:Nat):Con:=VE ext m 77 fun a b=>(a%m+(m - b%m))%m
def iv(m Z:Nat):Nat:=Z^(m - 2)%m
def A3l(ext:Bool)(m:Nat):Con:=YV ext m 51 fun a=>.w ((0%m+(m - a%m))%m)
def A3m(ext:Bool)(m:Nat):Con:=YV ext m 81 fun a=>.tu (.w (if a*iv m a%m=1 then iv m a else 0)) (.b (eqN (a*iv m a%m) 1))
def VF(ext:Bool)(m:Nat):List Con:=[A3i ext m,A3j ext m,A3k ext m,A3l ext m,A3m ext m]
theorem Hg{ext:Bool}{m:Nat}{γ0:Pl}{w0:World}(hf:FOk ext m γ0 w0):ED Tryz.prog 1 γ0 w0 (VF ext m) :=
 ⟨Mk hf (fun _ _=>by kernel_rfl) (fun _ _=>hf.mod _) fun F a b ha hb w hF=>Ee F m a b ha hb w hF,Mk hf (fun _ _=>by kernel_rfl) (fun _ _=>hf.mod _) fun F a b ha hb w hF=>NA F m a b ha hb w hF,Mk hf (fun _ _=>by kernel_rfl) (fun _ _=>hf.mod _) fun F a b ha hb w hF=>NB F m a b ha hb w hF,
  QN hf (fun _ _=>by kernel_rfl) (fun a=>⟨hf.mod _,rfl⟩) fun F a ha w hF=>V4 F m a ha w hF,
  QN hf (fun _ _=>by kernel_rfl) (fun a=>⟨⟨by
   show(if a*iv m a%m=1 then iv m a else 0)<2^256
   split
   ·exact hf.mod _
   ·decide,trivial⟩,rfl⟩) fun F a ha w hF=>VD F m a ha w hF,trivial⟩
/-! Types. -/
theorem AV:(0:Nat)<2^256:=by decide
def tyW:Ty:=⟨24,true,4,.w 0,[]⟩
def tyJ:Ty:=⟨90,true,12,.ap (.w 0) (.ap (.w 0) (.ap (.w 0) .e)),[(0,4),(4,4),(8,4)]⟩
def tyP:Ty:=⟨26,true,9,.ap (.w 0) (.ap (.w 0) (.ap (.v (.bool false)) .e)),[(0,4),(4,4),(8,1)]⟩
def tyG:Ty:=⟨53,true,1,.ap (.v (.pointer none)) .e,[(0,1)]⟩
def tyB:Ty:=⟨4,false,1,.v (.bool false),[]⟩
def tyF:Ty:=⟨51,false,1,.v (.pointer none),[]⟩
def tyE:Ty:=⟨27,false,1,.v (.int .i64 0),[]⟩
def tyI:Ty:=⟨3,false,1,.v (.int .i64 0),[]⟩
def tyU:Ty:=⟨22,false,1,.v (.int .u64 0),[]⟩
def tyT:Ty:=⟨68,true,13,.ap (.w 0) (.ap (.ap (.w 0) (.ap (.w 0) (.ap (.v (.bool false)) .e))) .e),[(0,4),(4,9)]⟩
def tyR:Ty:=⟨70,true,12,.ap (.w 0) (.ap (.w 0) (.ap (.w 0) .e)),[(0,4),(4,4),(8,4)]⟩
def tyO:Ty:=⟨44,true,13,.ap (.w 0) (.ap (.ap (.w 0) (.ap (.w 0) (.ap (.v (.bool false)) .e))) .e),[(0,4),(4,9)]⟩
def A1N:List Ty:=[tyW,tyP,tyG,tyF,tyJ,tyB,tyE,tyI,tyU,tyT,tyR,tyO]
def VG(P:Program):List Ty->Prop
 | []=>True
 | y::l=>y.Good P/\VG P l
theorem Io{P:Program}:∀ {l:List Ty},VG P l->∀ y∈l,y.Good P
 | [],_,c,h=>by cases h
 | y::l,ha,c,h=>by
  rcases List.mem_cons.1 h with rfl | h
  ·exact ha.1
  ·exact Io ha.2 c h
theorem QO:VG Tryz.prog A1N :=
 ⟨⟨ω,ω,ω,rfl,AV,fun h=>absurd rfl h⟩,⟨ω,ω,ω,rfl,⟨AV,AV,trivial,trivial⟩,fun _=>by kernel_rfl⟩,⟨ω,ω,ω,rfl,⟨trivial,trivial⟩,fun _=>by kernel_rfl⟩,⟨ω,ω,ω,rfl,trivial,fun h=>absurd rfl h⟩,
  ⟨ω,ω,ω,rfl,⟨AV,AV,AV,trivial⟩,fun _=>by kernel_rfl⟩,⟨ω,ω,ω,rfl,trivial,fun h=>absurd rfl h⟩,⟨ω,ω,ω,rfl,trivial,fun h=>absurd rfl h⟩,⟨ω,ω,ω,rfl,trivial,fun h=>absurd rfl h⟩,⟨ω,ω,ω,rfl,trivial,fun h=>absurd rfl h⟩,
  ⟨ω,ω,ω,rfl,⟨AV,⟨AV,AV,trivial,trivial⟩,trivial⟩,fun _=>by kernel_rfl⟩,
  ⟨ω,ω,ω,rfl,⟨AV,AV,AV,trivial⟩,fun _=>by kernel_rfl⟩,
  ⟨ω,ω,ω,rfl,⟨AV,⟨AV,AV,trivial,trivial⟩,trivial⟩,fun _=>by kernel_rfl⟩,
  trivial⟩
/-! Arrays and slices. -/
def IP:SV->Option Nat
 | .v (.int .u64 (.ofNat a))=>if a<18446744073709551616 then some a else none
 | _=>none
def YW(T:TypeId)(l:List (Nat × SV)):Option SV:=if T=24 then match l with
 | []=>some (.w 0)
 | [(0,a)]=>(IP a).map .w
 | [(0,a),(1,b),(2,c),(3,d)]=>match IP a,IP b,IP c,IP d with
  | some a,some b,some c,some d=>some (.w (n4 a b c d))
  | _,_,_,_=>none
 | _=>none
 else none
theorem BO{γ:Pl}{x:SV}{a:Nat}(h:IP x=some a):x.val γ=.int .u64 (a:Nat)/\a<18446744073709551616:=by
 unfold IP at h
 split at h
 ·split at h
  ·rename_i hk;cases h;exact⟨rfl,hk⟩
  ·cases h
 ·cases h
theorem YX{T:TypeId}{l:List (Nat × SV)}{r:SV}(h:YW T l=some r):r.ok/\r.lt 0=true/\r.many=true/\∀ γ,Tryz.prog.built T (l.map fun x=>(x.1,x.2.val γ))=some (r.cells γ).toArray:=by
 unfold YW at h
 split at h
 ·rename_i e
  subst e
  split at h
  ·cases h
   exact⟨AV,rfl,rfl,fun γ=>by kernel_rfl⟩
  ·obtain⟨k,hk,e⟩:=Option.map_eq_some_iff.1 h
   subst e;have hlt:=(BO (γ:=fun _=>0) hk).2;refine⟨Nat.lt_trans hlt (by decide),rfl,rfl,fun γ=>?_⟩;rw[show([(0,_)]:List (Nat × SV)).map (fun x=>(x.1,x.2.val γ))=[(0,.int .u64 (k:Nat))] from congrArg (fun v=>[(0,v)]) (BO hk).1];show Tryz.prog.built 24 [(0,.int .u64 (k:Nat))]=some (pw k).toList.toArray;rw[show pw k=#[.int .u64 (k:Nat),.int .u64 0,.int .u64 0,.int .u64 0] by
    unfold pw;rw[Nat.mod_eq_of_lt hlt,Nat.div_eq_of_lt hlt,Nat.div_eq_of_lt (show k<340282366920938463463374607431768211456 by omega),Nat.div_eq_of_lt (show k<6277101735386680763835789423207666416102355444464034512896 by omega)];rfl]
   kernel_rfl
  ·split at h
   ·rename_i a b c d ka kb kc kd
    cases h;have la:=BO (γ:=fun _=>0) ka;have lb:=BO (γ:=fun _=>0) kb;have lc:=BO (γ:=fun _=>0) kc;have ld:=BO (γ:=fun _=>0) kd;refine⟨?_,rfl,rfl,fun γ=>?_⟩
    ·show n4 a b c d<2^256
     have e256:(2:Nat)^256=115792089237316195423570985008687907853269984665640564039457584007913129639936:=by decide
     rw[e256];unfold n4;omega
    ·show Tryz.prog.built 24 [(0,_),(1,_),(2,_),(3,_)]=some (pw (n4 a b c d)).toList.toArray
     rw[(BO ka).1,(BO kb).1,(BO kc).1,(BO kd).1];rw[show pw (n4 a b c d)=#[.int .u64 (a:Nat),.int .u64 (b:Nat),.int .u64 (c:Nat),.int .u64 (d:Nat)] by
      unfold pw n4;rw[show(a+18446744073709551616*b+340282366920938463463374607431768211456*c+6277101735386680763835789423207666416102355444464034512896*d)%18446744073709551616=a by omega];rw[show(a+18446744073709551616*b+340282366920938463463374607431768211456*c+6277101735386680763835789423207666416102355444464034512896*d) / 18446744073709551616%18446744073709551616=b by omega];rw[show(a+18446744073709551616*b+340282366920938463463374607431768211456*c+6277101735386680763835789423207666416102355444464034512896*d) / 340282366920938463463374607431768211456%18446744073709551616=c by omega];rw[show(a+18446744073709551616*b+340282366920938463463374607431768211456*c+6277101735386680763835789423207666416102355444464034512896*d) / 6277101735386680763835789423207666416102355444464034512896%18446744073709551616=d by omega]]
     kernel_rfl
   ·cases h
  ·cases h
 ·cases h
def Ml(T:TypeId):List (TypeId × Nat)->Option Nat
 | []=>none
 | p::l=>if p.1=T then some p.2 else Ml T l
theorem KT{T:TypeId}{z:Nat}:∀ {l:List (TypeId × Nat)},Ml T l=some z->(T,z)∈l
 | [],h=>by cases h
 | p::l,h=>by
  unfold Ml at h
  split at h
  ·rename_i e;cases h;subst e;exact .head _
  ·exact .tail _ (KT h)
def A1O(ix:List (TypeId × Nat))(T:TypeId)(x y:SV):Option (SV × List Ob):=match x,Tc y with
 | .s g o n _,some i=>match Ml T ix with
  | some z=>some (.p g o i z,[.ask (i<n)])
  | none=>none
 | .p g o _ 0,some i=>if T=24/\i<4 then some (.p g (o+i) 0 0,[])else none
 | _,_=>none
noncomputable def EG (base:Nat) (more:List Con) (xl:TypeId->Nat->Nat->Nat->Nat->Option (SV × List Ob)) (ix:List (TypeId × Nat)) (bs:List Bs):Env:=⟨Tryz.prog,A1N,base,fun f n M l=>QJ f more n M l,YN,YW,xl,A1O ix,ix.map (·.1),bs,fun _ _ _ _=>none⟩
theorem A0y{base:Nat}{w0:World}{more:List Con}{γ0:Pl}{xl:TypeId->Nat->Nat->Nat->Nat->Option (SV × List Ob)}{ix:List (TypeId × Nat)}{bs:List Bs}(hm:ED Tryz.prog base γ0 w0 more)
  (hx:∀ T g o j z r p,xl T g o j z=some (r,p)->All p->r.ok/\r.lt base=true/\g<base/\∀ γ,(∀ k,k<base->γ k=γ0 k)->∀ wx,Below w0.heap.size w0 wx->(Instr.loadAt T (.pointer (some ⟨γ g,o+j*z,none⟩))).run Tryz.prog wx=.ok (r.val γ) wx)
  (hi:∀ q∈ix,∃ e,Tryz.prog.underlying q.1=some (.slice e)/\(Tryz.prog.info? e).map (·.size)=some q.2) (hbs:∀ b∈bs,b.Good Tryz.prog):(EG base more xl ix bs).Good γ0 w0:=by
 refine⟨Io QO,fun f n M l r p R h hp hn hok hM=>?_,fun op T x y r p h hp hx hy=>YQ h hp hx hy,fun T l r h _=>YX h,hx,fun T x y r p n h hp hl hx0 hy=>?_,fun T hT=>?_,hbs,fun _ _ _ _ _ _ h=>by cases h⟩
 ·obtain⟨c,h1,rfl,h3⟩:=NV (JY hm) h
  have:=h1.all n M l r p R h3 hp hn hok hM;exact⟨this.1,this.2.1,this.2.2.1,h1.call,this.2.2.2⟩
 ·clear hx0
  replace h:A1O ix T x y=some (r,p):=h;unfold A1O at h
  split at h
  ·rename_i g o n' c i hi'
   split at h
   ·rename_i z hz
    cases h;obtain⟨e,h1,h2⟩:=hi _ (KT hz);exact⟨trivial,hl,fun γ wx=>by
     rw[(Fy hi' hy).1];exact JI h1 h2 (hp _ (.head _)) wx⟩
   ·cases h
  ·rename_i g o j i hi'
   split at h
   ·rename_i hc
    cases h;obtain⟨rfl,hlt⟩:=hc;exact⟨trivial,hl,fun γ wx=>by
     rw[(Fy hi' hy).1];show(Instr.indexAt _ (.pointer (some ⟨γ g,o+j*0,none⟩)) _).run _ _=.ok (.pointer (some ⟨γ g,o+i+0*0,none⟩)) wx;rw[Nat.mul_zero,Nat.add_zero,Nat.zero_mul,Nat.add_zero];have:=Eg (g:=γ g) (o:=o) (i:=i) Tryz.underlying24 (show(Tryz.prog.info? 22).map (·.size)=some 1 by kernel_rfl) hlt wx;rwa [Nat.mul_one]at this⟩
   ·cases h
  ·cases h
 ·obtain⟨q,hq,rfl⟩:=List.mem_map.1 hT
  obtain⟨e,h1,_⟩:=hi q hq;exact⟨e,h1⟩
def noX(_:TypeId)(_ _ _ _:Nat):Option (SV × List Ob):=none
noncomputable def E1 (more:List Con) (bs:List Bs:=[]):Env:=EG 1 more noX [] bs
theorem Mm{w0:World}{more:List Con}{γ0:Pl}{bs:List Bs}(hm:ED Tryz.prog 1 γ0 w0 more)(hbs:∀ b∈bs,b.Good Tryz.prog):(E1 more bs).Good γ0 w0 :=
 A0y hm (fun _ _ _ _ _ _ _ h=>by cases h) (fun _ h=>by cases h) hbs
theorem El{w0:World}{more:List Con}{γ0:Pl}(hm:ED Tryz.prog 1 γ0 w0 more):(E1 more).Good γ0 w0:=Mm hm fun _ h=>by cases h
def sJ(T:Nat × Nat × Nat):SV:=.ap (.w T.1) (.ap (.w T.2.1) (.ap (.w T.2.2) .e))
def sP(x y:Nat)(n:Bool):SV:=.ap (.w x) (.ap (.w y) (.ap (.b n) .e))
def sPk(x y:Nat)(n:Bool):SV:=.ap (.w x) (.ap (.w y) (.ap (.v (.bool n)) .e))
def sG:SV:=.ap (.p 0 0 0 0) .e
end Go.Proofs.YtphafjbajlcbnaaGreat.Sy
