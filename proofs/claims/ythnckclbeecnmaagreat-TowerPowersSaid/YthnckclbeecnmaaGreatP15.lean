/- What (*Field).Of comes to. (Cut to what is reached, written closely: PAdd · AddsAny · BitsW · Byte · Sext · Exp · Pick · ShRef · SarLen · ShiftsAny · FWd · FOf.) -/
import Derived.Test.YthnckclbeecnmaaGreatP14
import Derived.Test.YthnckclbeecnmaaGreatP7
import Derived.Test.YthnckclbeecnmaaGreatP13
import Derived.Test.YthnckclbeecnmaaGreatP10
import Derived.Test.YthnckclbeecnmaaGreatP5
import Derived.Test.YthnckclbeecnmaaGreatP2
import Derived.Test.YthnckclbeecnmaaGreatP12
import Derived.Test.YthnckclbeecnmaaGreatP9
set_option linter.all false
set_option maxRecDepth 100000
set_option maxHeartbeats 8000000
namespace Go.Proofs.YthnckclbeecnmaaGreat
open Go.RowKit
def FA(q r c:Nat)(T:TypeId):Array Value:=if T=123 then dw q else if T=22 then #[.int .u64 c]else pw r
theorem store_da{g q r c:Nat}{w:World}{cs:Array Value}(hg:w.heap[g]?=some (.cells cs 123 (0,0)))(hs:cs.size=(FA q r c 123).size):(Instr.storeAt 123 (.pointer (some ⟨g,0,none⟩)) (dv q)).run Tryz.prog w=.ok () (w.setRow g (FA q r c 123)):=store_dw (r:=r) hg hs
theorem store_qa{g q r c:Nat}{w:World}{cs:Array Value}(hg:w.heap[g]?=some (.cells cs 24 (0,0)))(hs:cs.size=(FA q r c 24).size):(Instr.storeAt 24 (.pointer (some ⟨g,0,none⟩)) (wv r)).run Tryz.prog w=.ok () (w.setRow g (FA q r c 24)):=store_pw hs hg
structure CU (w:World) (D x y z:Nat) (wx:World):Prop where
 ct:CT w x y z wx
 far:w.heap.size+1+1+1+1<=D
 sum:wx.heap[D]?=some (.cells (pw (x+y)) 24 (0,0))
theorem CU.high{w wx:World}{D x y z:Nat}(h:CU w D x y z wx):D+1<=wx.heap.size:=(Array.getElem?_eq_some_iff.1 h.sum).1
theorem CU.below{w wx w':World}{D x y z:Nat}(h:CU w D x y z wx)(hb:Below wx.heap.size wx w'):CU w D x y z w':=⟨h.ct.below hb,h.far,(hb.block _ h.high).trans h.sum⟩
theorem CU.rowed{w wx:World}{D x y z g:Nat}{cs:Array Value}(h:CU w D x y z wx)(hg:D+1<=g):CU w D x y z (wx.setRow g cs):=⟨h.ct.rowed (by have:=h.far;omega),h.far,(setRow_other _ _ _ _ (by omega)).trans h.sum⟩
theorem sum_split(x y:Nat):(x+y)%2^256+2^256*(((x%2^256)+(y%2^256)) / 2^256)=((x%2^256)+(y%2^256)):=by
 rw[Nat.add_mod x y];exact Nat.mod_add_div _ _
theorem carry_lt(x y:Nat):(((x%2^256)+(y%2^256)) / 2^256)<18446744073709551616:=by
 have h1:=Nat.mod_lt x (show(2^256) > 0 by omega);have h2:=Nat.mod_lt y (show(2^256) > 0 by omega);omega
-- WHAT word.AddMod COMES TO.
theorem addmod_any(x y z:Nat)(w:World):Calls Tryz.prog 105 #[wv x,wv y,wv z] w fun e w'=>e=.returned (wv (remV ((x%2^256)+(y%2^256)) z))/\Below w.heap.size w w':=by
 rw[wv_pw x,wv_pw y,wv_pw z];have hadd:∀ w,Calls Tryz.prog 111 #[.agg (pw x),.agg (pw y)] w fun e w'=>e=.returned (.tuple #[.agg (pw (x+y)),.int .u64 ((((x%2^256)+(y%2^256)) / 2^256):Nat)])/\Below w.heap.size w w':=fun w=>addCarry_any x y w;have HADD:=Lib.hid hadd;clear hadd;have hcl:=carry_lt x y;have hV:((x%2^256)+(y%2^256))<13407807929942597099574024998205846127479365820592393377723561443721764030073546976801874298166903427690031858186486050853753882811946569946433649006084096:=by
  have h1:=Nat.mod_lt x (show(2^256) > 0 by omega);have h2:=Nat.mod_lt y (show(2^256) > 0 by omega);omega
 have HV:=Lib.hid hV;clear hV;have HCL:=Lib.hid hcl;clear hcl;have hC0:CT w x y z ((((w.alloc (.cells (pw x) 24)).alloc (.cells (pw y) 24)).alloc (.cells (pw z) 24)).alloc (.cells #[.int .u64 0,.int .u64 0,.int .u64 0,.int .u64 0] 24)):=⟨by go_grown,(heap4 _ _ _ _ _).1,(heap4 _ _ _ _ _).2.1,(heap4 _ _ _ _ _).2.2.1,(heap4 _ _ _ _ _).2.2.2⟩
 have HC0:=Lib.hid hC0;clear hC0;go_enter Tryz.func105,Tryz.ntmps105
 go_wp2_with (first | (refine wpList_load_row rfl 24 _ rfl w.heap.size rfl 24 (pw x) (0,0) _ HC0.out.r0 Tryz.underlying24 rfl infoWord ?_) | (refine wpList_load_row rfl 24 _ rfl (w.heap.size+1) rfl 24 (pw y) (0,0) _ HC0.out.r1 Tryz.underlying24 rfl infoWord ?_))
 refine(HADD.out _).mono ?_;rintro e w1 ⟨rfl,hb⟩;have HC1:=Lib.hid (HC0.out.below hb);clear hb
 go_wp2_with (refine wpList_store_row rfl 24 _ _ rfl w1.heap.size (pw (x+y)) rfl rfl 24 #[.int .u64 0,.int .u64 0,.int .u64 0,.int .u64 0] (heap_alloc_new _ _) infoWord rfl (pw_one _) ?_)
 have hCU:CU w w1.heap.size x y z ((w1.alloc (.cells #[.int .u64 0,.int .u64 0,.int .u64 0,.int .u64 0] 24)).setRow w1.heap.size (pw (x+y))):=⟨(HC1.out.below (by go_grown)).rowed HC1.out.high,HC1.out.high,setRow_heap _ _ _ _ _ _ (heap_alloc_new _ _)⟩
 obtain⟨E,hD⟩:∃ E,w1.heap.size=E:=⟨_,rfl⟩
 rw[hD]at hCU |-
 have HCU:=Lib.hid hCU;clear hCU;refine region_tie (CU w E x y z) (fun i s wx=>match i with | 0=>s 18=wv (x+y) | 1=>s 19=.int .u64 ((((x%2^256)+(y%2^256)) / 2^256):Nat) | 2=>∃ D,s 20=.slice (some ⟨D,0,none⟩) 1 1/\E+1<=D/\wx.heap[D]?=some (.cells (FA (quoV ((x%2^256)+(y%2^256)) z) (remV ((x%2^256)+(y%2^256)) z) (((x%2^256)+(y%2^256)) / 2^256) 22) 22 (0,0)) | 3=>s 21=dv ((x%2^256)+(y%2^256)) | 4=>s 22=wv z | 5=>s 23=.tuple #[dv (quoV ((x%2^256)+(y%2^256)) z),wv (remV ((x%2^256)+(y%2^256)) z)] | 6=>s 17=.tuple #[dv (quoV ((x%2^256)+(y%2^256)) z),wv (remV ((x%2^256)+(y%2^256)) z)] | 7=>s 24=dv (quoV ((x%2^256)+(y%2^256)) z) | 8=>s 25=wv (remV ((x%2^256)+(y%2^256)) z) | 9=>∃ D,s 9=.pointer (some ⟨D,0,none⟩)/\E+1<=D/\∃ cs,wx.heap[D]?=some (.cells cs 123 (0,0))/\cs.size=8 | 10=>∃ D,s 10=.pointer (some ⟨D,0,none⟩)/\E+1<=D/\∃ cs,wx.heap[D]?=some (.cells cs 24 (0,0))/\cs.size=4 | 11=>∃ D,s 9=.pointer (some ⟨D,0,none⟩)/\E+1<=D/\wx.heap[D]?=some (.cells (FA (quoV ((x%2^256)+(y%2^256)) z) (remV ((x%2^256)+(y%2^256)) z) (((x%2^256)+(y%2^256)) / 2^256) 123) 123 (0,0)) | 12=>∃ D,s 10=.pointer (some ⟨D,0,none⟩)/\E+1<=D/\wx.heap[D]?=some (.cells (FA (quoV ((x%2^256)+(y%2^256)) z) (remV ((x%2^256)+(y%2^256)) z) (((x%2^256)+(y%2^256)) / 2^256) 24) 24 (0,0)) | _=>True) (RT (E+1) (FA (quoV ((x%2^256)+(y%2^256)) z) (remV ((x%2^256)+(y%2^256)) z) (((x%2^256)+(y%2^256)) / 2^256))) (fun i=>match i with | 0=>[18] | 1=>[19] | 2=>[20] | 3=>[21] | 4=>[22] | 5=>[23] | 6=>[17] | 7=>[24] | 8=>[25] | 9=>[9] | 10=>[10] | 11=>[9] | 12=>[10] | _=>[]) (fun i=>i) (by kernel_rfl) (by kernel_rfl) ⟨⟨HCU.out.ct.old.drew,HCU.out.ct.r0,HCU.out.ct.r1,HCU.out.ct.r2,HCU.out.ct.r3⟩,HCU.out.far,HCU.out.sum⟩ ?_ ?_ ?_ ?_
 ·intro i s s' wx he hp
  match i,he,hp with
  | 0,he,hp=>exact(he 18 (by simp)).symm.trans hp
  | 1,he,hp=>exact(he 19 (by simp)).symm.trans hp
  | 2,he,hp=>obtain⟨D,h1,h2⟩:=hp;exact⟨D,(he 20 (by simp)).symm.trans h1,h2⟩
  | 3,he,hp=>exact(he 21 (by simp)).symm.trans hp
  | 4,he,hp=>exact(he 22 (by simp)).symm.trans hp
  | 5,he,hp=>exact(he 23 (by simp)).symm.trans hp
  | 6,he,hp=>exact(he 17 (by simp)).symm.trans hp
  | 7,he,hp=>exact(he 24 (by simp)).symm.trans hp
  | 8,he,hp=>exact(he 25 (by simp)).symm.trans hp
  | 9,he,hp=>obtain⟨D,h1,h2⟩:=hp;exact⟨D,(he 9 (by simp)).symm.trans h1,h2⟩
  | 10,he,hp=>obtain⟨D,h1,h2⟩:=hp;exact⟨D,(he 10 (by simp)).symm.trans h1,h2⟩
  | 11,he,hp=>obtain⟨D,h1,h2⟩:=hp;exact⟨D,(he 9 (by simp)).symm.trans h1,h2⟩
  | 12,he,hp=>obtain⟨D,h1,h2⟩:=hp;exact⟨D,(he 10 (by simp)).symm.trans h1,h2⟩
  | _+13,_,_=>trivial
 ·intro i s wa wb hR hp
  match i,hp with
  | 0,hp=>exact hp
  | 1,hp=>exact hp
  | 2,hp=>obtain⟨D,h1,h2,h3⟩:=hp;exact⟨D,h1,h2,hR.keep _ _ _ h3⟩
  | 3,hp=>exact hp
  | 4,hp=>exact hp
  | 5,hp=>exact hp
  | 6,hp=>exact hp
  | 7,hp=>exact hp
  | 8,hp=>exact hp
  | 9,hp=>obtain⟨D,h1,h2,cs,h3,h4⟩:=hp;obtain⟨cs',h5,h6⟩:=hR.shape _ _ _ _ h3;exact⟨D,h1,h2,cs',h5,h6.trans h4⟩
  | 10,hp=>obtain⟨D,h1,h2,cs,h3,h4⟩:=hp;obtain⟨cs',h5,h6⟩:=hR.shape _ _ _ _ h3;exact⟨D,h1,h2,cs',h5,h6.trans h4⟩
  | 11,hp=>obtain⟨D,h1,h2,h3⟩:=hp;exact⟨D,h1,h2,hR.keep _ _ _ h3⟩
  | 12,hp=>obtain⟨D,h1,h2,h3⟩:=hp;exact⟨D,h1,h2,hR.keep _ _ _ h3⟩
  | _+13,_=>trivial
 ·refine⟨?_,?_,?_,?_,?_,?_,?_,?_,?_,?_,?_,?_,?_,trivial⟩
  ·intro a wx hC hsz hK
   have h0:a.tmps.getD 7 undef=.pointer (some ⟨E,0,none⟩):=hK.1 7 (by kernel_rfl);exact tt_load 24 (.tmp 7) (.pointer (some ⟨E,0,none⟩)) (wv (x+y)) rfl (by kernel_rfl) h0 (load_pw hC.sum) hC (slots_put _ _ _ (by rw[hsz];exact of_decide_eq_true (by kernel_rfl))) (RT.refl _ _ _)
  ·intro a wx hC hsz hK
   have h0:a.tmps.getD 8 undef=.int .u64 ((((x%2^256)+(y%2^256)) / 2^256):Nat):=hK.1 8 (by kernel_rfl);exact tt_val (.int .u64 ((((x%2^256)+(y%2^256)) / 2^256):Nat)) (by kernel_rfl) (by rw[<- h0];kernel_rfl) hC (slots_put _ _ _ (by rw[hsz];exact of_decide_eq_true (by kernel_rfl))) (RT.refl _ _ _)
  ·intro a wx hC hsz hK
   have h0:a.tmps.getD 19 undef=.int .u64 ((((x%2^256)+(y%2^256)) / 2^256):Nat):=hK.2 ⟨1,.data⟩ (by simp) rfl _ rfl;refine tt_v (Instr.buildSlice 94 1 #[(0,a.tmps.getD 19 undef)]) (.slice (some ⟨wx.heap.size,0,none⟩) 1 1) (by kernel_rfl) (by kernel_rfl) (w':=wx.alloc (.cells #[.int .u64 ((((x%2^256)+(y%2^256)) / 2^256):Nat)] 22)) ?_ (hC.below ((Below.refl _ _).alloc (Nat.le_refl _) _)) ⟨_,slots_put _ _ _ (by rw[hsz];exact of_decide_eq_true (by kernel_rfl)),hC.high,heap_alloc_new _ _⟩ (RT.of hC.high ((Below.refl _ _).alloc (Nat.le_refl _) _));rw[h0];kernel_rfl
  ·intro a wx hC hsz hK
   have h0:a.tmps.getD 18 undef=wv (x+y):=hK.2 ⟨0,.data⟩ (by simp) rfl _ rfl;obtain⟨b,h1,h2,h3⟩:=hK.2 ⟨2,.data⟩ (by simp) rfl _ rfl;have h1':a.tmps.getD 20 undef=.slice (some ⟨b,0,none⟩) 1 1:=h1;refine tt_call 116 #[a.tmps.getD 18 undef,a.tmps.getD 20 undef] (by kernel_rfl) (by kernel_rfl) ?_;rw[h0,h1'];have hw:=widen_more (x+y) (((x%2^256)+(y%2^256)) / 2^256) b HCL.out wx (Array.getElem?_eq_some_iff.1 h3).1 ((cell_of_row _ _ 0 _ _ _ h3).trans rfl);rw[sum_split]at hw;exact hw.mono fun e w' hh=>⟨_,hh.1,hC.below hh.2,slots_put _ _ _ (by rw[hsz];exact of_decide_eq_true (by kernel_rfl)),RT.of hC.high hh.2⟩
  ·intro a wx hC hsz hK
   have h0:a.tmps.getD 5 undef=.pointer (some ⟨w.heap.size+1+1,0,none⟩):=hK.1 5 (by kernel_rfl);exact tt_load 24 (.tmp 5) (.pointer (some ⟨w.heap.size+1+1,0,none⟩)) (wv z) rfl (by kernel_rfl) h0 (load_pw hC.ct.r2) hC (slots_put _ _ _ (by rw[hsz];exact of_decide_eq_true (by kernel_rfl))) (RT.refl _ _ _)
  ·intro a wx hC hsz hK
   have h0:a.tmps.getD 21 undef=dv ((x%2^256)+(y%2^256)):=hK.2 ⟨3,.data⟩ (by simp) rfl _ rfl;have h1:a.tmps.getD 22 undef=wv z:=hK.2 ⟨4,.data⟩ (by simp) rfl _ rfl;refine tt_call 115 #[a.tmps.getD 21 undef,a.tmps.getD 22 undef] (by kernel_rfl) (by kernel_rfl) ?_;rw[h0,h1];exact((fun wx=>divide_all ((x%2^256)+(y%2^256)) z HV.out wx) wx).mono fun e w' hh=>⟨_,hh.1,hC.below hh.2,slots_put _ _ _ (by rw[hsz];exact of_decide_eq_true (by kernel_rfl)),RT.of hC.high hh.2⟩
  ·intro a wx hC hsz hK
   have h0:a.tmps.getD 23 undef=.tuple #[dv (quoV ((x%2^256)+(y%2^256)) z),wv (remV ((x%2^256)+(y%2^256)) z)]:=hK.2 ⟨5,.data⟩ (by simp) rfl _ rfl;exact tt_val (.tuple #[dv (quoV ((x%2^256)+(y%2^256)) z),wv (remV ((x%2^256)+(y%2^256)) z)]) (by kernel_rfl) (by rw[<- h0];kernel_rfl) hC (slots_put _ _ _ (by rw[hsz];exact of_decide_eq_true (by kernel_rfl))) (RT.refl _ _ _)
  ·intro a wx hC hsz hK
   have h0:a.tmps.getD 17 undef=.tuple #[dv (quoV ((x%2^256)+(y%2^256)) z),wv (remV ((x%2^256)+(y%2^256)) z)]:=hK.2 ⟨6,.data⟩ (by simp) rfl _ rfl;refine tt_v (Instr.extract (a.tmps.getD 17 undef) 0) (dv (quoV ((x%2^256)+(y%2^256)) z)) (by kernel_rfl) rfl ?_ hC (slots_put _ _ _ (by rw[hsz];exact of_decide_eq_true (by kernel_rfl))) (RT.refl _ _ _);rw[h0];kernel_rfl
  ·intro a wx hC hsz hK
   have h0:a.tmps.getD 17 undef=.tuple #[dv (quoV ((x%2^256)+(y%2^256)) z),wv (remV ((x%2^256)+(y%2^256)) z)]:=hK.2 ⟨6,.data⟩ (by simp) rfl _ rfl;refine tt_v (Instr.extract (a.tmps.getD 17 undef) 1) (wv (remV ((x%2^256)+(y%2^256)) z)) (by kernel_rfl) rfl ?_ hC (slots_put _ _ _ (by rw[hsz];exact of_decide_eq_true (by kernel_rfl))) (RT.refl _ _ _);rw[h0];kernel_rfl
  ·intro a wx hC hsz hK
   exact tt_new (.pointer (some ⟨wx.heap.size,0,none⟩)) (by kernel_rfl) (by kernel_rfl) (hC.below ((Below.refl _ _).alloc (Nat.le_refl _) _)) ⟨_,slots_put _ _ _ (by rw[hsz];exact of_decide_eq_true (by kernel_rfl)),hC.high,#[.int .u64 0,.int .u64 0,.int .u64 0,.int .u64 0,.int .u64 0,.int .u64 0,.int .u64 0,.int .u64 0],heap_alloc_new _ _,rfl⟩ (RT.of hC.high ((Below.refl _ _).alloc (Nat.le_refl _) _))
  ·intro a wx hC hsz hK
   exact tt_new (.pointer (some ⟨wx.heap.size,0,none⟩)) (by kernel_rfl) (by kernel_rfl) (hC.below ((Below.refl _ _).alloc (Nat.le_refl _) _)) ⟨_,slots_put _ _ _ (by rw[hsz];exact of_decide_eq_true (by kernel_rfl)),hC.high,#[.int .u64 0,.int .u64 0,.int .u64 0,.int .u64 0],heap_alloc_new _ _,rfl⟩ (RT.of hC.high ((Below.refl _ _).alloc (Nat.le_refl _) _))
  ·intro a wx hC hsz hK
   obtain⟨D,h1,h2,cs,h3,h4⟩:=hK.2 ⟨9,.data⟩ (by simp) rfl _ rfl;have h0:a.tmps.getD 24 undef=dv (quoV ((x%2^256)+(y%2^256)) z):=hK.2 ⟨7,.data⟩ (by simp) rfl _ rfl;exact tt_store (by kernel_rfl) rfl (run_store 123 (.tmp 9) (.tmp 24) _ _ rfl h1 h0 (store_da h3 h4)) (hC.rowed h2) ⟨D,h1,h2,setRow_heap _ _ _ _ _ _ h3⟩ (RT.row h2 h3 h4)
  ·intro a wx hC hsz hK
   obtain⟨D,h1,h2,cs,h3,h4⟩:=hK.2 ⟨10,.data⟩ (by simp) rfl _ rfl;have h0:a.tmps.getD 25 undef=wv (remV ((x%2^256)+(y%2^256)) z):=hK.2 ⟨8,.data⟩ (by simp) rfl _ rfl;exact tt_store (by kernel_rfl) rfl (run_store 24 (.tmp 10) (.tmp 25) _ _ rfl h1 h0 (store_qa h3 h4)) (hC.rowed h2) ⟨D,h1,h2,setRow_heap _ _ _ _ _ _ h3⟩ (RT.row h2 h3 h4)
 ·intro f wx hC hf
  have s18:=hf 0 _ rfl;have s19:=hf 1 _ rfl;obtain⟨D20,s20,g20,r20⟩:=hf 2 _ rfl;have s21:=hf 3 _ rfl;have s22:=hf 4 _ rfl;have s23:=hf 5 _ rfl;have s17:=hf 6 _ rfl;have s24:=hf 7 _ rfl;have s25:=hf 8 _ rfl;obtain⟨D9,s9,g9,r9⟩:=hf 11 _ rfl;obtain⟨D10,s10,g10,r10⟩:=hf 12 _ rfl;clear hf;generalize hA:putAll _ _ _=A at *;have hsz:A.tmps.size=27:=by rw[<- hA,putAll_size];rfl
  have t0:A.tmps.getD 0 undef=.agg (pw x):=by subst hA;kernel_rfl
  have t1:A.tmps.getD 1 undef=.agg (pw y):=by subst hA;kernel_rfl
  have t2:A.tmps.getD 2 undef=.agg (pw z):=by subst hA;kernel_rfl
  have t3:A.tmps.getD 3 undef=.pointer (some ⟨w.heap.size,0,none⟩):=by subst hA;kernel_rfl
  have t4:A.tmps.getD 4 undef=.pointer (some ⟨w.heap.size+1,0,none⟩):=by subst hA;kernel_rfl
  have t5:A.tmps.getD 5 undef=.pointer (some ⟨w.heap.size+1+1,0,none⟩):=by subst hA;kernel_rfl
  have t6:A.tmps.getD 6 undef=.pointer (some ⟨w.heap.size+1+1+1,0,none⟩):=by subst hA;kernel_rfl
  have t7:A.tmps.getD 7 undef=.pointer (some ⟨E,0,none⟩):=by subst hA;kernel_rfl
  have t8:A.tmps.getD 8 undef=.int .u64 ((((x%2^256)+(y%2^256)) / 2^256):Nat):=by subst hA;kernel_rfl
  have t11:A.tmps.getD 11 undef=.tuple #[.agg (pw (x+y)),.int .u64 ((((x%2^256)+(y%2^256)) / 2^256):Nat)]:=by subst hA;kernel_rfl
  have t12:A.tmps.getD 12 undef=.agg (pw x):=by subst hA;kernel_rfl
  have t13:A.tmps.getD 13 undef=.agg (pw y):=by subst hA;kernel_rfl
  have t14:A.tmps.getD 14 undef=.tuple #[.agg (pw (x+y)),.int .u64 ((((x%2^256)+(y%2^256)) / 2^256):Nat)]:=by subst hA;kernel_rfl
  have t15:A.tmps.getD 15 undef=.agg (pw (x+y)):=by subst hA;kernel_rfl
  have t16:A.tmps.getD 16 undef=.int .u64 ((((x%2^256)+(y%2^256)) / 2^256):Nat):=by subst hA;kernel_rfl
  have t26:A.tmps.getD 26 undef=undef:=by subst hA;kernel_rfl
  have hd:A.defers=[]:=by subst hA;kernel_rfl
  clear hA;obtain⟨tm,df⟩:=A;simp only[slots]at *;have hL:=arr_lit tm;rw[hsz]at hL;simp only[List.range,List.range.loop,List.map]at hL;rw[t0,t1,t2,t3,t4,t5,t6,t7,t8,s9,s10,t11,t12,t13,t14,t15,t16,s17,s18,s19,s20,s21,s22,s23,s24,s25,t26]at hL;subst hL hd;clear t0 t1 t2 t3 t4 t5 t6 t7 t8 s9 s10 t11 t12 t13 t14 t15 t16 s17 s18 s19 s20 s21 s22 s23 s24 s25 t26 hsz;have hr:wx.heap[D10]?=some (.cells (pw (remV ((x%2^256)+(y%2^256)) z)) 24 (0,0)):=r10;have HC:=Lib.hid hC.ct;clear hC
  go_wp2_with (first | (refine wpList_load_row rfl 24 _ rfl D10 rfl 24 (pw (remV ((x%2^256)+(y%2^256)) z)) (0,0) _ hr Tryz.underlying24 rfl infoWord ?_) | (refine wpList_store_row rfl 24 _ _ rfl (w.heap.size+1+1+1) (pw (remV ((x%2^256)+(y%2^256)) z)) rfl rfl 24 #[.int .u64 0,.int .u64 0,.int .u64 0,.int .u64 0] HC.out.r3 infoWord rfl (pw_one _) ?_))
  (try simp only[Exit.inBlock,Exit.then])
  exact bodyPost_ret (v:=.agg (pw (remV ((x%2^256)+(y%2^256)) z))) (results_cell_row (p:=6) rfl _ _ (w.heap.size+1+1+1) 24 _ (0,0) _ rfl (setRow_heap _ _ _ _ _ _ HC.out.r3) Tryz.underlying24 rfl infoWord) rfl ⟨rfl,below_setRow HC.out.old (by omega) _⟩
open Go.RowKit
theorem and_one(z:Nat)(h:z<18446744073709551616):bits .and .u64 z 1=((z%2:Nat):Int):=by
 have:=bits_and_u64_nat z 1 h (by omega);rw[Nat.and_one_is_mod]at this;exact this
theorem bit_of(x i p s:Nat)(hp:i / 64=p)(hs:i%64=s):pN x p / 2^s%2=x%115792089237316195423570985008687907853269984665640564039457584007913129639936 / 2^i%2:=by
 subst hp hs;unfold pN;have e:18446744073709551616=2^(i%64)*2^(64 - i%64):=by rw[<- Nat.pow_add,show i%64+(64 - i%64)=64 by omega]
 have hd:(2:Nat)∣2^(64 - i%64):=by
  have:=Nat.pow_dvd_pow 2 (show 1<=64 - i%64 by omega);simpa using this
 rw[e,Nat.mod_mul_right_div_self,Nat.mod_mod_of_dvd _ hd,Nat.div_div_eq_div_mul,<- Nat.pow_add,show 64*(i / 64)+i%64=i by omega]
theorem pw_at(x p:Nat)(h:p<4):(pw x)[p]?=some (.int .u64 (pN x p:Nat)):=by
 have c:p=0\/p=1\/p=2\/p=3:=by omega
 rcases c with rfl | rfl | rfl | rfl
 ·simp[pw,pN]
 ·simp[pw,pN];omega
 ·simp[pw,pN];omega
 ·simp[pw,pN];omega
theorem len_0(w:World):Calls Tryz.prog 109 #[.agg #[.int .u64 0,.int .u64 0,.int .u64 0,.int .u64 0]] w fun e w'=>e=.returned (.int .i64 0)/\Below w.heap.size w w':=by
 go_enter Tryz.func109,Tryz.ntmps109;go_wp2;refine wp_loop_rounds 5 ?_;rw[rounds_succ];go_wp2;rw[rounds_succ];go_wp2;rw[rounds_succ];go_wp2;rw[rounds_succ];go_wp2;rw[rounds_succ];go_wp2;go_ret;exact⟨rfl,by go_grown⟩
theorem len_1(a0:Nat)(h0:((a0:Int) != 0)=true)(hl0:(a0:Int)<=18446744073709551615)(w:World):Calls Tryz.prog 109 #[.agg #[.int .u64 a0,.int .u64 0,.int .u64 0,.int .u64 0]] w fun e w'=>e=.returned (.int .i64 (Lib.bitLen a0:Nat))/\Below w.heap.size w w':=by
 have hL:=fun w=>Tryz.bits_Len64 (a0:Int) w (by omega) hl0;rw[Int.toNat_natCast]at hL;have hb:Lib.bitLen a0<=64:=by
  by_cases h:a0=0
  ·rw[h];decide
  ·obtain⟨-,h2,-⟩:=bitLen_bounds a0 (by omega) h
   have h5:¬65<=Lib.bitLen a0:=fun h=>by
    have:=Nat.pow_le_pow_right (n:=2) (by omega) (show 64<=Lib.bitLen a0 - 1 by omega);omega
   omega
 generalize Lib.bitLen a0=L at *;have hb0:(0:Int)<=L:=by omega
 have hb1:(L:Int)<=64:=by omega
 go_enter Tryz.func109,Tryz.ntmps109;go_wp2;refine wp_loop_rounds 4 ?_;rw[rounds_succ];go_wp2;rw[rounds_succ];go_wp2;rw[rounds_succ];go_wp2;rw[rounds_succ];go_wp2_with fail;refine(hL _).mono ?_;rintro e w' ⟨rfl,hw⟩;subst hw;go_wp2;go_ret;exact⟨rfl,by go_grown⟩
theorem len_2(a0 a1:Nat)(h1:((a1:Int) != 0)=true)(hl1:(a1:Int)<=18446744073709551615)(w:World):Calls Tryz.prog 109 #[.agg #[.int .u64 a0,.int .u64 a1,.int .u64 0,.int .u64 0]] w fun e w'=>e=.returned (.int .i64 (64+(Lib.bitLen a1:Nat)))/\Below w.heap.size w w':=by
 have hL:=fun w=>Tryz.bits_Len64 (a1:Int) w (by omega) hl1;rw[Int.toNat_natCast]at hL;have hb:Lib.bitLen a1<=64:=by
  by_cases h:a1=0
  ·rw[h];decide
  ·obtain⟨-,h2,-⟩:=bitLen_bounds a1 (by omega) h
   have h5:¬65<=Lib.bitLen a1:=fun h=>by
    have:=Nat.pow_le_pow_right (n:=2) (by omega) (show 64<=Lib.bitLen a1 - 1 by omega);omega
   omega
 generalize Lib.bitLen a1=L at *;have hb0:(0:Int)<=L:=by omega
 have hb1:(L:Int)<=64:=by omega
 go_enter Tryz.func109,Tryz.ntmps109;go_wp2;refine wp_loop_rounds 3 ?_;rw[rounds_succ];go_wp2;rw[rounds_succ];go_wp2;rw[rounds_succ];go_wp2_with fail;refine(hL _).mono ?_;rintro e w' ⟨rfl,hw⟩;subst hw;go_wp2;go_ret;exact⟨rfl,by go_grown⟩
theorem len_3(a0 a1 a2:Nat)(h2:((a2:Int) != 0)=true)(hl2:(a2:Int)<=18446744073709551615)(w:World):Calls Tryz.prog 109 #[.agg #[.int .u64 a0,.int .u64 a1,.int .u64 a2,.int .u64 0]] w fun e w'=>e=.returned (.int .i64 (128+(Lib.bitLen a2:Nat)))/\Below w.heap.size w w':=by
 have hL:=fun w=>Tryz.bits_Len64 (a2:Int) w (by omega) hl2;rw[Int.toNat_natCast]at hL;have hb:Lib.bitLen a2<=64:=by
  by_cases h:a2=0
  ·rw[h];decide
  ·obtain⟨-,h2,-⟩:=bitLen_bounds a2 (by omega) h
   have h5:¬65<=Lib.bitLen a2:=fun h=>by
    have:=Nat.pow_le_pow_right (n:=2) (by omega) (show 64<=Lib.bitLen a2 - 1 by omega);omega
   omega
 generalize Lib.bitLen a2=L at *;have hb0:(0:Int)<=L:=by omega
 have hb1:(L:Int)<=64:=by omega
 go_enter Tryz.func109,Tryz.ntmps109;go_wp2;refine wp_loop_rounds 2 ?_;rw[rounds_succ];go_wp2;rw[rounds_succ];go_wp2_with fail;refine(hL _).mono ?_;rintro e w' ⟨rfl,hw⟩;subst hw;go_wp2;go_ret;exact⟨rfl,by go_grown⟩
theorem len_4(a0 a1 a2 a3:Nat)(h3:((a3:Int) != 0)=true)(hl3:(a3:Int)<=18446744073709551615)(w:World):Calls Tryz.prog 109 #[.agg #[.int .u64 a0,.int .u64 a1,.int .u64 a2,.int .u64 a3]] w fun e w'=>e=.returned (.int .i64 (192+(Lib.bitLen a3:Nat)))/\Below w.heap.size w w':=by
 have hL:=fun w=>Tryz.bits_Len64 (a3:Int) w (by omega) hl3;rw[Int.toNat_natCast]at hL;have hb:Lib.bitLen a3<=64:=by
  by_cases h:a3=0
  ·rw[h];decide
  ·obtain⟨-,h2,-⟩:=bitLen_bounds a3 (by omega) h
   have h5:¬65<=Lib.bitLen a3:=fun h=>by
    have:=Nat.pow_le_pow_right (n:=2) (by omega) (show 64<=Lib.bitLen a3 - 1 by omega);omega
   omega
 generalize Lib.bitLen a3=L at *;have hb0:(0:Int)<=L:=by omega
 have hb1:(L:Int)<=64:=by omega
 go_enter Tryz.func109,Tryz.ntmps109;go_wp2;refine wp_loop_rounds 1 ?_;rw[rounds_succ];go_wp2_with fail;refine(hL _).mono ?_;rintro e w' ⟨rfl,hw⟩;subst hw;go_wp2;go_ret;exact⟨rfl,by go_grown⟩
open Go.RowKit
def bl(x:Nat):Nat->Nat
 | 0=>0
 | k+1=>if x%115792089237316195423570985008687907853269984665640564039457584007913129639936 / 2^k%2=1 then k+1 else bl x k
theorem bl_le(x:Nat):∀ k,bl x k<=k
 | 0=>Nat.le_refl _
 | k+1=>by have:=bl_le x k;unfold bl;split <;> omega
theorem bl_spec(x:Nat):∀ k,x%115792089237316195423570985008687907853269984665640564039457584007913129639936%2^k<2^bl x k/\(bl x k=0\/2^(bl x k - 1)<=x%115792089237316195423570985008687907853269984665640564039457584007913129639936%2^k)
 | 0=>by simp[bl,Nat.mod_one]
 | k+1=>by
  obtain⟨h1,h2⟩:=bl_spec x k;have e:x%115792089237316195423570985008687907853269984665640564039457584007913129639936%2^(k+1)=x%115792089237316195423570985008687907853269984665640564039457584007913129639936%2^k+2^k*(x%115792089237316195423570985008687907853269984665640564039457584007913129639936 / 2^k%2):=by rw[Nat.pow_succ,Nat.mod_mul]
  have hm:x%115792089237316195423570985008687907853269984665640564039457584007913129639936%2^k<2^k:=Nat.mod_lt _ (Nat.two_pow_pos k);rw[e];unfold bl;by_cases hb:x%115792089237316195423570985008687907853269984665640564039457584007913129639936 / 2^k%2=1
  ·rw[if_pos hb,hb,Nat.pow_succ,Nat.add_sub_cancel]
   exact⟨by omega,.inr (by omega)⟩
  ·rw[if_neg hb,show x%115792089237316195423570985008687907853269984665640564039457584007913129639936 / 2^k%2=0 by omega,Nat.mul_zero,Nat.add_zero]
   exact⟨h1,h2⟩
theorem len_uniq{X a b:Nat}(h1:X<2^a)(h2:a=0\/2^(a - 1)<=X)(h3:X<2^b)(h4:b=0\/2^(b - 1)<=X):a=b:=by
 rcases Nat.lt_trichotomy a b with h | h | h
 ·rcases h4 with h4 | h4
  ·omega
  ·have:=Nat.pow_le_pow_right (n:=2) (by omega) (show a<=b - 1 by omega)
   omega
 ·exact h
 ·rcases h2 with h2 | h2
  ·omega
  ·have:=Nat.pow_le_pow_right (n:=2) (by omega) (show b<=a - 1 by omega)
   omega
-- WHAT Len COMES TO: just as many bits.
theorem len_exact(y:Nat)(w:World):Calls Tryz.prog 109 #[wv y] w fun e w'=>e=.returned (.int .i64 (bl y 256:Nat))/\Below w.heap.size w w':=by
 obtain⟨a0,a1,a2,a3,u0,u1,u2,u3,ea,na⟩:=wv_parts y;obtain⟨s1,s2⟩:=bl_spec y 256;rw[show(2:Nat)^256=115792089237316195423570985008687907853269984665640564039457584007913129639936 by rfl,Nat.mod_mod,<- na]at s1 s2;generalize bl y 256=B at *;rw[ea];clear ea na;by_cases h3:a3=0
 ·subst h3
  by_cases h2:a2=0
  ·subst h2
   by_cases h1:a1=0
   ·subst h1
    by_cases h0:a0=0
    ·subst h0
     have e:B=0:=len_uniq s1 s2 (by decide) (.inl rfl);rw[e];exact len_0 w
    ·obtain⟨l0,l1,l2⟩:=bitLen_bounds a0 u0 h0
     have e:B=Lib.bitLen a0:=len_uniq s1 s2 (by unfold n4;omega) (.inr (by unfold n4;omega));rw[e];exact len_1 a0 (by rw[bne_iff_ne];omega) (by omega) w
   ·obtain⟨l0,l1,l2⟩:=bitLen_bounds a1 u1 h1
    have e:B=64+Lib.bitLen a1:=len_uniq s1 s2 (by rw[Nat.pow_add,show(2:Nat)^64=18446744073709551616 by rfl];unfold n4;omega) (.inr (by rw[show 64+Lib.bitLen a1 - 1=64+(Lib.bitLen a1 - 1) by omega,Nat.pow_add,show(2:Nat)^64=18446744073709551616 by rfl];unfold n4;omega));rw[e,show((64+Lib.bitLen a1:Nat):Int)=64+(Lib.bitLen a1:Nat) by simp];exact len_2 a0 a1 (by rw[bne_iff_ne];omega) (by omega) w
  ·obtain⟨l0,l1,l2⟩:=bitLen_bounds a2 u2 h2
   have e:B=128+Lib.bitLen a2:=len_uniq s1 s2 (by rw[Nat.pow_add,show(2:Nat)^128=340282366920938463463374607431768211456 by rfl];unfold n4;omega) (.inr (by rw[show 128+Lib.bitLen a2 - 1=128+(Lib.bitLen a2 - 1) by omega,Nat.pow_add,show(2:Nat)^128=340282366920938463463374607431768211456 by rfl];unfold n4;omega));rw[e,show((128+Lib.bitLen a2:Nat):Int)=128+(Lib.bitLen a2:Nat) by simp];exact len_3 a0 a1 a2 (by rw[bne_iff_ne];omega) (by omega) w
 ·obtain⟨l0,l1,l2⟩:=bitLen_bounds a3 u3 h3
  have e:B=192+Lib.bitLen a3:=len_uniq s1 s2 (by rw[Nat.pow_add,show(2:Nat)^192=6277101735386680763835789423207666416102355444464034512896 by rfl];unfold n4;omega) (.inr (by rw[show 192+Lib.bitLen a3 - 1=192+(Lib.bitLen a3 - 1) by omega,Nat.pow_add,show(2:Nat)^192=6277101735386680763835789423207666416102355444464034512896 by rfl];unfold n4;omega));rw[e,show((192+Lib.bitLen a3:Nat):Int)=192+(Lib.bitLen a3:Nat) by simp];exact len_4 a0 a1 a2 a3 (by rw[bne_iff_ne];omega) (by omega) w
open Go.RowKit
theorem of_wv(n:Nat)(hn:n<18446744073709551616)(w:World):Calls Tryz.prog 71 #[.int .u64 n] w fun e w'=>e=.returned (.agg (pw n))/\Below w.heap.size w w':=by
 have h:=of_walk n w;rw[<- wv_one hn,wv_pw]at h;exact h
open Go.RowKit
theorem remV_of{x m:Nat}(h1:0<m)(hm:m<2^256):remV x m=x%m:=by
 unfold remV;rw[Nat.mod_eq_of_lt hm,if_neg (by omega)]
theorem cmp_pw(a b:Nat)(ha:a<2^256)(hb:b<2^256)(w:World):Calls Tryz.prog 94 #[.agg (pw a),.agg (pw b)] w fun e w'=>e=.returned (.int .i64 (ord a b))/\Below w.heap.size w w':=by
 have h:=cmp_any a b w;rw[Nat.mod_eq_of_lt ha,Nat.mod_eq_of_lt hb]at h;exact h
theorem mod_pw(a m:Nat)(ha:a<2^256)(h0:0<m)(hm:m<2^256)(w:World):Calls Tryz.prog 99 #[.agg (pw a),.agg (pw m)] w fun e w'=>e=.returned (.agg (pw (a%m)))/\Below w.heap.size w w':=by
 have h:=mod_any a m w;rw[Nat.mod_eq_of_lt ha,remV_of h0 hm]at h;exact h
theorem add_pw(a b:Nat)(w:World):Calls Tryz.prog 92 #[.agg (pw a),.agg (pw b)] w fun e w'=>e=.returned (.agg (pw (a+b)))/\Below w.heap.size w w':=add_any a b w
theorem sub_pw(a b:Nat)(hb:b<2^256)(w:World):Calls Tryz.prog 91 #[.agg (pw a),.agg (pw b)] w fun e w'=>e=.returned (.agg (pw (a+(2^256 - b))))/\Below w.heap.size w w':=by
 have h:=sub_any a b w;rw[Nat.mod_eq_of_lt hb]at h;exact h
theorem pw_congr{x y:Nat}(h:x%2^256=y%2^256):pw x=pw y:=by
 have:=wv_congr h;rw[wv_pw,wv_pw]at this;injection this
theorem not_pw(a:Nat)(ha:a<2^256)(w:World):Calls Tryz.prog 104 #[.agg (pw a)] w fun e w'=>e=.returned (.agg (pw (2^256 - 1 - a)))/\Below w.heap.size w w':=by
 have h:=not_any a w;rw[Nat.mod_eq_of_lt ha]at h;exact h
theorem addmod_pw(a b m:Nat)(ha:a<2^256)(hb:b<2^256)(h0:0<m)(hm:m<2^256)(w:World):Calls Tryz.prog 105 #[.agg (pw a),.agg (pw b),.agg (pw m)] w fun e w'=>e=.returned (.agg (pw ((a+b)%m)))/\Below w.heap.size w w':=by
 have h:=addmod_any a b m w;rw[Nat.mod_eq_of_lt ha,Nat.mod_eq_of_lt hb,remV_of h0 hm]at h;exact h
theorem mulmod_pw(a b m:Nat)(ha:a<2^256)(hb:b<2^256)(h0:0<m)(hm:m<2^256)(w:World):Calls Tryz.prog 107 #[.agg (pw a),.agg (pw b),.agg (pw m)] w fun e w'=>e=.returned (.agg (pw (a*b%m)))/\Below w.heap.size w w':=by
 have h:=mulmod_any a b m w;rw[Nat.mod_eq_of_lt ha,Nat.mod_eq_of_lt hb,remV_of h0 hm]at h;exact h
theorem len_pw(a:Nat)(w:World):Calls Tryz.prog 109 #[.agg (pw a)] w fun e w'=>e=.returned (.int .i64 (bl a 256:Nat))/\Below w.heap.size w w':=len_exact a w
/-! Two words compared. -/
open Go.RowKit
-- WHAT Of COMES TO.
theorem fof_any(F m a:Nat)(ha:a<115792089237316195423570985008687907853269984665640564039457584007913129639936)(w:World)(hF:FldAt w F m):Calls Tryz.prog 70 #[.pointer (some ⟨F,0,none⟩),.agg (pw a)] w fun e w'=>e=.returned (.agg (pw (a%m)))/\Below w.heap.size w w':=by
 have H0:=Lib.hid (CW.one hF a);have HCM:=Lib.hid (CW.calls (w:=w) (F:=F) (m:=m) (L:=[(w.heap.size+1,#[.int .u64 0,.int .u64 0,.int .u64 0,.int .u64 0]),(w.heap.size,pw a)]) (v:=.int .i64 (ord a m)) (fun wx hf=>cmp_pw a m ha hf.lt wx));have HMD:=Lib.hid (CW.calls (w:=w) (F:=F) (m:=m) (L:=[(w.heap.size+1,#[.int .u64 0,.int .u64 0,.int .u64 0,.int .u64 0]),(w.heap.size,pw a)]) (v:=.agg (pw (a%m))) (fun wx hf=>mod_pw a m ha (by have:=hf.big;omega) hf.lt wx));have HQ:=Lib.hid (show a<m->a%m=a from fun h=>Nat.mod_eq_of_lt h);clear hF ha;by_cases hlt:a<m
 ·rw[HQ.out hlt]
  clear HMD HQ;go_enter Tryz.func70,Tryz.ntmps70
  go_wp2_with fail
  refine wp_region_quiet (C:=CW w F m [(w.heap.size+1,#[.int .u64 0,.int .u64 0,.int .u64 0,.int .u64 0]),(w.heap.size,pw a)]) (by kernel_rfl) (by kernel_rfl) (H0.out.drew) ?_;simp only
  with_reducible refine q_load 24 (.tmp 3) (.pointer (some ⟨w.heap.size,0,none⟩)) (.agg (pw a)) rfl (by kernel_rfl) (by kernel_rfl) (fun _ c=>ld_pw (c.is _ _ (by simp))) ?_
  with_reducible refine q_val (.pointer (some ⟨F,0,none⟩)) (by kernel_rfl) (fun _ _=>by kernel_rfl) ?_
  with_reducible refine q_val (.pointer (some ⟨F,0,none⟩)) (by kernel_rfl) (fun _ _=>run_nil (.tmp 6) _ rfl (by kernel_rfl)) ?_
  with_reducible refine q_sem2 (Instr.fieldAt 102 (.pointer (some ⟨F,0,none⟩)) 0) (.pointer (some ⟨F,0,none⟩)) (by kernel_rfl) (by kernel_rfl) (fun w' _=>fld_at F w') ?_
  with_reducible refine q_load 24 (.tmp 8) (.pointer (some ⟨F,0,none⟩)) (.agg (pw m)) rfl (by kernel_rfl) (by kernel_rfl) (fun _ c=>ld_m c.fld) ?_
  with_reducible refine q_call 94 #[.agg (pw a),.agg (pw m)] (.int .i64 (ord a m)) (by kernel_rfl) (fun _=>by kernel_rfl) (HCM.out) ?_
  with_reducible refine q_bin .lss 3 _ _ 3 (.int .i64 (ord a m)) (.int .i64 0) (.bool true) rfl (by kernel_rfl) (by kernel_rfl) (by kernel_rfl) (fun _=>by kernel_rfl) (fun w'=>(lss_ord a m w').trans (by rw[decide_eq_true hlt])) ?_
  with_reducible refine wpQuiet_nil ?_
  intro wx hC;have HC:=Lib.hid hC;clear hC H0 HCM;simp only[Act.put,List.setIfInBounds_toArray,List.set_cons_succ,List.set_cons_zero]
  go_wp2_with (first | (refine wpList_ld rfl 24 _ rfl (.pointer (some ⟨w.heap.size,0,none⟩)) (.agg (pw a)) rfl (ld_pw (by exact HC.out.is _ _ (by simp))) ?_) | (refine wpList_store_row rfl 24 _ _ rfl (w.heap.size+1) (pw a) rfl rfl 24 (#[.int .u64 0,.int .u64 0,.int .u64 0,.int .u64 0]) (by exact HC.out.is _ _ (by simp)) (by rw[pw_size];exact infoW4) (by first | rfl | (rw[pw_size];rfl) | (rw[pw_size,pw_size])) (pw_one _) ?_))
  (try simp only[Act.put])
  refine bodyPost_ret (v:=.agg (pw a)) (results_cell_row (p:=4) rfl _ _ (w.heap.size+1) 24 (pw a) (0,0) _ rfl (setRow_heap _ _ _ _ _ _ (by exact HC.out.is _ (#[.int .u64 0,.int .u64 0,.int .u64 0,.int .u64 0]) (by simp))) Tryz.underlying24 rfl (by rw[pw_size];exact infoW4)) rfl ⟨rfl,below_setRow HC.out.old (by omega) _⟩
 ·obtain⟨y,hy⟩:∃ y,a%m=y:=⟨_,rfl⟩
  rw[hy]at HMD |-
  clear HQ hy;go_enter Tryz.func70,Tryz.ntmps70
  go_wp2_with fail
  refine wp_region_quiet (C:=CW w F m [(w.heap.size+1,#[.int .u64 0,.int .u64 0,.int .u64 0,.int .u64 0]),(w.heap.size,pw a)]) (by kernel_rfl) (by kernel_rfl) (H0.out.drew) ?_;simp only
  with_reducible refine q_load 24 (.tmp 3) (.pointer (some ⟨w.heap.size,0,none⟩)) (.agg (pw a)) rfl (by kernel_rfl) (by kernel_rfl) (fun _ c=>ld_pw (c.is _ _ (by simp))) ?_
  with_reducible refine q_val (.pointer (some ⟨F,0,none⟩)) (by kernel_rfl) (fun _ _=>by kernel_rfl) ?_
  with_reducible refine q_val (.pointer (some ⟨F,0,none⟩)) (by kernel_rfl) (fun _ _=>run_nil (.tmp 6) _ rfl (by kernel_rfl)) ?_
  with_reducible refine q_sem2 (Instr.fieldAt 102 (.pointer (some ⟨F,0,none⟩)) 0) (.pointer (some ⟨F,0,none⟩)) (by kernel_rfl) (by kernel_rfl) (fun w' _=>fld_at F w') ?_
  with_reducible refine q_load 24 (.tmp 8) (.pointer (some ⟨F,0,none⟩)) (.agg (pw m)) rfl (by kernel_rfl) (by kernel_rfl) (fun _ c=>ld_m c.fld) ?_
  with_reducible refine q_call 94 #[.agg (pw a),.agg (pw m)] (.int .i64 (ord a m)) (by kernel_rfl) (fun _=>by kernel_rfl) (HCM.out) ?_
  with_reducible refine q_bin .lss 3 _ _ 3 (.int .i64 (ord a m)) (.int .i64 0) (.bool false) rfl (by kernel_rfl) (by kernel_rfl) (by kernel_rfl) (fun _=>by kernel_rfl) (fun w'=>(lss_ord a m w').trans (by rw[decide_eq_false hlt])) ?_
  with_reducible refine wpQuiet_nil ?_
  intro wx hC;have HC:=Lib.hid hC;clear hC H0 HCM;simp only[Act.put,List.setIfInBounds_toArray,List.set_cons_succ,List.set_cons_zero]
  go_wp2_with fail
  refine region_quiet_tail 6 (CW w F m [(w.heap.size+1,#[.int .u64 0,.int .u64 0,.int .u64 0,.int .u64 0]),(w.heap.size,pw a)]) (by kernel_rfl) (by kernel_rfl) (HC.out.drew) ?_;simp only[List.take_succ_cons,List.take_zero,List.drop_succ_cons,List.drop_zero]
  with_reducible refine q_load 24 (.tmp 3) (.pointer (some ⟨w.heap.size,0,none⟩)) (.agg (pw a)) rfl (by kernel_rfl) (by kernel_rfl) (fun _ c=>ld_pw (c.is _ _ (by simp))) ?_
  with_reducible refine q_val (.pointer (some ⟨F,0,none⟩)) (by kernel_rfl) (fun _ _=>by kernel_rfl) ?_
  with_reducible refine q_val (.pointer (some ⟨F,0,none⟩)) (by kernel_rfl) (fun _ _=>run_nil (.tmp 14) _ rfl (by kernel_rfl)) ?_
  with_reducible refine q_sem2 (Instr.fieldAt 102 (.pointer (some ⟨F,0,none⟩)) 0) (.pointer (some ⟨F,0,none⟩)) (by kernel_rfl) (by kernel_rfl) (fun w' _=>fld_at F w') ?_
  with_reducible refine q_load 24 (.tmp 16) (.pointer (some ⟨F,0,none⟩)) (.agg (pw m)) rfl (by kernel_rfl) (by kernel_rfl) (fun _ c=>ld_m c.fld) ?_
  with_reducible refine q_call 99 #[.agg (pw a),.agg (pw m)] (.agg (pw y)) (by kernel_rfl) (fun _=>by kernel_rfl) (HMD.out) ?_
  with_reducible refine wpQuiet_nil ?_
  intro wx hC;have HC2:=Lib.hid hC;clear hC HC HMD;simp only[Act.put,List.setIfInBounds_toArray,List.set_cons_succ,List.set_cons_zero]
  go_wp2_with (refine wpList_store_row rfl 24 _ _ rfl (w.heap.size+1) (pw y) rfl rfl 24 (#[.int .u64 0,.int .u64 0,.int .u64 0,.int .u64 0]) (by exact HC2.out.is _ _ (by simp)) (by rw[pw_size];exact infoW4) (by first | rfl | (rw[pw_size];rfl) | (rw[pw_size,pw_size])) (pw_one _) ?_)
  (try simp only[Act.put])
  refine bodyPost_ret (v:=.agg (pw y)) (results_cell_row (p:=4) rfl _ _ (w.heap.size+1) 24 (pw y) (0,0) _ rfl (setRow_heap _ _ _ _ _ _ (by exact HC2.out.is _ (#[.int .u64 0,.int .u64 0,.int .u64 0,.int .u64 0]) (by simp))) Tryz.underlying24 rfl (by rw[pw_size];exact infoW4)) rfl ⟨rfl,below_setRow HC2.out.old (by omega) _⟩
end Go.Proofs.YthnckclbeecnmaaGreat
