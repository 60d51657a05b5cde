/- What word.hasBit, word.Len, bailiwickref01.Bit come to, called with any word. (Cut to what is reached, written closely: RMods · PMods · PAdd · AddsAny · BitsW.) -/
import Derived.Test.YtadfjjfklihaaaaGreatP13
import Derived.Test.YtadfjjfklihaaaaGreatP12
import Derived.Test.YtadfjjfklihaaaaGreatP7
import Derived.Test.YtadfjjfklihaaaaGreatP9
set_option linter.all false
set_option maxRecDepth 100000
set_option maxHeartbeats 8000000
namespace Go.Proofs.YtadfjjfklihaaaaGreat
open Go.RowKit
structure CT (w:World) (x y z:Nat) (wx:World):Prop where
 old:Below w.heap.size w wx
 r0:wx.heap[w.heap.size]?=some (.cells (pw x) 24 (0,0))
 r1:wx.heap[w.heap.size+1]?=some (.cells (pw y) 24 (0,0))
 r2:wx.heap[w.heap.size+1+1]?=some (.cells (pw z) 24 (0,0))
 r3:wx.heap[w.heap.size+1+1+1]?=some (.cells #[.int .u64 0,.int .u64 0,.int .u64 0,.int .u64 0] 24 (0,0))
theorem CT.below{w wx w':World}{x y z:Nat}(h:CT w x y z wx)(hb:Below wx.heap.size wx w'):CT w x y z w' :=
 ⟨h.old.trans (hb.mono h.old.size),(hb.block _ (Array.getElem?_eq_some_iff.1 h.r0).1).trans h.r0,(hb.block _ (Array.getElem?_eq_some_iff.1 h.r1).1).trans h.r1,(hb.block _ (Array.getElem?_eq_some_iff.1 h.r2).1).trans h.r2,(hb.block _ (Array.getElem?_eq_some_iff.1 h.r3).1).trans h.r3⟩
open Go.RowKit
theorem widen_one(a0 a1 a2 a3 c b:Nat)(w:World)(hb:b<w.heap.size)(hc:w.cell? ⟨b,0,none⟩=some (.int .u64 c)) :
  Calls Tryz.prog 140 #[.agg #[.int .u64 a0,.int .u64 a1,.int .u64 a2,.int .u64 a3],.slice (some ⟨b,0,none⟩) 1 1] w fun e w' =>
   e=.returned (.agg #[.int .u64 a0,.int .u64 a1,.int .u64 a2,.int .u64 a3,.int .u64 c,.int .u64 0,.int .u64 0,.int .u64 0])/\Below w.heap.size w w':=by
 have hcp:=copy4 ((((w.alloc (.cells #[.int .u64 a0,.int .u64 a1,.int .u64 a2,.int .u64 a3] 24)).alloc (.cells #[.int .u64 0,.int .u64 0,.int .u64 0,.int .u64 0,.int .u64 0,.int .u64 0,.int .u64 0,.int .u64 0] 168)).alloc (.cells #[.int .u64 0,.int .u64 0,.int .u64 0,.int .u64 0,.int .u64 0,.int .u64 0,.int .u64 0,.int .u64 0] 168)).drew) (w.heap.size+1+1) w.heap.size a0 a1 a2 a3
  (by go_cell) (by go_cell) (by go_cell) (by go_cell) (by go_simp) (by go_simp) (by go_simp) (by go_simp) (by go_cell) (by go_cell) (by go_cell) (by go_cell)
 have hcn:=run_copy_cells (P:=Tryz.prog) ((((w.alloc (.cells #[.int .u64 a0,.int .u64 a1,.int .u64 a2,.int .u64 a3] 24)).alloc (.cells #[.int .u64 0,.int .u64 0,.int .u64 0,.int .u64 0,.int .u64 0,.int .u64 0,.int .u64 0,.int .u64 0] 168)).alloc (.cells #[.int .u64 a0,.int .u64 a1,.int .u64 a2,.int .u64 a3,.int .u64 0,.int .u64 0,.int .u64 0,.int .u64 0] 168)).drew) 126 126 3 22 (w.heap.size+1+1) 4 4 4 ⟨b,0,none⟩ 1 1 [.int .u64 c] Tryz.underlying126 (by kernel_rfl) rfl
  (fun j v hj=>by
   rcases j with _ | j
   ·cases hj;exact((show Below w.heap.size w ((((w.alloc (.cells #[.int .u64 a0,.int .u64 a1,.int .u64 a2,.int .u64 a3] 24)).alloc (.cells #[.int .u64 0,.int .u64 0,.int .u64 0,.int .u64 0,.int .u64 0,.int .u64 0,.int .u64 0,.int .u64 0] 168)).alloc (.cells #[.int .u64 a0,.int .u64 a1,.int .u64 a2,.int .u64 a3,.int .u64 0,.int .u64 0,.int .u64 0,.int .u64 0] 168)).drew) by go_grown).cell (p:=⟨b,0,none⟩) hb).trans hc
   ·simp at hj)
  (fun j hj=>by
   rcases j with _ | j
   ·exact(congrArg Option.isSome (show World.cell? ((((w.alloc (.cells #[.int .u64 a0,.int .u64 a1,.int .u64 a2,.int .u64 a3] 24)).alloc (.cells #[.int .u64 0,.int .u64 0,.int .u64 0,.int .u64 0,.int .u64 0,.int .u64 0,.int .u64 0,.int .u64 0] 168)).alloc (.cells #[.int .u64 a0,.int .u64 a1,.int .u64 a2,.int .u64 a3,.int .u64 0,.int .u64 0,.int .u64 0,.int .u64 0] 168)).drew) ⟨w.heap.size+1+1,4,none⟩=some (.int .u64 0) by go_cell)).trans rfl
   ·simp at hj)
  (fun j hj=>by
   rcases j with _ | j
   ·show World.frozen? ((((w.alloc (.cells #[.int .u64 a0,.int .u64 a1,.int .u64 a2,.int .u64 a3] 24)).alloc (.cells #[.int .u64 0,.int .u64 0,.int .u64 0,.int .u64 0,.int .u64 0,.int .u64 0,.int .u64 0,.int .u64 0] 168)).alloc (.cells #[.int .u64 a0,.int .u64 a1,.int .u64 a2,.int .u64 a3,.int .u64 0,.int .u64 0,.int .u64 0,.int .u64 0] 168)).drew) ⟨w.heap.size+1+1,4,none⟩=false;go_cell
   ·simp at hj)
  (fun v hv=>by simp at hv;rcases hv with rfl;rfl)
 simp only[World.setCells]at hcn;go_enter Tryz.func140,Tryz.ntmps140;go_wp2
 go_region
 go_wp2
 go_returns
 refine⟨?_,by go_grown⟩;rfl
theorem widen_more(x c b:Nat)(hc:c<18446744073709551616)(w:World)(hb:b<w.heap.size)(h:w.cell? ⟨b,0,none⟩=some (.int .u64 c)):Calls Tryz.prog 140 #[wv x,.slice (some ⟨b,0,none⟩) 1 1] w fun e w'=>e=.returned (dv (x%2^256+2^256*c))/\Below w.heap.size w w':=by
 obtain⟨a0,a1,a2,a3,u0,u1,u2,u3,ea,na⟩:=wv_parts x;have h:=widen_one a0 a1 a2 a3 c b w hb h;rw[ea,<- na];have hn:dv (n4 a0 a1 a2 a3+2^256*c)=.agg #[.int .u64 a0,.int .u64 a1,.int .u64 a2,.int .u64 a3,.int .u64 c,.int .u64 0,.int .u64 0,.int .u64 0]:=by
  have:=dv_n8 (a5:=0) (a6:=0) (a7:=0) u0 u1 u2 u3 hc (by omega) (by omega) (by omega);rw[show n8 a0 a1 a2 a3 c 0 0 0=n4 a0 a1 a2 a3+2^256*c by unfold n8 n4;omega]at this;exact this
 rw[hn];exact h
theorem CT.high{w wx:World}{x y z:Nat}(h:CT w x y z wx):w.heap.size+1+1+1+1<=wx.heap.size:=(Array.getElem?_eq_some_iff.1 h.r3).1
theorem CT.rowed{w wx:World}{x y z g:Nat}{cs:Array Value}(h:CT w x y z wx)(hg:w.heap.size+1+1+1+1<=g):CT w x y z (wx.setRow g cs) :=
 ⟨below_setRow h.old (by omega) _,(setRow_other _ _ _ _ (by omega)).trans h.r0,(setRow_other _ _ _ _ (by omega)).trans h.r1,(setRow_other _ _ _ _ (by omega)).trans h.r2,(setRow_other _ _ _ _ (by omega)).trans h.r3⟩
theorem mul_small(x y:Nat):(x%2^256)*(y%2^256)<13407807929942597099574024998205846127479365820592393377723561443721764030073546976801874298166903427690031858186486050853753882811946569946433649006084096:=by
 have h1:=Nat.mod_lt x (show(2^256) > 0 by omega);have h2:=Nat.mod_lt y (show(2^256) > 0 by omega);have:=Nat.mul_lt_mul'' h1 h2;rwa [show(2^256)*2^256=13407807929942597099574024998205846127479365820592393377723561443721764030073546976801874298166903427690031858186486050853753882811946569946433649006084096 by rfl]at this
-- WHAT word.MulMod COMES TO.
theorem mulmod_any(x y z:Nat)(w:World):Calls Tryz.prog 127 #[wv x,wv y,wv z] w fun e w'=>e=.returned (wv (remV ((x%2^256)*(y%2^256)) z))/\Below w.heap.size w w':=by
 rw[wv_pw x,wv_pw y,wv_pw z];go_enter Tryz.func127,Tryz.ntmps127
 go_wp2_with fail
 refine region_tie (CT w x y z) (fun i s wx=>match i with | 0=>s 10=wv x | 1=>s 11=wv y | 2=>s 12=dv ((x%2^256)*(y%2^256)) | 3=>s 13=wv z | 4=>s 14=.tuple #[dv (quoV ((x%2^256)*(y%2^256)) z),wv (remV ((x%2^256)*(y%2^256)) z)] | 5=>s 9=.tuple #[dv (quoV ((x%2^256)*(y%2^256)) z),wv (remV ((x%2^256)*(y%2^256)) z)] | 6=>s 15=dv (quoV ((x%2^256)*(y%2^256)) z) | 7=>s 16=wv (remV ((x%2^256)*(y%2^256)) z) | 8=>∃ D,s 7=.pointer (some ⟨D,0,none⟩)/\w.heap.size+1+1+1+1<=D/\∃ cs,wx.heap[D]?=some (.cells cs 168 (0,0))/\cs.size=8 | 9=>∃ D,s 8=.pointer (some ⟨D,0,none⟩)/\w.heap.size+1+1+1+1<=D/\∃ cs,wx.heap[D]?=some (.cells cs 24 (0,0))/\cs.size=4 | 10=>∃ D,s 7=.pointer (some ⟨D,0,none⟩)/\w.heap.size+1+1+1+1<=D/\wx.heap[D]?=some (.cells (FQ (quoV ((x%2^256)*(y%2^256)) z) (remV ((x%2^256)*(y%2^256)) z) 168) 168 (0,0)) | 11=>∃ D,s 8=.pointer (some ⟨D,0,none⟩)/\w.heap.size+1+1+1+1<=D/\wx.heap[D]?=some (.cells (FQ (quoV ((x%2^256)*(y%2^256)) z) (remV ((x%2^256)*(y%2^256)) z) 24) 24 (0,0)) | _=>True) (RT (w.heap.size+1+1+1+1) (FQ (quoV ((x%2^256)*(y%2^256)) z) (remV ((x%2^256)*(y%2^256)) z))) (fun i=>match i with | 0=>[10] | 1=>[11] | 2=>[12] | 3=>[13] | 4=>[14] | 5=>[9] | 6=>[15] | 7=>[16] | 8=>[7] | 9=>[8] | 10=>[7] | 11=>[8] | _=>[]) (fun i=>i) (by kernel_rfl) (by kernel_rfl) ⟨Below.drew (by go_grown),(heap4 _ _ _ _ _).1,(heap4 _ _ _ _ _).2.1,(heap4 _ _ _ _ _).2.2.1,(heap4 _ _ _ _ _).2.2.2⟩ ?_ ?_ ?_ ?_
 ·intro i s s' wx he hp
  match i,he,hp with
  | 0,he,hp=>exact(he 10 (by simp)).symm.trans hp
  | 1,he,hp=>exact(he 11 (by simp)).symm.trans hp
  | 2,he,hp=>exact(he 12 (by simp)).symm.trans hp
  | 3,he,hp=>exact(he 13 (by simp)).symm.trans hp
  | 4,he,hp=>exact(he 14 (by simp)).symm.trans hp
  | 5,he,hp=>exact(he 9 (by simp)).symm.trans hp
  | 6,he,hp=>exact(he 15 (by simp)).symm.trans hp
  | 7,he,hp=>exact(he 16 (by simp)).symm.trans hp
  | 8,he,hp=>obtain⟨D,h1,h2⟩:=hp;exact⟨D,(he 7 (by simp)).symm.trans h1,h2⟩
  | 9,he,hp=>obtain⟨D,h1,h2⟩:=hp;exact⟨D,(he 8 (by simp)).symm.trans h1,h2⟩
  | 10,he,hp=>obtain⟨D,h1,h2⟩:=hp;exact⟨D,(he 7 (by simp)).symm.trans h1,h2⟩
  | 11,he,hp=>obtain⟨D,h1,h2⟩:=hp;exact⟨D,(he 8 (by simp)).symm.trans h1,h2⟩
  | _+12,_,_=>trivial
 ·intro i s wa wb hR hp
  match i,hp with
  | 0,hp=>exact hp
  | 1,hp=>exact hp
  | 2,hp=>exact hp
  | 3,hp=>exact hp
  | 4,hp=>exact hp
  | 5,hp=>exact hp
  | 6,hp=>exact hp
  | 7,hp=>exact hp
  | 8,hp=>obtain⟨D,h1,h2,cs,h3,h4⟩:=hp;obtain⟨cs',h5,h6⟩:=hR.shape _ _ _ _ h3;exact⟨D,h1,h2,cs',h5,h6.trans h4⟩
  | 9,hp=>obtain⟨D,h1,h2,cs,h3,h4⟩:=hp;obtain⟨cs',h5,h6⟩:=hR.shape _ _ _ _ h3;exact⟨D,h1,h2,cs',h5,h6.trans h4⟩
  | 10,hp=>obtain⟨D,h1,h2,h3⟩:=hp;exact⟨D,h1,h2,hR.keep _ _ _ h3⟩
  | 11,hp=>obtain⟨D,h1,h2,h3⟩:=hp;exact⟨D,h1,h2,hR.keep _ _ _ h3⟩
  | _+12,_=>trivial
 ·refine⟨?_,?_,?_,?_,?_,?_,?_,?_,?_,?_,?_,?_,trivial⟩
  ·intro a wx hC hsz hK
   have h0:a.tmps.getD 3 undef=.pointer (some ⟨w.heap.size,0,none⟩):=hK.1 3 (by kernel_rfl);exact tt_load 24 (.tmp 3) (.pointer (some ⟨w.heap.size,0,none⟩)) (wv x) rfl (by kernel_rfl) h0 (load_pw hC.r0) hC (slots_put _ _ _ (by rw[hsz];exact of_decide_eq_true (by kernel_rfl))) (RT.refl _ _ _)
  ·intro a wx hC hsz hK
   have h0:a.tmps.getD 4 undef=.pointer (some ⟨w.heap.size+1,0,none⟩):=hK.1 4 (by kernel_rfl);exact tt_load 24 (.tmp 4) (.pointer (some ⟨w.heap.size+1,0,none⟩)) (wv y) rfl (by kernel_rfl) h0 (load_pw hC.r1) hC (slots_put _ _ _ (by rw[hsz];exact of_decide_eq_true (by kernel_rfl))) (RT.refl _ _ _)
  ·intro a wx hC hsz hK
   have h0:a.tmps.getD 10 undef=wv x:=hK.2 ⟨0,.data⟩ (by simp) rfl _ rfl;have h1:a.tmps.getD 11 undef=wv y:=hK.2 ⟨1,.data⟩ (by simp) rfl _ rfl;refine tt_call 141 #[a.tmps.getD 10 undef,a.tmps.getD 11 undef] (by kernel_rfl) (by kernel_rfl) ?_;rw[h0,h1];exact((fun wx=>product_any x y wx) wx).mono fun e w' hh=>⟨_,hh.1,hC.below hh.2,slots_put _ _ _ (by rw[hsz];exact of_decide_eq_true (by kernel_rfl)),RT.of hC.high hh.2⟩
  ·intro a wx hC hsz hK
   have h0:a.tmps.getD 5 undef=.pointer (some ⟨w.heap.size+1+1,0,none⟩):=hK.1 5 (by kernel_rfl);exact tt_load 24 (.tmp 5) (.pointer (some ⟨w.heap.size+1+1,0,none⟩)) (wv z) rfl (by kernel_rfl) h0 (load_pw hC.r2) hC (slots_put _ _ _ (by rw[hsz];exact of_decide_eq_true (by kernel_rfl))) (RT.refl _ _ _)
  ·intro a wx hC hsz hK
   have h0:a.tmps.getD 12 undef=dv ((x%2^256)*(y%2^256)):=hK.2 ⟨2,.data⟩ (by simp) rfl _ rfl;have h1:a.tmps.getD 13 undef=wv z:=hK.2 ⟨3,.data⟩ (by simp) rfl _ rfl;refine tt_call 139 #[a.tmps.getD 12 undef,a.tmps.getD 13 undef] (by kernel_rfl) (by kernel_rfl) ?_;rw[h0,h1];exact((fun wx=>divide_all ((x%2^256)*(y%2^256)) z (mul_small x y) wx) wx).mono fun e w' hh=>⟨_,hh.1,hC.below hh.2,slots_put _ _ _ (by rw[hsz];exact of_decide_eq_true (by kernel_rfl)),RT.of hC.high hh.2⟩
  ·intro a wx hC hsz hK
   have h0:a.tmps.getD 14 undef=.tuple #[dv (quoV ((x%2^256)*(y%2^256)) z),wv (remV ((x%2^256)*(y%2^256)) z)]:=hK.2 ⟨4,.data⟩ (by simp) rfl _ rfl;exact tt_val (.tuple #[dv (quoV ((x%2^256)*(y%2^256)) z),wv (remV ((x%2^256)*(y%2^256)) z)]) (by kernel_rfl) (by rw[<- h0];kernel_rfl) hC (slots_put _ _ _ (by rw[hsz];exact of_decide_eq_true (by kernel_rfl))) (RT.refl _ _ _)
  ·intro a wx hC hsz hK
   have h0:a.tmps.getD 9 undef=.tuple #[dv (quoV ((x%2^256)*(y%2^256)) z),wv (remV ((x%2^256)*(y%2^256)) z)]:=hK.2 ⟨5,.data⟩ (by simp) rfl _ rfl;refine tt_v (Instr.extract (a.tmps.getD 9 undef) 0) (dv (quoV ((x%2^256)*(y%2^256)) z)) (by kernel_rfl) rfl ?_ hC (slots_put _ _ _ (by rw[hsz];exact of_decide_eq_true (by kernel_rfl))) (RT.refl _ _ _);rw[h0];kernel_rfl
  ·intro a wx hC hsz hK
   have h0:a.tmps.getD 9 undef=.tuple #[dv (quoV ((x%2^256)*(y%2^256)) z),wv (remV ((x%2^256)*(y%2^256)) z)]:=hK.2 ⟨5,.data⟩ (by simp) rfl _ rfl;refine tt_v (Instr.extract (a.tmps.getD 9 undef) 1) (wv (remV ((x%2^256)*(y%2^256)) z)) (by kernel_rfl) rfl ?_ hC (slots_put _ _ _ (by rw[hsz];exact of_decide_eq_true (by kernel_rfl))) (RT.refl _ _ _);rw[h0];kernel_rfl
  ·intro a wx hC hsz hK
   exact tt_new (.pointer (some ⟨wx.heap.size,0,none⟩)) (by kernel_rfl) (by kernel_rfl) (hC.below ((Below.refl _ _).alloc (Nat.le_refl _) _)) ⟨_,slots_put _ _ _ (by rw[hsz];exact of_decide_eq_true (by kernel_rfl)),hC.high,#[.int .u64 0,.int .u64 0,.int .u64 0,.int .u64 0,.int .u64 0,.int .u64 0,.int .u64 0,.int .u64 0],heap_alloc_new _ _,rfl⟩ (RT.of hC.high ((Below.refl _ _).alloc (Nat.le_refl _) _))
  ·intro a wx hC hsz hK
   exact tt_new (.pointer (some ⟨wx.heap.size,0,none⟩)) (by kernel_rfl) (by kernel_rfl) (hC.below ((Below.refl _ _).alloc (Nat.le_refl _) _)) ⟨_,slots_put _ _ _ (by rw[hsz];exact of_decide_eq_true (by kernel_rfl)),hC.high,#[.int .u64 0,.int .u64 0,.int .u64 0,.int .u64 0],heap_alloc_new _ _,rfl⟩ (RT.of hC.high ((Below.refl _ _).alloc (Nat.le_refl _) _))
  ·intro a wx hC hsz hK
   obtain⟨D,h1,h2,cs,h3,h4⟩:=hK.2 ⟨8,.data⟩ (by simp) rfl _ rfl;have h0:a.tmps.getD 15 undef=dv (quoV ((x%2^256)*(y%2^256)) z):=hK.2 ⟨6,.data⟩ (by simp) rfl _ rfl;exact tt_store (by kernel_rfl) rfl (run_store 168 (.tmp 7) (.tmp 15) _ _ rfl h1 h0 (store_dw h3 h4)) (hC.rowed h2) ⟨D,h1,h2,setRow_heap _ _ _ _ _ _ h3⟩ (RT.row h2 h3 h4)
  ·intro a wx hC hsz hK
   obtain⟨D,h1,h2,cs,h3,h4⟩:=hK.2 ⟨9,.data⟩ (by simp) rfl _ rfl;have h0:a.tmps.getD 16 undef=wv (remV ((x%2^256)*(y%2^256)) z):=hK.2 ⟨7,.data⟩ (by simp) rfl _ rfl;exact tt_store (by kernel_rfl) rfl (run_store 24 (.tmp 8) (.tmp 16) _ _ rfl h1 h0 (store_qw h3 h4)) (hC.rowed h2) ⟨D,h1,h2,setRow_heap _ _ _ _ _ _ h3⟩ (RT.row h2 h3 h4)
 ·intro f wx hC hf
  have s10:=hf 0 _ rfl;have s11:=hf 1 _ rfl;have s12:=hf 2 _ rfl;have s13:=hf 3 _ rfl;have s14:=hf 4 _ rfl;have s9:=hf 5 _ rfl;have s15:=hf 6 _ rfl;have s16:=hf 7 _ rfl;obtain⟨D7,s7,g7,r7⟩:=hf 10 _ rfl;obtain⟨D8,s8,g8,r8⟩:=hf 11 _ rfl;clear hf;generalize hA:putAll _ _ _=A at *;have hsz:A.tmps.size=18:=by rw[<- hA,putAll_size];rfl
  have t0:A.tmps.getD 0 undef=.agg (pw x):=by subst hA;kernel_rfl
  have t1:A.tmps.getD 1 undef=.agg (pw y):=by subst hA;kernel_rfl
  have t2:A.tmps.getD 2 undef=.agg (pw z):=by subst hA;kernel_rfl
  have t3:A.tmps.getD 3 undef=.pointer (some ⟨w.heap.size,0,none⟩):=by subst hA;kernel_rfl
  have t4:A.tmps.getD 4 undef=.pointer (some ⟨w.heap.size+1,0,none⟩):=by subst hA;kernel_rfl
  have t5:A.tmps.getD 5 undef=.pointer (some ⟨w.heap.size+1+1,0,none⟩):=by subst hA;kernel_rfl
  have t6:A.tmps.getD 6 undef=.pointer (some ⟨w.heap.size+1+1+1,0,none⟩):=by subst hA;kernel_rfl
  have t17:A.tmps.getD 17 undef=undef:=by subst hA;kernel_rfl
  have hd:A.defers=[]:=by subst hA;kernel_rfl
  clear hA;obtain⟨tm,df⟩:=A;simp only[slots]at *;have hL:=arr_lit tm;rw[hsz]at hL;simp only[List.range,List.range.loop,List.map]at hL;rw[t0,t1,t2,t3,t4,t5,t6,s7,s8,s9,s10,s11,s12,s13,s14,s15,s16,t17]at hL;subst hL hd;clear t0 t1 t2 t3 t4 t5 t6 s7 s8 s9 s10 s11 s12 s13 s14 s15 s16 t17 hsz;have hr:wx.heap[D8]?=some (.cells (pw (remV ((x%2^256)*(y%2^256)) z)) 24 (0,0)):=r8;have HC:=Lib.hid hC;clear hC
  go_wp2_with (first | (refine wpList_load_row rfl 24 _ rfl D8 rfl 24 (pw (remV ((x%2^256)*(y%2^256)) z)) (0,0) _ hr Tryz.underlying24 rfl infoWord ?_) | (refine wpList_store_row rfl 24 _ _ rfl (w.heap.size+1+1+1) (pw (remV ((x%2^256)*(y%2^256)) z)) rfl rfl 24 #[.int .u64 0,.int .u64 0,.int .u64 0,.int .u64 0] HC.out.r3 infoWord rfl (pw_one _) ?_))
  (try simp only[Exit.inBlock,Exit.then])
  exact bodyPost_ret (v:=.agg (pw (remV ((x%2^256)*(y%2^256)) z))) (results_cell_row (p:=6) rfl _ _ (w.heap.size+1+1+1) 24 _ (0,0) _ rfl (setRow_heap _ _ _ _ _ _ HC.out.r3) Tryz.underlying24 rfl infoWord) rfl ⟨rfl,below_setRow HC.out.old (by omega) _⟩
open Go.RowKit
def FA(q r c:Nat)(T:TypeId):Array Value:=if T=168 then dw q else if T=22 then #[.int .u64 c]else pw r
theorem store_da{g q r c:Nat}{w:World}{cs:Array Value}(hg:w.heap[g]?=some (.cells cs 168 (0,0)))(hs:cs.size=(FA q r c 168).size):(Instr.storeAt 168 (.pointer (some ⟨g,0,none⟩)) (dv q)).run Tryz.prog w=.ok () (w.setRow g (FA q r c 168)):=store_dw (r:=r) hg hs
theorem store_qa{g q r c:Nat}{w:World}{cs:Array Value}(hg:w.heap[g]?=some (.cells cs 24 (0,0)))(hs:cs.size=(FA q r c 24).size):(Instr.storeAt 24 (.pointer (some ⟨g,0,none⟩)) (wv r)).run Tryz.prog w=.ok () (w.setRow g (FA q r c 24)):=store_pw hs hg
structure CU (w:World) (D x y z:Nat) (wx:World):Prop where
 ct:CT w x y z wx
 far:w.heap.size+1+1+1+1<=D
 sum:wx.heap[D]?=some (.cells (pw (x+y)) 24 (0,0))
theorem CU.high{w wx:World}{D x y z:Nat}(h:CU w D x y z wx):D+1<=wx.heap.size:=(Array.getElem?_eq_some_iff.1 h.sum).1
theorem CU.below{w wx w':World}{D x y z:Nat}(h:CU w D x y z wx)(hb:Below wx.heap.size wx w'):CU w D x y z w':=⟨h.ct.below hb,h.far,(hb.block _ h.high).trans h.sum⟩
theorem CU.rowed{w wx:World}{D x y z g:Nat}{cs:Array Value}(h:CU w D x y z wx)(hg:D+1<=g):CU w D x y z (wx.setRow g cs):=⟨h.ct.rowed (by have:=h.far;omega),h.far,(setRow_other _ _ _ _ (by omega)).trans h.sum⟩
theorem sum_split(x y:Nat):(x+y)%2^256+2^256*(((x%2^256)+(y%2^256)) / 2^256)=((x%2^256)+(y%2^256)):=by
 rw[Nat.add_mod x y];exact Nat.mod_add_div _ _
theorem carry_lt(x y:Nat):(((x%2^256)+(y%2^256)) / 2^256)<18446744073709551616:=by
 have h1:=Nat.mod_lt x (show(2^256) > 0 by omega);have h2:=Nat.mod_lt y (show(2^256) > 0 by omega);omega
-- WHAT word.AddMod COMES TO.
theorem addmod_any(x y z:Nat)(w:World):Calls Tryz.prog 125 #[wv x,wv y,wv z] w fun e w'=>e=.returned (wv (remV ((x%2^256)+(y%2^256)) z))/\Below w.heap.size w w':=by
 rw[wv_pw x,wv_pw y,wv_pw z];have hadd:∀ w,Calls Tryz.prog 129 #[.agg (pw x),.agg (pw y)] w fun e w'=>e=.returned (.tuple #[.agg (pw (x+y)),.int .u64 ((((x%2^256)+(y%2^256)) / 2^256):Nat)])/\Below w.heap.size w w':=fun w=>addCarry_any x y w;have HADD:=Lib.hid hadd;clear hadd;have hcl:=carry_lt x y;have hV:((x%2^256)+(y%2^256))<13407807929942597099574024998205846127479365820592393377723561443721764030073546976801874298166903427690031858186486050853753882811946569946433649006084096:=by
  have h1:=Nat.mod_lt x (show(2^256) > 0 by omega);have h2:=Nat.mod_lt y (show(2^256) > 0 by omega);omega
 have HV:=Lib.hid hV;clear hV;have HCL:=Lib.hid hcl;clear hcl;have hC0:CT w x y z ((((w.alloc (.cells (pw x) 24)).alloc (.cells (pw y) 24)).alloc (.cells (pw z) 24)).alloc (.cells #[.int .u64 0,.int .u64 0,.int .u64 0,.int .u64 0] 24)):=⟨by go_grown,(heap4 _ _ _ _ _).1,(heap4 _ _ _ _ _).2.1,(heap4 _ _ _ _ _).2.2.1,(heap4 _ _ _ _ _).2.2.2⟩
 have HC0:=Lib.hid hC0;clear hC0;go_enter Tryz.func125,Tryz.ntmps125
 go_wp2_with (first | (refine wpList_load_row rfl 24 _ rfl w.heap.size rfl 24 (pw x) (0,0) _ HC0.out.r0 Tryz.underlying24 rfl infoWord ?_) | (refine wpList_load_row rfl 24 _ rfl (w.heap.size+1) rfl 24 (pw y) (0,0) _ HC0.out.r1 Tryz.underlying24 rfl infoWord ?_))
 refine(HADD.out _).mono ?_;rintro e w1 ⟨rfl,hb⟩;have HC1:=Lib.hid (HC0.out.below hb);clear hb
 go_wp2_with (refine wpList_store_row rfl 24 _ _ rfl w1.heap.size (pw (x+y)) rfl rfl 24 #[.int .u64 0,.int .u64 0,.int .u64 0,.int .u64 0] (heap_alloc_new _ _) infoWord rfl (pw_one _) ?_)
 have hCU:CU w w1.heap.size x y z ((w1.alloc (.cells #[.int .u64 0,.int .u64 0,.int .u64 0,.int .u64 0] 24)).setRow w1.heap.size (pw (x+y))):=⟨(HC1.out.below (by go_grown)).rowed HC1.out.high,HC1.out.high,setRow_heap _ _ _ _ _ _ (heap_alloc_new _ _)⟩
 obtain⟨E,hD⟩:∃ E,w1.heap.size=E:=⟨_,rfl⟩
 rw[hD]at hCU |-
 have HCU:=Lib.hid hCU;clear hCU;refine region_tie (CU w E x y z) (fun i s wx=>match i with | 0=>s 18=wv (x+y) | 1=>s 19=.int .u64 ((((x%2^256)+(y%2^256)) / 2^256):Nat) | 2=>∃ D,s 20=.slice (some ⟨D,0,none⟩) 1 1/\E+1<=D/\wx.heap[D]?=some (.cells (FA (quoV ((x%2^256)+(y%2^256)) z) (remV ((x%2^256)+(y%2^256)) z) (((x%2^256)+(y%2^256)) / 2^256) 22) 22 (0,0)) | 3=>s 21=dv ((x%2^256)+(y%2^256)) | 4=>s 22=wv z | 5=>s 23=.tuple #[dv (quoV ((x%2^256)+(y%2^256)) z),wv (remV ((x%2^256)+(y%2^256)) z)] | 6=>s 17=.tuple #[dv (quoV ((x%2^256)+(y%2^256)) z),wv (remV ((x%2^256)+(y%2^256)) z)] | 7=>s 24=dv (quoV ((x%2^256)+(y%2^256)) z) | 8=>s 25=wv (remV ((x%2^256)+(y%2^256)) z) | 9=>∃ D,s 9=.pointer (some ⟨D,0,none⟩)/\E+1<=D/\∃ cs,wx.heap[D]?=some (.cells cs 168 (0,0))/\cs.size=8 | 10=>∃ D,s 10=.pointer (some ⟨D,0,none⟩)/\E+1<=D/\∃ cs,wx.heap[D]?=some (.cells cs 24 (0,0))/\cs.size=4 | 11=>∃ D,s 9=.pointer (some ⟨D,0,none⟩)/\E+1<=D/\wx.heap[D]?=some (.cells (FA (quoV ((x%2^256)+(y%2^256)) z) (remV ((x%2^256)+(y%2^256)) z) (((x%2^256)+(y%2^256)) / 2^256) 168) 168 (0,0)) | 12=>∃ D,s 10=.pointer (some ⟨D,0,none⟩)/\E+1<=D/\wx.heap[D]?=some (.cells (FA (quoV ((x%2^256)+(y%2^256)) z) (remV ((x%2^256)+(y%2^256)) z) (((x%2^256)+(y%2^256)) / 2^256) 24) 24 (0,0)) | _=>True) (RT (E+1) (FA (quoV ((x%2^256)+(y%2^256)) z) (remV ((x%2^256)+(y%2^256)) z) (((x%2^256)+(y%2^256)) / 2^256))) (fun i=>match i with | 0=>[18] | 1=>[19] | 2=>[20] | 3=>[21] | 4=>[22] | 5=>[23] | 6=>[17] | 7=>[24] | 8=>[25] | 9=>[9] | 10=>[10] | 11=>[9] | 12=>[10] | _=>[]) (fun i=>i) (by kernel_rfl) (by kernel_rfl) ⟨⟨HCU.out.ct.old.drew,HCU.out.ct.r0,HCU.out.ct.r1,HCU.out.ct.r2,HCU.out.ct.r3⟩,HCU.out.far,HCU.out.sum⟩ ?_ ?_ ?_ ?_
 ·intro i s s' wx he hp
  match i,he,hp with
  | 0,he,hp=>exact(he 18 (by simp)).symm.trans hp
  | 1,he,hp=>exact(he 19 (by simp)).symm.trans hp
  | 2,he,hp=>obtain⟨D,h1,h2⟩:=hp;exact⟨D,(he 20 (by simp)).symm.trans h1,h2⟩
  | 3,he,hp=>exact(he 21 (by simp)).symm.trans hp
  | 4,he,hp=>exact(he 22 (by simp)).symm.trans hp
  | 5,he,hp=>exact(he 23 (by simp)).symm.trans hp
  | 6,he,hp=>exact(he 17 (by simp)).symm.trans hp
  | 7,he,hp=>exact(he 24 (by simp)).symm.trans hp
  | 8,he,hp=>exact(he 25 (by simp)).symm.trans hp
  | 9,he,hp=>obtain⟨D,h1,h2⟩:=hp;exact⟨D,(he 9 (by simp)).symm.trans h1,h2⟩
  | 10,he,hp=>obtain⟨D,h1,h2⟩:=hp;exact⟨D,(he 10 (by simp)).symm.trans h1,h2⟩
  | 11,he,hp=>obtain⟨D,h1,h2⟩:=hp;exact⟨D,(he 9 (by simp)).symm.trans h1,h2⟩
  | 12,he,hp=>obtain⟨D,h1,h2⟩:=hp;exact⟨D,(he 10 (by simp)).symm.trans h1,h2⟩
  | _+13,_,_=>trivial
 ·intro i s wa wb hR hp
  match i,hp with
  | 0,hp=>exact hp
  | 1,hp=>exact hp
  | 2,hp=>obtain⟨D,h1,h2,h3⟩:=hp;exact⟨D,h1,h2,hR.keep _ _ _ h3⟩
  | 3,hp=>exact hp
  | 4,hp=>exact hp
  | 5,hp=>exact hp
  | 6,hp=>exact hp
  | 7,hp=>exact hp
  | 8,hp=>exact hp
  | 9,hp=>obtain⟨D,h1,h2,cs,h3,h4⟩:=hp;obtain⟨cs',h5,h6⟩:=hR.shape _ _ _ _ h3;exact⟨D,h1,h2,cs',h5,h6.trans h4⟩
  | 10,hp=>obtain⟨D,h1,h2,cs,h3,h4⟩:=hp;obtain⟨cs',h5,h6⟩:=hR.shape _ _ _ _ h3;exact⟨D,h1,h2,cs',h5,h6.trans h4⟩
  | 11,hp=>obtain⟨D,h1,h2,h3⟩:=hp;exact⟨D,h1,h2,hR.keep _ _ _ h3⟩
  | 12,hp=>obtain⟨D,h1,h2,h3⟩:=hp;exact⟨D,h1,h2,hR.keep _ _ _ h3⟩
  | _+13,_=>trivial
 ·refine⟨?_,?_,?_,?_,?_,?_,?_,?_,?_,?_,?_,?_,?_,trivial⟩
  ·intro a wx hC hsz hK
   have h0:a.tmps.getD 7 undef=.pointer (some ⟨E,0,none⟩):=hK.1 7 (by kernel_rfl);exact tt_load 24 (.tmp 7) (.pointer (some ⟨E,0,none⟩)) (wv (x+y)) rfl (by kernel_rfl) h0 (load_pw hC.sum) hC (slots_put _ _ _ (by rw[hsz];exact of_decide_eq_true (by kernel_rfl))) (RT.refl _ _ _)
  ·intro a wx hC hsz hK
   have h0:a.tmps.getD 8 undef=.int .u64 ((((x%2^256)+(y%2^256)) / 2^256):Nat):=hK.1 8 (by kernel_rfl);exact tt_val (.int .u64 ((((x%2^256)+(y%2^256)) / 2^256):Nat)) (by kernel_rfl) (by rw[<- h0];kernel_rfl) hC (slots_put _ _ _ (by rw[hsz];exact of_decide_eq_true (by kernel_rfl))) (RT.refl _ _ _)
  ·intro a wx hC hsz hK
   have h0:a.tmps.getD 19 undef=.int .u64 ((((x%2^256)+(y%2^256)) / 2^256):Nat):=hK.2 ⟨1,.data⟩ (by simp) rfl _ rfl;refine tt_v (Instr.buildSlice 126 1 #[(0,a.tmps.getD 19 undef)]) (.slice (some ⟨wx.heap.size,0,none⟩) 1 1) (by kernel_rfl) (by kernel_rfl) (w':=wx.alloc (.cells #[.int .u64 ((((x%2^256)+(y%2^256)) / 2^256):Nat)] 22)) ?_ (hC.below ((Below.refl _ _).alloc (Nat.le_refl _) _)) ⟨_,slots_put _ _ _ (by rw[hsz];exact of_decide_eq_true (by kernel_rfl)),hC.high,heap_alloc_new _ _⟩ (RT.of hC.high ((Below.refl _ _).alloc (Nat.le_refl _) _));rw[h0];kernel_rfl
  ·intro a wx hC hsz hK
   have h0:a.tmps.getD 18 undef=wv (x+y):=hK.2 ⟨0,.data⟩ (by simp) rfl _ rfl;obtain⟨b,h1,h2,h3⟩:=hK.2 ⟨2,.data⟩ (by simp) rfl _ rfl;have h1':a.tmps.getD 20 undef=.slice (some ⟨b,0,none⟩) 1 1:=h1;refine tt_call 140 #[a.tmps.getD 18 undef,a.tmps.getD 20 undef] (by kernel_rfl) (by kernel_rfl) ?_;rw[h0,h1'];have hw:=widen_more (x+y) (((x%2^256)+(y%2^256)) / 2^256) b HCL.out wx (Array.getElem?_eq_some_iff.1 h3).1 ((cell_of_row _ _ 0 _ _ _ h3).trans rfl);rw[sum_split]at hw;exact hw.mono fun e w' hh=>⟨_,hh.1,hC.below hh.2,slots_put _ _ _ (by rw[hsz];exact of_decide_eq_true (by kernel_rfl)),RT.of hC.high hh.2⟩
  ·intro a wx hC hsz hK
   have h0:a.tmps.getD 5 undef=.pointer (some ⟨w.heap.size+1+1,0,none⟩):=hK.1 5 (by kernel_rfl);exact tt_load 24 (.tmp 5) (.pointer (some ⟨w.heap.size+1+1,0,none⟩)) (wv z) rfl (by kernel_rfl) h0 (load_pw hC.ct.r2) hC (slots_put _ _ _ (by rw[hsz];exact of_decide_eq_true (by kernel_rfl))) (RT.refl _ _ _)
  ·intro a wx hC hsz hK
   have h0:a.tmps.getD 21 undef=dv ((x%2^256)+(y%2^256)):=hK.2 ⟨3,.data⟩ (by simp) rfl _ rfl;have h1:a.tmps.getD 22 undef=wv z:=hK.2 ⟨4,.data⟩ (by simp) rfl _ rfl;refine tt_call 139 #[a.tmps.getD 21 undef,a.tmps.getD 22 undef] (by kernel_rfl) (by kernel_rfl) ?_;rw[h0,h1];exact((fun wx=>divide_all ((x%2^256)+(y%2^256)) z HV.out wx) wx).mono fun e w' hh=>⟨_,hh.1,hC.below hh.2,slots_put _ _ _ (by rw[hsz];exact of_decide_eq_true (by kernel_rfl)),RT.of hC.high hh.2⟩
  ·intro a wx hC hsz hK
   have h0:a.tmps.getD 23 undef=.tuple #[dv (quoV ((x%2^256)+(y%2^256)) z),wv (remV ((x%2^256)+(y%2^256)) z)]:=hK.2 ⟨5,.data⟩ (by simp) rfl _ rfl;exact tt_val (.tuple #[dv (quoV ((x%2^256)+(y%2^256)) z),wv (remV ((x%2^256)+(y%2^256)) z)]) (by kernel_rfl) (by rw[<- h0];kernel_rfl) hC (slots_put _ _ _ (by rw[hsz];exact of_decide_eq_true (by kernel_rfl))) (RT.refl _ _ _)
  ·intro a wx hC hsz hK
   have h0:a.tmps.getD 17 undef=.tuple #[dv (quoV ((x%2^256)+(y%2^256)) z),wv (remV ((x%2^256)+(y%2^256)) z)]:=hK.2 ⟨6,.data⟩ (by simp) rfl _ rfl;refine tt_v (Instr.extract (a.tmps.getD 17 undef) 0) (dv (quoV ((x%2^256)+(y%2^256)) z)) (by kernel_rfl) rfl ?_ hC (slots_put _ _ _ (by rw[hsz];exact of_decide_eq_true (by kernel_rfl))) (RT.refl _ _ _);rw[h0];kernel_rfl
  ·intro a wx hC hsz hK
   have h0:a.tmps.getD 17 undef=.tuple #[dv (quoV ((x%2^256)+(y%2^256)) z),wv (remV ((x%2^256)+(y%2^256)) z)]:=hK.2 ⟨6,.data⟩ (by simp) rfl _ rfl;refine tt_v (Instr.extract (a.tmps.getD 17 undef) 1) (wv (remV ((x%2^256)+(y%2^256)) z)) (by kernel_rfl) rfl ?_ hC (slots_put _ _ _ (by rw[hsz];exact of_decide_eq_true (by kernel_rfl))) (RT.refl _ _ _);rw[h0];kernel_rfl
  ·intro a wx hC hsz hK
   exact tt_new (.pointer (some ⟨wx.heap.size,0,none⟩)) (by kernel_rfl) (by kernel_rfl) (hC.below ((Below.refl _ _).alloc (Nat.le_refl _) _)) ⟨_,slots_put _ _ _ (by rw[hsz];exact of_decide_eq_true (by kernel_rfl)),hC.high,#[.int .u64 0,.int .u64 0,.int .u64 0,.int .u64 0,.int .u64 0,.int .u64 0,.int .u64 0,.int .u64 0],heap_alloc_new _ _,rfl⟩ (RT.of hC.high ((Below.refl _ _).alloc (Nat.le_refl _) _))
  ·intro a wx hC hsz hK
   exact tt_new (.pointer (some ⟨wx.heap.size,0,none⟩)) (by kernel_rfl) (by kernel_rfl) (hC.below ((Below.refl _ _).alloc (Nat.le_refl _) _)) ⟨_,slots_put _ _ _ (by rw[hsz];exact of_decide_eq_true (by kernel_rfl)),hC.high,#[.int .u64 0,.int .u64 0,.int .u64 0,.int .u64 0],heap_alloc_new _ _,rfl⟩ (RT.of hC.high ((Below.refl _ _).alloc (Nat.le_refl _) _))
  ·intro a wx hC hsz hK
   obtain⟨D,h1,h2,cs,h3,h4⟩:=hK.2 ⟨9,.data⟩ (by simp) rfl _ rfl;have h0:a.tmps.getD 24 undef=dv (quoV ((x%2^256)+(y%2^256)) z):=hK.2 ⟨7,.data⟩ (by simp) rfl _ rfl;exact tt_store (by kernel_rfl) rfl (run_store 168 (.tmp 9) (.tmp 24) _ _ rfl h1 h0 (store_da h3 h4)) (hC.rowed h2) ⟨D,h1,h2,setRow_heap _ _ _ _ _ _ h3⟩ (RT.row h2 h3 h4)
  ·intro a wx hC hsz hK
   obtain⟨D,h1,h2,cs,h3,h4⟩:=hK.2 ⟨10,.data⟩ (by simp) rfl _ rfl;have h0:a.tmps.getD 25 undef=wv (remV ((x%2^256)+(y%2^256)) z):=hK.2 ⟨8,.data⟩ (by simp) rfl _ rfl;exact tt_store (by kernel_rfl) rfl (run_store 24 (.tmp 10) (.tmp 25) _ _ rfl h1 h0 (store_qa h3 h4)) (hC.rowed h2) ⟨D,h1,h2,setRow_heap _ _ _ _ _ _ h3⟩ (RT.row h2 h3 h4)
 ·intro f wx hC hf
  have s18:=hf 0 _ rfl;have s19:=hf 1 _ rfl;obtain⟨D20,s20,g20,r20⟩:=hf 2 _ rfl;have s21:=hf 3 _ rfl;have s22:=hf 4 _ rfl;have s23:=hf 5 _ rfl;have s17:=hf 6 _ rfl;have s24:=hf 7 _ rfl;have s25:=hf 8 _ rfl;obtain⟨D9,s9,g9,r9⟩:=hf 11 _ rfl;obtain⟨D10,s10,g10,r10⟩:=hf 12 _ rfl;clear hf;generalize hA:putAll _ _ _=A at *;have hsz:A.tmps.size=27:=by rw[<- hA,putAll_size];rfl
  have t0:A.tmps.getD 0 undef=.agg (pw x):=by subst hA;kernel_rfl
  have t1:A.tmps.getD 1 undef=.agg (pw y):=by subst hA;kernel_rfl
  have t2:A.tmps.getD 2 undef=.agg (pw z):=by subst hA;kernel_rfl
  have t3:A.tmps.getD 3 undef=.pointer (some ⟨w.heap.size,0,none⟩):=by subst hA;kernel_rfl
  have t4:A.tmps.getD 4 undef=.pointer (some ⟨w.heap.size+1,0,none⟩):=by subst hA;kernel_rfl
  have t5:A.tmps.getD 5 undef=.pointer (some ⟨w.heap.size+1+1,0,none⟩):=by subst hA;kernel_rfl
  have t6:A.tmps.getD 6 undef=.pointer (some ⟨w.heap.size+1+1+1,0,none⟩):=by subst hA;kernel_rfl
  have t7:A.tmps.getD 7 undef=.pointer (some ⟨E,0,none⟩):=by subst hA;kernel_rfl
  have t8:A.tmps.getD 8 undef=.int .u64 ((((x%2^256)+(y%2^256)) / 2^256):Nat):=by subst hA;kernel_rfl
  have t11:A.tmps.getD 11 undef=.tuple #[.agg (pw (x+y)),.int .u64 ((((x%2^256)+(y%2^256)) / 2^256):Nat)]:=by subst hA;kernel_rfl
  have t12:A.tmps.getD 12 undef=.agg (pw x):=by subst hA;kernel_rfl
  have t13:A.tmps.getD 13 undef=.agg (pw y):=by subst hA;kernel_rfl
  have t14:A.tmps.getD 14 undef=.tuple #[.agg (pw (x+y)),.int .u64 ((((x%2^256)+(y%2^256)) / 2^256):Nat)]:=by subst hA;kernel_rfl
  have t15:A.tmps.getD 15 undef=.agg (pw (x+y)):=by subst hA;kernel_rfl
  have t16:A.tmps.getD 16 undef=.int .u64 ((((x%2^256)+(y%2^256)) / 2^256):Nat):=by subst hA;kernel_rfl
  have t26:A.tmps.getD 26 undef=undef:=by subst hA;kernel_rfl
  have hd:A.defers=[]:=by subst hA;kernel_rfl
  clear hA;obtain⟨tm,df⟩:=A;simp only[slots]at *;have hL:=arr_lit tm;rw[hsz]at hL;simp only[List.range,List.range.loop,List.map]at hL;rw[t0,t1,t2,t3,t4,t5,t6,t7,t8,s9,s10,t11,t12,t13,t14,t15,t16,s17,s18,s19,s20,s21,s22,s23,s24,s25,t26]at hL;subst hL hd;clear t0 t1 t2 t3 t4 t5 t6 t7 t8 s9 s10 t11 t12 t13 t14 t15 t16 s17 s18 s19 s20 s21 s22 s23 s24 s25 t26 hsz;have hr:wx.heap[D10]?=some (.cells (pw (remV ((x%2^256)+(y%2^256)) z)) 24 (0,0)):=r10;have HC:=Lib.hid hC.ct;clear hC
  go_wp2_with (first | (refine wpList_load_row rfl 24 _ rfl D10 rfl 24 (pw (remV ((x%2^256)+(y%2^256)) z)) (0,0) _ hr Tryz.underlying24 rfl infoWord ?_) | (refine wpList_store_row rfl 24 _ _ rfl (w.heap.size+1+1+1) (pw (remV ((x%2^256)+(y%2^256)) z)) rfl rfl 24 #[.int .u64 0,.int .u64 0,.int .u64 0,.int .u64 0] HC.out.r3 infoWord rfl (pw_one _) ?_))
  (try simp only[Exit.inBlock,Exit.then])
  exact bodyPost_ret (v:=.agg (pw (remV ((x%2^256)+(y%2^256)) z))) (results_cell_row (p:=6) rfl _ _ (w.heap.size+1+1+1) 24 _ (0,0) _ rfl (setRow_heap _ _ _ _ _ _ HC.out.r3) Tryz.underlying24 rfl infoWord) rfl ⟨rfl,below_setRow HC.out.old (by omega) _⟩
open Go.RowKit
def CW2(w:World)(x y:Nat)(wx:World):Prop :=
 Below w.heap.size w wx/\wx.heap[w.heap.size]?=some (.cells (pw x) 24 (0,0))/\wx.heap[w.heap.size+1]?=some (.cells (pw y) 24 (0,0))
theorem CW2.below{w wx w':World}{x y:Nat}(h:CW2 w x y wx)(hb:Below wx.heap.size wx w'):CW2 w x y w':=by
 have hl:=(Array.getElem?_eq_some_iff.1 h.2.2).1;exact⟨h.1.trans (hb.mono h.1.size),(hb.block _ (by omega)).trans h.2.1,(hb.block _ hl).trans h.2.2⟩
open Go.RowKit
theorem and_one(z:Nat)(h:z<18446744073709551616):bits .and .u64 z 1=((z%2:Nat):Int):=by
 have:=bits_and_u64_nat z 1 h (by omega);rw[Nat.and_one_is_mod]at this;exact this
theorem bit_of(x i p s:Nat)(hp:i / 64=p)(hs:i%64=s):pN x p / 2^s%2=x%115792089237316195423570985008687907853269984665640564039457584007913129639936 / 2^i%2:=by
 subst hp hs;unfold pN;have e:18446744073709551616=2^(i%64)*2^(64 - i%64):=by rw[<- Nat.pow_add,show i%64+(64 - i%64)=64 by omega]
 have hd:(2:Nat)∣2^(64 - i%64):=by
  have:=Nat.pow_dvd_pow 2 (show 1<=64 - i%64 by omega);simpa using this
 rw[e,Nat.mod_mul_right_div_self,Nat.mod_mod_of_dvd _ hd,Nat.div_div_eq_div_mul,<- Nat.pow_add,show 64*(i / 64)+i%64=i by omega]
theorem pw_at(x p:Nat)(h:p<4):(pw x)[p]?=some (.int .u64 (pN x p:Nat)):=by
 have c:p=0\/p=1\/p=2\/p=3:=by omega
 rcases c with rfl | rfl | rfl | rfl
 ·simp[pw,pN]
 ·simp[pw,pN];omega
 ·simp[pw,pN];omega
 ·simp[pw,pN];omega
theorem len_0(w:World):Calls Tryz.prog 112 #[.agg #[.int .u64 0,.int .u64 0,.int .u64 0,.int .u64 0]] w fun e w'=>e=.returned (.int .i64 0)/\Below w.heap.size w w':=by
 go_enter Tryz.func112,Tryz.ntmps112;go_wp2;refine wp_loop_rounds 5 ?_;rw[rounds_succ];go_wp2;rw[rounds_succ];go_wp2;rw[rounds_succ];go_wp2;rw[rounds_succ];go_wp2;rw[rounds_succ];go_wp2;go_ret;exact⟨rfl,by go_grown⟩
theorem len_1(a0:Nat)(h0:((a0:Int) != 0)=true)(hl0:(a0:Int)<=18446744073709551615)(w:World):Calls Tryz.prog 112 #[.agg #[.int .u64 a0,.int .u64 0,.int .u64 0,.int .u64 0]] w fun e w'=>e=.returned (.int .i64 (Lib.bitLen a0:Nat))/\Below w.heap.size w w':=by
 have hL:=fun w=>Tryz.bits_Len64 (a0:Int) w (by omega) hl0;rw[Int.toNat_natCast]at hL;have hb:Lib.bitLen a0<=64:=by
  by_cases h:a0=0
  ·rw[h];decide
  ·obtain⟨-,h2,-⟩:=bitLen_bounds a0 (by omega) h
   have h5:¬65<=Lib.bitLen a0:=fun h=>by
    have:=Nat.pow_le_pow_right (n:=2) (by omega) (show 64<=Lib.bitLen a0 - 1 by omega);omega
   omega
 generalize Lib.bitLen a0=L at *;have hb0:(0:Int)<=L:=by omega
 have hb1:(L:Int)<=64:=by omega
 go_enter Tryz.func112,Tryz.ntmps112;go_wp2;refine wp_loop_rounds 4 ?_;rw[rounds_succ];go_wp2;rw[rounds_succ];go_wp2;rw[rounds_succ];go_wp2;rw[rounds_succ];go_wp2_with fail;refine(hL _).mono ?_;rintro e w' ⟨rfl,hw⟩;subst hw;go_wp2;go_ret;exact⟨rfl,by go_grown⟩
theorem len_2(a0 a1:Nat)(h1:((a1:Int) != 0)=true)(hl1:(a1:Int)<=18446744073709551615)(w:World):Calls Tryz.prog 112 #[.agg #[.int .u64 a0,.int .u64 a1,.int .u64 0,.int .u64 0]] w fun e w'=>e=.returned (.int .i64 (64+(Lib.bitLen a1:Nat)))/\Below w.heap.size w w':=by
 have hL:=fun w=>Tryz.bits_Len64 (a1:Int) w (by omega) hl1;rw[Int.toNat_natCast]at hL;have hb:Lib.bitLen a1<=64:=by
  by_cases h:a1=0
  ·rw[h];decide
  ·obtain⟨-,h2,-⟩:=bitLen_bounds a1 (by omega) h
   have h5:¬65<=Lib.bitLen a1:=fun h=>by
    have:=Nat.pow_le_pow_right (n:=2) (by omega) (show 64<=Lib.bitLen a1 - 1 by omega);omega
   omega
 generalize Lib.bitLen a1=L at *;have hb0:(0:Int)<=L:=by omega
 have hb1:(L:Int)<=64:=by omega
 go_enter Tryz.func112,Tryz.ntmps112;go_wp2;refine wp_loop_rounds 3 ?_;rw[rounds_succ];go_wp2;rw[rounds_succ];go_wp2;rw[rounds_succ];go_wp2_with fail;refine(hL _).mono ?_;rintro e w' ⟨rfl,hw⟩;subst hw;go_wp2;go_ret;exact⟨rfl,by go_grown⟩
theorem len_3(a0 a1 a2:Nat)(h2:((a2:Int) != 0)=true)(hl2:(a2:Int)<=18446744073709551615)(w:World):Calls Tryz.prog 112 #[.agg #[.int .u64 a0,.int .u64 a1,.int .u64 a2,.int .u64 0]] w fun e w'=>e=.returned (.int .i64 (128+(Lib.bitLen a2:Nat)))/\Below w.heap.size w w':=by
 have hL:=fun w=>Tryz.bits_Len64 (a2:Int) w (by omega) hl2;rw[Int.toNat_natCast]at hL;have hb:Lib.bitLen a2<=64:=by
  by_cases h:a2=0
  ·rw[h];decide
  ·obtain⟨-,h2,-⟩:=bitLen_bounds a2 (by omega) h
   have h5:¬65<=Lib.bitLen a2:=fun h=>by
    have:=Nat.pow_le_pow_right (n:=2) (by omega) (show 64<=Lib.bitLen a2 - 1 by omega);omega
   omega
 generalize Lib.bitLen a2=L at *;have hb0:(0:Int)<=L:=by omega
 have hb1:(L:Int)<=64:=by omega
 go_enter Tryz.func112,Tryz.ntmps112;go_wp2;refine wp_loop_rounds 2 ?_;rw[rounds_succ];go_wp2;rw[rounds_succ];go_wp2_with fail;refine(hL _).mono ?_;rintro e w' ⟨rfl,hw⟩;subst hw;go_wp2;go_ret;exact⟨rfl,by go_grown⟩
theorem len_4(a0 a1 a2 a3:Nat)(h3:((a3:Int) != 0)=true)(hl3:(a3:Int)<=18446744073709551615)(w:World):Calls Tryz.prog 112 #[.agg #[.int .u64 a0,.int .u64 a1,.int .u64 a2,.int .u64 a3]] w fun e w'=>e=.returned (.int .i64 (192+(Lib.bitLen a3:Nat)))/\Below w.heap.size w w':=by
 have hL:=fun w=>Tryz.bits_Len64 (a3:Int) w (by omega) hl3;rw[Int.toNat_natCast]at hL;have hb:Lib.bitLen a3<=64:=by
  by_cases h:a3=0
  ·rw[h];decide
  ·obtain⟨-,h2,-⟩:=bitLen_bounds a3 (by omega) h
   have h5:¬65<=Lib.bitLen a3:=fun h=>by
    have:=Nat.pow_le_pow_right (n:=2) (by omega) (show 64<=Lib.bitLen a3 - 1 by omega);omega
   omega
 generalize Lib.bitLen a3=L at *;have hb0:(0:Int)<=L:=by omega
 have hb1:(L:Int)<=64:=by omega
 go_enter Tryz.func112,Tryz.ntmps112;go_wp2;refine wp_loop_rounds 1 ?_;rw[rounds_succ];go_wp2_with fail;refine(hL _).mono ?_;rintro e w' ⟨rfl,hw⟩;subst hw;go_wp2;go_ret;exact⟨rfl,by go_grown⟩
end Go.Proofs.YtadfjjfklihaaaaGreat
