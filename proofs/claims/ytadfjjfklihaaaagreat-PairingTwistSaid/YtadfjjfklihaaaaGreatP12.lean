/- What bailiwickref01.minus comes to: the difference of digits, of which the first are not less. (Cut to what is reached, written closely: Divs · Less · Minus.) -/
import Derived.Test.YtadfjjfklihaaaaGreatP11
import Derived.Test.YtadfjjfklihaaaaGreatP1
import Derived.Test.YtadfjjfklihaaaaGreatP7
import Derived.Test.YtadfjjfklihaaaaGreatP5
set_option linter.all false
set_option maxRecDepth 100000
set_option maxHeartbeats 8000000
namespace Go.Proofs.YtadfjjfklihaaaaGreat
open Go.RowKit
theorem arr_lit(t:Array Value):t=((List.range t.size).map fun i=>t.getD i undef).toArray:=by
 apply Array.ext
 ·simp
 ·intro i h1 h2
  simp[h1]
structure CR (w:World) (x y:Nat) (wx:World):Prop where
 old:Below w.heap.size w wx
 r0:wx.heap[w.heap.size]?=some (.cells (pw x) 24 (0,0))
 r1:wx.heap[w.heap.size+1]?=some (.cells (pw y) 24 (0,0))
 r2:wx.heap[w.heap.size+1+1]?=some (.cells #[.int .u64 0,.int .u64 0,.int .u64 0,.int .u64 0] 24 (0,0))
theorem CR.high{w wx:World}{x y:Nat}(h:CR w x y wx):w.heap.size+1+1+1<=wx.heap.size:=(Array.getElem?_eq_some_iff.1 h.r2).1
theorem CR.below{w wx w':World}{x y:Nat}(h:CR w x y wx)(hb:Below wx.heap.size wx w'):CR w x y w':=by
 have l:=h.high;exact⟨h.old.trans (hb.mono h.old.size),(hb.block _ (by omega)).trans h.r0,(hb.block _ (by omega)).trans h.r1,(hb.block _ (by omega)).trans h.r2⟩
theorem CR.rowed{w wx:World}{x y g:Nat}{cs:Array Value}(h:CR w x y wx)(hg:w.heap.size+1+1+1<=g):CR w x y (wx.setRow g cs) :=
 ⟨below_setRow h.old (by omega) _,(setRow_other _ _ _ _ (by omega)).trans h.r0,(setRow_other _ _ _ _ (by omega)).trans h.r1,(setRow_other _ _ _ _ (by omega)).trans h.r2⟩
def dw(x:Nat):Array Value:=match dv x with | .agg a=>a | _=>#[]
theorem dv_dw(x:Nat):dv x=.agg (dw x):=rfl
theorem dw_one(x:Nat):(dw x).all (·.oneCell')=true:=by simp[dw,dv,Value.oneCell']
def FQ(q r:Nat)(T:TypeId):Array Value:=if T=168 then dw q else pw r
theorem infoWide:(Tryz.prog.info? 168).map (·.size)=some 8:=by kernel_rfl
theorem store_dw{g q r:Nat}{w:World}{cs:Array Value}(hg:w.heap[g]?=some (.cells cs 168 (0,0)))(hs:cs.size=(FQ q r 168).size):(Instr.storeAt 168 (.pointer (some ⟨g,0,none⟩)) (dv q)).run Tryz.prog w=.ok () (w.setRow g (FQ q r 168)):=by
 rw[dv_dw];show _=Result.ok () (w.setRow g (dw q));simp only[Instr.storeAt,Instr.sureAddr,Sem.run_bind,Sem.run_pure,Result.andThen_ok,run_storeVar_row w g 168 168 cs (dw q) hg infoWide hs (dw_one q)]
theorem store_qw{g q r:Nat}{w:World}{cs:Array Value}(hg:w.heap[g]?=some (.cells cs 24 (0,0)))(hs:cs.size=(FQ q r 24).size):(Instr.storeAt 24 (.pointer (some ⟨g,0,none⟩)) (wv r)).run Tryz.prog w=.ok () (w.setRow g (FQ q r 24)):=store_pw hs hg
theorem widen_any(x:Nat)(w:World):Calls Tryz.prog 140 #[wv x,.slice none 0 0] w fun e w'=>e=.returned (dv (x%2^256))/\Below w.heap.size w w':=by
 obtain⟨a0,a1,a2,a3,u0,u1,u2,u3,ea,na⟩:=wv_parts x;have h:=widen_nil a0 a1 a2 a3 w;rw[ea,<- na];have hn:dv (n4 a0 a1 a2 a3)=.agg #[.int .u64 a0,.int .u64 a1,.int .u64 a2,.int .u64 a3,.int .u64 0,.int .u64 0,.int .u64 0,.int .u64 0]:=by
  have:=dv_n8 (a4:=0) (a5:=0) (a6:=0) (a7:=0) u0 u1 u2 u3 (by omega) (by omega) (by omega) (by omega);rw[show n8 a0 a1 a2 a3 0 0 0 0=n4 a0 a1 a2 a3 by unfold n8 n4;omega]at this;exact this
 rw[hn];exact h
def quoV(a y:Nat):Nat:=if y%2^256=0 then 0 else a / (y%2^256)
def remV(a y:Nat):Nat:=if y%2^256=0 then 0 else a%(y%2^256)
theorem divide_all(a y:Nat)(ha:a<13407807929942597099574024998205846127479365820592393377723561443721764030073546976801874298166903427690031858186486050853753882811946569946433649006084096)(w:World):Calls Tryz.prog 139 #[dv a,wv y] w fun e w'=>e=.returned (.tuple #[dv (quoV a y),wv (remV a y)])/\Below w.heap.size w w':=by
 rw[show wv y=wv (y%2^256) from wv_congr (Nat.mod_mod _ _).symm];unfold quoV remV;by_cases h:y%2^256=0
 ·rw[if_pos h,if_pos h,h];exact divide_none a w
 ·rw[if_neg h,if_neg h];exact divide_any a _ ha h (Nat.mod_lt _ (by omega)) w
-- WHAT word.Mod COMES TO.
theorem mod_any(x y:Nat)(w:World):Calls Tryz.prog 128 #[wv x,wv y] w fun e w'=>e=.returned (wv (remV (x%2^256) y))/\Below w.heap.size w w':=by
 rw[wv_pw x,wv_pw y];go_enter Tryz.func128,Tryz.ntmps128
 go_wp2_with fail
 refine region_tie (CR w x y) (fun i s wx=>match i with | 0=>s 8=wv x | 1=>s 9=dv (x%2^256) | 2=>s 10=wv y | 3=>s 11=.tuple #[dv (quoV (x%2^256) y),wv (remV (x%2^256) y)] | 4=>s 7=.tuple #[dv (quoV (x%2^256) y),wv (remV (x%2^256) y)] | 5=>s 12=dv (quoV (x%2^256) y) | 6=>s 13=wv (remV (x%2^256) y) | 7=>∃ D,s 5=.pointer (some ⟨D,0,none⟩)/\w.heap.size+1+1+1<=D/\∃ cs,wx.heap[D]?=some (.cells cs 168 (0,0))/\cs.size=8 | 8=>∃ D,s 6=.pointer (some ⟨D,0,none⟩)/\w.heap.size+1+1+1<=D/\∃ cs,wx.heap[D]?=some (.cells cs 24 (0,0))/\cs.size=4 | 9=>∃ D,s 5=.pointer (some ⟨D,0,none⟩)/\w.heap.size+1+1+1<=D/\wx.heap[D]?=some (.cells (FQ (quoV (x%2^256) y) (remV (x%2^256) y) 168) 168 (0,0)) | 10=>∃ D,s 6=.pointer (some ⟨D,0,none⟩)/\w.heap.size+1+1+1<=D/\wx.heap[D]?=some (.cells (FQ (quoV (x%2^256) y) (remV (x%2^256) y) 24) 24 (0,0)) | _=>True) (RT (w.heap.size+1+1+1) (FQ (quoV (x%2^256) y) (remV (x%2^256) y))) (fun i=>match i with | 0=>[8] | 1=>[9] | 2=>[10] | 3=>[11] | 4=>[7] | 5=>[12] | 6=>[13] | 7=>[5] | 8=>[6] | 9=>[5] | 10=>[6] | _=>[]) (fun i=>i) (by kernel_rfl) (by kernel_rfl) ⟨by go_grown,(heap3 _ _ _ _).1,(heap3 _ _ _ _).2.1,(heap3 _ _ _ _).2.2⟩ ?_ ?_ ?_ ?_
 ·intro i s s' wx he hp
  match i,he,hp with
  | 0,he,hp=>exact(he 8 (by simp)).symm.trans hp
  | 1,he,hp=>exact(he 9 (by simp)).symm.trans hp
  | 2,he,hp=>exact(he 10 (by simp)).symm.trans hp
  | 3,he,hp=>exact(he 11 (by simp)).symm.trans hp
  | 4,he,hp=>exact(he 7 (by simp)).symm.trans hp
  | 5,he,hp=>exact(he 12 (by simp)).symm.trans hp
  | 6,he,hp=>exact(he 13 (by simp)).symm.trans hp
  | 7,he,hp=>obtain⟨D,h1,h2⟩:=hp;exact⟨D,(he 5 (by simp)).symm.trans h1,h2⟩
  | 8,he,hp=>obtain⟨D,h1,h2⟩:=hp;exact⟨D,(he 6 (by simp)).symm.trans h1,h2⟩
  | 9,he,hp=>obtain⟨D,h1,h2⟩:=hp;exact⟨D,(he 5 (by simp)).symm.trans h1,h2⟩
  | 10,he,hp=>obtain⟨D,h1,h2⟩:=hp;exact⟨D,(he 6 (by simp)).symm.trans h1,h2⟩
  | _+11,_,_=>trivial
 ·intro i s wa wb hR hp
  match i,hp with
  | 0,hp=>exact hp
  | 1,hp=>exact hp
  | 2,hp=>exact hp
  | 3,hp=>exact hp
  | 4,hp=>exact hp
  | 5,hp=>exact hp
  | 6,hp=>exact hp
  | 7,hp=>obtain⟨D,h1,h2,cs,h3,h4⟩:=hp;obtain⟨cs',h5,h6⟩:=hR.shape _ _ _ _ h3;exact⟨D,h1,h2,cs',h5,h6.trans h4⟩
  | 8,hp=>obtain⟨D,h1,h2,cs,h3,h4⟩:=hp;obtain⟨cs',h5,h6⟩:=hR.shape _ _ _ _ h3;exact⟨D,h1,h2,cs',h5,h6.trans h4⟩
  | 9,hp=>obtain⟨D,h1,h2,h3⟩:=hp;exact⟨D,h1,h2,hR.keep _ _ _ h3⟩
  | 10,hp=>obtain⟨D,h1,h2,h3⟩:=hp;exact⟨D,h1,h2,hR.keep _ _ _ h3⟩
  | _+11,_=>trivial
 ·refine⟨?_,?_,?_,?_,?_,?_,?_,?_,?_,?_,?_,trivial⟩
  ·intro a wx hC hsz hK
   have h0:a.tmps.getD 2 undef=.pointer (some ⟨w.heap.size,0,none⟩):=hK.1 2 (by kernel_rfl);exact tt_load 24 (.tmp 2) (.pointer (some ⟨w.heap.size,0,none⟩)) (wv x) rfl (by kernel_rfl) h0 (load_pw hC.r0) hC (slots_put _ _ _ (by rw[hsz];exact of_decide_eq_true (by kernel_rfl))) (RT.refl _ _ _)
  ·intro a wx hC hsz hK
   have h0:a.tmps.getD 8 undef=wv x:=hK.2 ⟨0,.data⟩ (by simp) rfl _ rfl;refine tt_call 140 #[a.tmps.getD 8 undef,.slice none 0 0] (by kernel_rfl) (by kernel_rfl) ?_;rw[h0];exact((fun wx=>widen_any x wx) wx).mono fun e w' hh=>⟨_,hh.1,hC.below hh.2,slots_put _ _ _ (by rw[hsz];exact of_decide_eq_true (by kernel_rfl)),RT.of hC.high hh.2⟩
  ·intro a wx hC hsz hK
   have h0:a.tmps.getD 3 undef=.pointer (some ⟨w.heap.size+1,0,none⟩):=hK.1 3 (by kernel_rfl);exact tt_load 24 (.tmp 3) (.pointer (some ⟨w.heap.size+1,0,none⟩)) (wv y) rfl (by kernel_rfl) h0 (load_pw hC.r1) hC (slots_put _ _ _ (by rw[hsz];exact of_decide_eq_true (by kernel_rfl))) (RT.refl _ _ _)
  ·intro a wx hC hsz hK
   have h0:a.tmps.getD 9 undef=dv (x%2^256):=hK.2 ⟨1,.data⟩ (by simp) rfl _ rfl;have h1:a.tmps.getD 10 undef=wv y:=hK.2 ⟨2,.data⟩ (by simp) rfl _ rfl;refine tt_call 139 #[a.tmps.getD 9 undef,a.tmps.getD 10 undef] (by kernel_rfl) (by kernel_rfl) ?_;rw[h0,h1];exact((fun wx=>divide_all (x%2^256) y (by omega) wx) wx).mono fun e w' hh=>⟨_,hh.1,hC.below hh.2,slots_put _ _ _ (by rw[hsz];exact of_decide_eq_true (by kernel_rfl)),RT.of hC.high hh.2⟩
  ·intro a wx hC hsz hK
   have h0:a.tmps.getD 11 undef=.tuple #[dv (quoV (x%2^256) y),wv (remV (x%2^256) y)]:=hK.2 ⟨3,.data⟩ (by simp) rfl _ rfl;exact tt_val (.tuple #[dv (quoV (x%2^256) y),wv (remV (x%2^256) y)]) (by kernel_rfl) (by rw[<- h0];kernel_rfl) hC (slots_put _ _ _ (by rw[hsz];exact of_decide_eq_true (by kernel_rfl))) (RT.refl _ _ _)
  ·intro a wx hC hsz hK
   have h0:a.tmps.getD 7 undef=.tuple #[dv (quoV (x%2^256) y),wv (remV (x%2^256) y)]:=hK.2 ⟨4,.data⟩ (by simp) rfl _ rfl;refine tt_v (Instr.extract (a.tmps.getD 7 undef) 0) (dv (quoV (x%2^256) y)) (by kernel_rfl) rfl ?_ hC (slots_put _ _ _ (by rw[hsz];exact of_decide_eq_true (by kernel_rfl))) (RT.refl _ _ _);rw[h0];kernel_rfl
  ·intro a wx hC hsz hK
   have h0:a.tmps.getD 7 undef=.tuple #[dv (quoV (x%2^256) y),wv (remV (x%2^256) y)]:=hK.2 ⟨4,.data⟩ (by simp) rfl _ rfl;refine tt_v (Instr.extract (a.tmps.getD 7 undef) 1) (wv (remV (x%2^256) y)) (by kernel_rfl) rfl ?_ hC (slots_put _ _ _ (by rw[hsz];exact of_decide_eq_true (by kernel_rfl))) (RT.refl _ _ _);rw[h0];kernel_rfl
  ·intro a wx hC hsz hK
   exact tt_new (.pointer (some ⟨wx.heap.size,0,none⟩)) (by kernel_rfl) (by kernel_rfl) (hC.below ((Below.refl _ _).alloc (Nat.le_refl _) _)) ⟨_,slots_put _ _ _ (by rw[hsz];exact of_decide_eq_true (by kernel_rfl)),hC.high,#[.int .u64 0,.int .u64 0,.int .u64 0,.int .u64 0,.int .u64 0,.int .u64 0,.int .u64 0,.int .u64 0],heap_alloc_new _ _,rfl⟩ (RT.of hC.high ((Below.refl _ _).alloc (Nat.le_refl _) _))
  ·intro a wx hC hsz hK
   exact tt_new (.pointer (some ⟨wx.heap.size,0,none⟩)) (by kernel_rfl) (by kernel_rfl) (hC.below ((Below.refl _ _).alloc (Nat.le_refl _) _)) ⟨_,slots_put _ _ _ (by rw[hsz];exact of_decide_eq_true (by kernel_rfl)),hC.high,#[.int .u64 0,.int .u64 0,.int .u64 0,.int .u64 0],heap_alloc_new _ _,rfl⟩ (RT.of hC.high ((Below.refl _ _).alloc (Nat.le_refl _) _))
  ·intro a wx hC hsz hK
   obtain⟨D,h1,h2,cs,h3,h4⟩:=hK.2 ⟨7,.data⟩ (by simp) rfl _ rfl;have h0:a.tmps.getD 12 undef=dv (quoV (x%2^256) y):=hK.2 ⟨5,.data⟩ (by simp) rfl _ rfl;exact tt_store (by kernel_rfl) rfl (run_store 168 (.tmp 5) (.tmp 12) _ _ rfl h1 h0 (store_dw h3 h4)) (hC.rowed h2) ⟨D,h1,h2,setRow_heap _ _ _ _ _ _ h3⟩ (RT.row h2 h3 h4)
  ·intro a wx hC hsz hK
   obtain⟨D,h1,h2,cs,h3,h4⟩:=hK.2 ⟨8,.data⟩ (by simp) rfl _ rfl;have h0:a.tmps.getD 13 undef=wv (remV (x%2^256) y):=hK.2 ⟨6,.data⟩ (by simp) rfl _ rfl;exact tt_store (by kernel_rfl) rfl (run_store 24 (.tmp 6) (.tmp 13) _ _ rfl h1 h0 (store_qw h3 h4)) (hC.rowed h2) ⟨D,h1,h2,setRow_heap _ _ _ _ _ _ h3⟩ (RT.row h2 h3 h4)
 ·intro f wx hC hf
  have s8:=hf 0 _ rfl;have s9:=hf 1 _ rfl;have s10:=hf 2 _ rfl;have s11:=hf 3 _ rfl;have s7:=hf 4 _ rfl;have s12:=hf 5 _ rfl;have s13:=hf 6 _ rfl;obtain⟨D5,s5,g5,r5⟩:=hf 9 _ rfl;obtain⟨D6,s6,g6,r6⟩:=hf 10 _ rfl;clear hf;generalize hA:putAll _ _ _=A at *;have hsz:A.tmps.size=15:=by rw[<- hA,putAll_size];rfl
  have t0:A.tmps.getD 0 undef=.agg (pw x):=by subst hA;kernel_rfl
  have t1:A.tmps.getD 1 undef=.agg (pw y):=by subst hA;kernel_rfl
  have t2:A.tmps.getD 2 undef=.pointer (some ⟨w.heap.size,0,none⟩):=by subst hA;kernel_rfl
  have t3:A.tmps.getD 3 undef=.pointer (some ⟨w.heap.size+1,0,none⟩):=by subst hA;kernel_rfl
  have t4:A.tmps.getD 4 undef=.pointer (some ⟨w.heap.size+1+1,0,none⟩):=by subst hA;kernel_rfl
  have t14:A.tmps.getD 14 undef=undef:=by subst hA;kernel_rfl
  have hd:A.defers=[]:=by subst hA;kernel_rfl
  clear hA;obtain⟨tm,df⟩:=A;simp only[slots]at *;have hL:=arr_lit tm;rw[hsz]at hL;simp only[List.range,List.range.loop,List.map]at hL;rw[t0,t1,t2,t3,t4,s5,s6,s7,s8,s9,s10,s11,s12,s13,t14]at hL;subst hL hd;clear t0 t1 t2 t3 t4 s5 s6 s7 s8 s9 s10 s11 s12 s13 t14 hsz;have hr6:wx.heap[D6]?=some (.cells (pw (remV (x%2^256) y)) 24 (0,0)):=r6;clear r5 r6
  go_wp2_with (first | (refine wpList_load_row rfl 24 _ rfl D6 rfl 24 (pw (remV (x%2^256) y)) (0,0) _ hr6 Tryz.underlying24 rfl infoWord ?_) | (refine wpList_store_row rfl 24 _ _ rfl (w.heap.size+1+1) (pw (remV (x%2^256) y)) rfl rfl 24 #[.int .u64 0,.int .u64 0,.int .u64 0,.int .u64 0] hC.r2 infoWord rfl (pw_one _) ?_))
  (try simp only[Exit.inBlock,Exit.then])
  exact bodyPost_ret (v:=.agg (pw (remV (x%2^256) y))) (results_cell_row (p:=4) rfl _ _ (w.heap.size+1+1) 24 _ (0,0) _ rfl (setRow_heap _ _ _ _ _ _ hC.r2) Tryz.underlying24 rfl infoWord) rfl ⟨rfl,below_setRow hC.old (by omega) _⟩
open Go.RowKit
theorem less_top{a b:Nat->Nat}{k:Nat}(ha:∀ j,j<k->a j<65536)(_hb:∀ j,j<k->b j<65536)(h:a k<b k):vd a (k+1)<vd b (k+1):=by
 have h1:=vd_lt ha;simp only[vd];have h2:65536^k*a k+65536^k<=65536^k*b k:=by
  have:=Nat.mul_le_mul_left (65536^k) (show a k+1<=b k by omega);rwa [Nat.mul_add,Nat.mul_one]at this
 omega
theorem vd_same_above{a b:Nat->Nat}(k:Nat):∀ N,k<=N->(∀ j,k<=j->j<N->a j=b j)->vd a N+vd b k=vd b N+vd a k:=by
 intro N hN h
 induction N with
 | zero=>(obtain rfl:k=0:=by omega);rfl
 | succ N ih =>
  by_cases e:k=N+1
  ·subst e;omega
  ·have:=ih (by omega) (fun j h1 h2=>h j h1 (by omega))
   simp only[vd];rw[h N (by omega) (by omega)];omega
theorem less_any(ba ca bb cb n m:Nat)(da db:Nat->Nat)(hn:(n:Int)<=1000000)(hm:(m:Int)<=1000000)(ha:∀ j,j<n->da j<65536)(hb:∀ j,j<m->db j<65536)(w:World)(hA:Dg w ba n da)(hB:Dg w bb m db) :
  Calls Tryz.prog 101 #[.slice (some ⟨ba,0,none⟩) n ca,.slice (some ⟨bb,0,none⟩) m cb] w fun e w'=>e=.returned (.bool (decide (vd da n<vd db m)))/\w=w':=by
 have en:=vd_pad da n (max n m) (by omega);have em:=vd_pad db m (max n m) (by omega);rw[<- en,<- em];clear en em;have Pa:Hid (∀ j,pad da n j<65536):=Lib.hid (fun j=>by unfold pad;split;exact ha j (by omega);omega);have Pb:Hid (∀ j,pad db m j<65536):=Lib.hid (fun j=>by unfold pad;split;exact hb j (by omega);omega);have Ha:=Lib.hid ha;clear ha;have Hb:=Lib.hid hb;clear hb;have HA:=Lib.hid hA;clear hA;have HB:=Lib.hid hB;clear hB;have hn0:(0:Int)<=n:=by omega
 have hm0:(0:Int)<=m:=by omega
 obtain⟨R,hR⟩:∃ R,decide (vd (pad da n) (max n m)<vd (pad db m) (max n m))=R:=⟨_,rfl⟩
 rw[hR];have HR:=Lib.hid hR;clear hR;by_cases hnm:n<m
 ·have hcmp:(n:Int)<(m:Int):=by omega
  obtain⟨N,hN⟩:∃ N,max n m=N:=⟨_,rfl⟩
  have HN:=Lib.hid hN;clear hN;go_enter Tryz.func101,Tryz.ntmps101;go_wp2
  go_loop [6] (fun i=>∃ k:Nat,k<=N/\i=.int .i64 ((k:Int) - 1)/\Hid (∀ j,k<=j->j<N->pad da n j=pad db m j)) (fun i=>(intOf i+1).toNat)
  case atStart=>exact⟨N,Nat.le_refl _,by have:=HN.out;first | (rw[show N=m by omega]) | rfl,Lib.hid (fun j h1 h2=>by omega)⟩
  case round =>
   obtain⟨k,hk,rfl,HE⟩:=hrel;have hNb:N<=1000000:=by have:=HN.out;omega
   have hk1:(k:Int)<=1000000:=by omega
   rcases k with _ | k
   ·go_wp2
    go_ret;refine⟨?_,rfl⟩;rw[<- HR.out,HN.out];have h:=vd_same_above 0 N (Nat.zero_le _) (fun j _ h2=>HE.out j (Nat.zero_le _) h2);simp only[vd]at h;rw[show decide (vd (pad da n) N<vd (pad db m) N)=false by rw[decide_eq_false_iff_not];omega];rfl
   ·have e1:((k+1:Nat):Int) - 1=(k:Int):=by omega
    rw[e1];have hk0:(0:Int)<=k:=by omega
    have hk2:(k:Int)<=1000000:=by omega
    have hge:∀(x y:Nat),pad da n k=x->pad db m k=y->x≠y->R=decide (x<y):=fun x y hx hy hne=>by
     rw[<- HR.out,HN.out];have h:=vd_same_above (k+1) N (by omega) (fun j h1 h2=>HE.out j h1 h2);by_cases hlt:x<y
     ·have:=less_top (a:=pad da n) (b:=pad db m) (k:=k) (fun j _=>Pa.out j) (fun j _=>Pb.out j) (by rw[hx,hy];exact hlt)
      rw[decide_eq_true hlt,decide_eq_true (by omega)]
     ·have:=less_top (a:=pad db m) (b:=pad da n) (k:=k) (fun j _=>Pb.out j) (fun j _=>Pa.out j) (by rw[hx,hy];omega)
      rw[decide_eq_false hlt,decide_eq_false (by omega)]
    have HG:=Lib.hid hge;clear hge e1;by_cases h1:k<n
    ·by_cases h2:k<m
     ·have xa:w.cell? ⟨ba,k,none⟩=some (.int .u64 (da k:Nat)):=HA.out.2 k (by omega)
      have hka:(k:Int)<(n:Int):=by omega
      have pa:pad da n k=da k:=by unfold pad;rw[if_pos (by omega)]
      have xb:w.cell? ⟨bb,k,none⟩=some (.int .u64 (db k:Nat)):=HB.out.2 k (by omega);have hkb:(k:Int)<(m:Int):=by omega
      have pb:pad db m k=db k:=by unfold pad;rw[if_pos (by omega)]
      have PA:=Lib.hid pa;clear pa;have PB:=Lib.hid pb;clear pb;by_cases he:da k=db k
      ·have hb1:(((da k:Nat):Int) == ((db k:Nat):Int))=true:=by simp;omega
       have hb2:(((da k:Nat):Int) != ((db k:Nat):Int))=false:=by simp;omega
       have HE2:=Lib.hid he;clear he;go_wp2
       go_round
       case rel =>
        refine⟨k,by omega,rfl,Lib.hid (fun j h1 h2=>?_)⟩;by_cases hj:j=k
        ·subst hj;rw[PA.out,PB.out,HE2.out]
        ·exact HE.out j (by omega) h2
       case measure=>simp[intOf]
      ·have hb1:(((da k:Nat):Int) == ((db k:Nat):Int))=false:=by simp;omega
       have hb2:(((da k:Nat):Int) != ((db k:Nat):Int))=true:=by simp;omega
       have hr:=HG.out _ _ PA.out PB.out he;have HRR:=Lib.hid hr;clear hr he;go_wp2;go_ret;refine⟨?_,rfl⟩;rw[HRR.out]
       try simp
     ·have xa:w.cell? ⟨ba,k,none⟩=some (.int .u64 (da k:Nat)):=HA.out.2 k (by omega)
      have hka:(k:Int)<(n:Int):=by omega
      have pa:pad da n k=da k:=by unfold pad;rw[if_pos (by omega)]
      have hkb:¬(k:Int)<(m:Int):=by omega
      have pb:pad db m k=0:=by unfold pad;rw[if_neg (by omega)]
      have PA:=Lib.hid pa;clear pa;have PB:=Lib.hid pb;clear pb;by_cases he:da k=0
      ·have hb1:(((da k:Nat):Int) == (0:Int))=true:=by simp;omega
       have hb2:(((da k:Nat):Int) != (0:Int))=false:=by simp;omega
       have HE2:=Lib.hid he;clear he;go_wp2
       go_round
       case rel =>
        refine⟨k,by omega,rfl,Lib.hid (fun j h1 h2=>?_)⟩;by_cases hj:j=k
        ·subst hj;rw[PA.out,PB.out,HE2.out]
        ·exact HE.out j (by omega) h2
       case measure=>simp[intOf]
      ·have hb1:(((da k:Nat):Int) == (0:Int))=false:=by simp;omega
       have hb2:(((da k:Nat):Int) != (0:Int))=true:=by simp;omega
       have hr:=HG.out _ _ PA.out PB.out he;have HRR:=Lib.hid hr;clear hr he;go_wp2;go_ret;refine⟨?_,rfl⟩;rw[HRR.out]
       try simp
    ·have h2:k<m:=by have:=HN.out;omega
     have hka:¬(k:Int)<(n:Int):=by omega
     have pa:pad da n k=0:=by unfold pad;rw[if_neg (by omega)]
     have xb:w.cell? ⟨bb,k,none⟩=some (.int .u64 (db k:Nat)):=HB.out.2 k (by omega);have hkb:(k:Int)<(m:Int):=by omega
     have pb:pad db m k=db k:=by unfold pad;rw[if_pos (by omega)]
     have PA:=Lib.hid pa;clear pa;have PB:=Lib.hid pb;clear pb;by_cases he:0=db k
     ·have hb1:((0:Int) == ((db k:Nat):Int))=true:=by simp;omega
      have hb2:((0:Int) != ((db k:Nat):Int))=false:=by simp;omega
      have HE2:=Lib.hid he;clear he;go_wp2
      go_round
      case rel =>
       refine⟨k,by omega,rfl,Lib.hid (fun j h1 h2=>?_)⟩;by_cases hj:j=k
       ·subst hj;rw[PA.out,PB.out,HE2.out]
       ·exact HE.out j (by omega) h2
      case measure=>simp[intOf]
     ·have hb1:((0:Int) == ((db k:Nat):Int))=false:=by simp;omega
      have hb2:((0:Int) != ((db k:Nat):Int))=true:=by simp;omega
      have hr:=HG.out _ _ PA.out PB.out he;have HRR:=Lib.hid hr;clear hr he;go_wp2;go_ret;refine⟨?_,rfl⟩;rw[HRR.out]
      try simp
 ·have hcmp:¬(n:Int)<(m:Int):=by omega
  obtain⟨N,hN⟩:∃ N,max n m=N:=⟨_,rfl⟩
  have HN:=Lib.hid hN;clear hN;go_enter Tryz.func101,Tryz.ntmps101;go_wp2
  go_loop [6] (fun i=>∃ k:Nat,k<=N/\i=.int .i64 ((k:Int) - 1)/\Hid (∀ j,k<=j->j<N->pad da n j=pad db m j)) (fun i=>(intOf i+1).toNat)
  case atStart=>exact⟨N,Nat.le_refl _,by have:=HN.out;first | (rw[show N=n by omega]) | rfl,Lib.hid (fun j h1 h2=>by omega)⟩
  case round =>
   obtain⟨k,hk,rfl,HE⟩:=hrel;have hNb:N<=1000000:=by have:=HN.out;omega
   have hk1:(k:Int)<=1000000:=by omega
   rcases k with _ | k
   ·go_wp2
    go_ret;refine⟨?_,rfl⟩;rw[<- HR.out,HN.out];have h:=vd_same_above 0 N (Nat.zero_le _) (fun j _ h2=>HE.out j (Nat.zero_le _) h2);simp only[vd]at h;rw[show decide (vd (pad da n) N<vd (pad db m) N)=false by rw[decide_eq_false_iff_not];omega];rfl
   ·have e1:((k+1:Nat):Int) - 1=(k:Int):=by omega
    rw[e1];have hk0:(0:Int)<=k:=by omega
    have hk2:(k:Int)<=1000000:=by omega
    have hge:∀(x y:Nat),pad da n k=x->pad db m k=y->x≠y->R=decide (x<y):=fun x y hx hy hne=>by
     rw[<- HR.out,HN.out];have h:=vd_same_above (k+1) N (by omega) (fun j h1 h2=>HE.out j h1 h2);by_cases hlt:x<y
     ·have:=less_top (a:=pad da n) (b:=pad db m) (k:=k) (fun j _=>Pa.out j) (fun j _=>Pb.out j) (by rw[hx,hy];exact hlt)
      rw[decide_eq_true hlt,decide_eq_true (by omega)]
     ·have:=less_top (a:=pad db m) (b:=pad da n) (k:=k) (fun j _=>Pb.out j) (fun j _=>Pa.out j) (by rw[hx,hy];omega)
      rw[decide_eq_false hlt,decide_eq_false (by omega)]
    have HG:=Lib.hid hge;clear hge e1;by_cases h1:k<n
    ·by_cases h2:k<m
     ·have xa:w.cell? ⟨ba,k,none⟩=some (.int .u64 (da k:Nat)):=HA.out.2 k (by omega)
      have hka:(k:Int)<(n:Int):=by omega
      have pa:pad da n k=da k:=by unfold pad;rw[if_pos (by omega)]
      have xb:w.cell? ⟨bb,k,none⟩=some (.int .u64 (db k:Nat)):=HB.out.2 k (by omega);have hkb:(k:Int)<(m:Int):=by omega
      have pb:pad db m k=db k:=by unfold pad;rw[if_pos (by omega)]
      have PA:=Lib.hid pa;clear pa;have PB:=Lib.hid pb;clear pb;by_cases he:da k=db k
      ·have hb1:(((da k:Nat):Int) == ((db k:Nat):Int))=true:=by simp;omega
       have hb2:(((da k:Nat):Int) != ((db k:Nat):Int))=false:=by simp;omega
       have HE2:=Lib.hid he;clear he;go_wp2
       go_round
       case rel =>
        refine⟨k,by omega,rfl,Lib.hid (fun j h1 h2=>?_)⟩;by_cases hj:j=k
        ·subst hj;rw[PA.out,PB.out,HE2.out]
        ·exact HE.out j (by omega) h2
       case measure=>simp[intOf]
      ·have hb1:(((da k:Nat):Int) == ((db k:Nat):Int))=false:=by simp;omega
       have hb2:(((da k:Nat):Int) != ((db k:Nat):Int))=true:=by simp;omega
       have hr:=HG.out _ _ PA.out PB.out he;have HRR:=Lib.hid hr;clear hr he;go_wp2;go_ret;refine⟨?_,rfl⟩;rw[HRR.out]
       try simp
     ·have xa:w.cell? ⟨ba,k,none⟩=some (.int .u64 (da k:Nat)):=HA.out.2 k (by omega)
      have hka:(k:Int)<(n:Int):=by omega
      have pa:pad da n k=da k:=by unfold pad;rw[if_pos (by omega)]
      have hkb:¬(k:Int)<(m:Int):=by omega
      have pb:pad db m k=0:=by unfold pad;rw[if_neg (by omega)]
      have PA:=Lib.hid pa;clear pa;have PB:=Lib.hid pb;clear pb;by_cases he:da k=0
      ·have hb1:(((da k:Nat):Int) == (0:Int))=true:=by simp;omega
       have hb2:(((da k:Nat):Int) != (0:Int))=false:=by simp;omega
       have HE2:=Lib.hid he;clear he;go_wp2
       go_round
       case rel =>
        refine⟨k,by omega,rfl,Lib.hid (fun j h1 h2=>?_)⟩;by_cases hj:j=k
        ·subst hj;rw[PA.out,PB.out,HE2.out]
        ·exact HE.out j (by omega) h2
       case measure=>simp[intOf]
      ·have hb1:(((da k:Nat):Int) == (0:Int))=false:=by simp;omega
       have hb2:(((da k:Nat):Int) != (0:Int))=true:=by simp;omega
       have hr:=HG.out _ _ PA.out PB.out he;have HRR:=Lib.hid hr;clear hr he;go_wp2;go_ret;refine⟨?_,rfl⟩;rw[HRR.out]
       try simp
    ·have h2:k<m:=by have:=HN.out;omega
     have hka:¬(k:Int)<(n:Int):=by omega
     have pa:pad da n k=0:=by unfold pad;rw[if_neg (by omega)]
     have xb:w.cell? ⟨bb,k,none⟩=some (.int .u64 (db k:Nat)):=HB.out.2 k (by omega);have hkb:(k:Int)<(m:Int):=by omega
     have pb:pad db m k=db k:=by unfold pad;rw[if_pos (by omega)]
     have PA:=Lib.hid pa;clear pa;have PB:=Lib.hid pb;clear pb;by_cases he:0=db k
     ·have hb1:((0:Int) == ((db k:Nat):Int))=true:=by simp;omega
      have hb2:((0:Int) != ((db k:Nat):Int))=false:=by simp;omega
      have HE2:=Lib.hid he;clear he;go_wp2
      go_round
      case rel =>
       refine⟨k,by omega,rfl,Lib.hid (fun j h1 h2=>?_)⟩;by_cases hj:j=k
       ·subst hj;rw[PA.out,PB.out,HE2.out]
       ·exact HE.out j (by omega) h2
      case measure=>simp[intOf]
     ·have hb1:((0:Int) == ((db k:Nat):Int))=false:=by simp;omega
      have hb2:((0:Int) != ((db k:Nat):Int))=true:=by simp;omega
      have hr:=HG.out _ _ PA.out PB.out he;have HRR:=Lib.hid hr;clear hr he;go_wp2;go_ret;refine⟨?_,rfl⟩;rw[HRR.out]
      try simp
open Go.RowKit
def MinRel(w:World)(_n m k c:Nat)(da db:Nat->Nat)(v:Value)(wr:World):Prop :=
 c<=1/\∃ ns:Nat->Nat,wr.ownsRow w.heap.size 22 1 v k (dl ns k)/\(∀ j,j<k->ns j<65536)/\vd ns k+vd (pad db m) k=vd da k+65536^k*c/\Below w.heap.size w wr/\w.heap.size<wr.heap.size
theorem min_step{P N B A c d bk ak c':Nat}(h:N+B=A+P*c)(h1:d+(c+bk)=ak+65536*c'):N+P*d+(B+P*bk)=A+P*ak+P*65536*c':=by
 have e:=congrArg (P*·) h1;simp only[Nat.mul_add]at e;rw[<- Nat.mul_assoc]at e;omega
theorem min_next{w wr w1:World}{n m k c c' y:Nat}{da db ns:Nat->Nat}{v v' X:Value}(hown:wr.ownsRow w.heap.size 22 1 v k (dl ns k))(hns:∀ j,j<k->ns j<65536)
  (hv:vd ns k+vd (pad db m) k=vd da k+65536^k*c) (hb:Below w.heap.size w wr) (hz:w.heap.size<wr.heap.size) (hy:y<65536) (hc':c'<=1) (hx:y+(c+pad db m k)=da k+65536*c')
  (hown':w1.ownsRow w.heap.size 22 1 v' (k+1) (dl ns k++[.int .u64 (y:Nat)])) (hgrow:(wr.alloc (.cells #[X] 22)).grownBy w1 v.ownBlock) :
  MinRel w n m (k+1) c' da db v' w1:=by
 obtain⟨ho,hb'⟩:=push_rel hown hb (by omega) hown' hgrow;have hs:=hgrow.size;simp at hs;refine⟨hc',upd ns k y,ho,upd_lt hns hy,?_,hb',by omega⟩;rw[vd_upd,Nat.pow_succ];exact min_step hv hx
theorem min_end{P N B A c T:Nat}(h:N+B=A+P*c)(hc:c<=1)(hN:N<P)(hT:T<=A)(hB:B<=T):c=0:=by
 have:c=0\/c=1:=by omega
 rcases this with h0 | h0
 ·exact h0
 ·subst h0;omega
theorem vd_mono(d:Nat->Nat)(a:Nat):∀ e,vd d a<=vd d (a+e)
 | 0=>Nat.le_refl _
 | e+1=>Nat.le_trans (vd_mono d a e) (Nat.le_add_right _ _)
theorem pad_le(db:Nat->Nat)(m:Nat):∀ k,vd (pad db m) k<=vd db m
 | 0=>Nat.zero_le _
 | k+1=>by
  by_cases h:k+1<=m
  ·rw[vd_congr (e:=db) (fun j hj=>by simp only[pad];rw[if_pos (by omega)])]
   have h2:=vd_mono db (k+1) (m - (k+1));rwa [show k+1+(m - (k+1))=m by omega]at h2
  ·rw[vd_pad _ _ _ (by omega)];exact Nat.le_refl _
theorem vd_full{d:Nat->Nat}:∀ n m,(∀ j,n<=j->j<m->d j=0)->n<=m->vd d m=vd d n
 | n,0,_,h=>by rw[show n=0 by omega]
 | n,m+1,h0,h=>by
  by_cases e:n=m+1
  ·rw[e]
  ·rw[vd,vd_full n m (fun j h1 h2=>h0 j h1 (by omega)) (by omega),h0 m (by omega) (by omega)];omega
theorem vd_small{d:Nat->Nat}{n m:Nat}(h:vd d m<65536^n):∀ j,n<=j->j<m->d j=0:=fun j h1 h2=>by
 have h3:=vd_mono d (j+1) (m - (j+1));rw[show j+1+(m - (j+1))=m by omega,vd]at h3;have h4:65536^n<=65536^j:=Nat.pow_le_pow_right (by omega) h1;rcases Nat.eq_zero_or_pos (d j)with h5 | h5
 ·exact h5
 ·have h6:65536^j*1<=65536^j*d j:=Nat.mul_le_mul_left _ h5
  generalize 65536^j*d j=u at *;generalize 65536^j=v at *;generalize 65536^n=x at *;omega
theorem minus_any(ba ca bb cb n m:Nat)(da db:Nat->Nat)(hn0:0<n)(hn:(n:Int)<=1000000)(_hm:(m:Int)<=1000000)(ha:∀ j,j<n->da j<65536)(hb:∀ j,j<m->db j<65536)(hle:vd db m<=vd da n)(w:World)(hA:Dg w ba n da)(hB:Dg w bb m db) :
  Calls Tryz.prog 160 #[.slice (some ⟨ba,0,none⟩) n ca,.slice (some ⟨bb,0,none⟩) m cb] w (MkDg n (vd da n - vd db m) w):=by
 have Ha:=Lib.hid ha;clear ha;have Hb:=Lib.hid hb;clear hb;have HA:=Lib.hid hA;clear hA;have HB:=Lib.hid hB;clear hB;have HLE:=Lib.hid hle;clear hle;have HN0:=Lib.hid hn0;clear hn0;obtain⟨i0,hi,hz0,hz1,hz2⟩:=info_parts info22;go_enter Tryz.func160,Tryz.ntmps160;go_wp2
 go_loopw [5,6,7] (fun v cv i wr=>∃ k c:Nat,k<=n/\i=.int .i64 k/\cv=.int .u64 c/\Hid (MinRel w n m k c da db v wr)) (fun _ _ i _=>n - (intOf i).toNat)
 case atStart =>
  refine⟨0,0,by omega,rfl,rfl,Lib.hid ⟨by omega,da,?_,by omega,rfl,by go_grown,by simp⟩⟩;exact World.ownsRow_made (base:=w.heap.size) (e:=22) (size:=1) w #[] 0 (by simp) (by decide) (by simp)
 case round =>
  obtain⟨k,c,hk,rfl,rfl,H⟩:=hrel;have hk0:(0:Int)<=k:=by omega
  have hk1:(k:Int)<=1000000:=by omega
  obtain⟨hc,ns,hown,hns,hval,hbel,hsz⟩:=H.out;have hc0:(0:Int)<=c:=by omega
  have hc1:(c:Int)<=1:=by omega
  have HO:=Lib.hid hown;clear hown;have HNS:=Lib.hid hns;clear hns;have HVAL:=Lib.hid hval;clear hval;have HBEL:=Lib.hid hbel;clear hbel;have HSZ:=Lib.hid hsz;clear hsz;have HC:=Lib.hid hc;clear hc H;by_cases h1:k<n
  ·have hka:(k:Int)<(n:Int):=by omega
   have xa:((da k:Nat):Int)<=65535:=by have:=Ha.out k (by omega);omega
   have xa0:(0:Int)<=(da k:Nat):=by omega
   have ea:wr.cell? ⟨ba,k,none⟩=some (.int .u64 (da k:Nat)):=(HBEL.out.cell (p:=⟨ba,k,none⟩) HA.out.1).trans (HA.out.2 k (by omega));by_cases h2:k<m
   ·by_cases h3:da k<c+db k
    ·have hkb:(k:Int)<(m:Int):=by omega
     have xb:((db k:Nat):Int)<=65535:=by have:=Hb.out k (by omega);omega
     have xb0:(0:Int)<=(db k:Nat):=by omega
     have eb:wr.cell? ⟨bb,k,none⟩=some (.int .u64 (db k:Nat)):=(HBEL.out.cell (p:=⟨bb,k,none⟩) HB.out.1).trans (HB.out.2 k (by omega));have eb':pad db m k=db k:=by simp only[pad];rw[if_pos (by omega)]
     obtain⟨y,hy⟩:∃ y:Nat,(c:Int)+(db k:Nat)=(y:Int):=⟨c+db k,by omega⟩
     have hyc:y=c+pad db m k:=by rw[eb'];omega
     have HYC:=Lib.hid hyc;clear hyc eb';have hyb:(y:Int)<=65536:=by omega
     have hy0:(0:Int)<=y:=by omega
     have hlt:((da k:Nat):Int)<(y:Int):=by omega
     obtain⟨z,hz⟩:∃ z:Nat,((da k:Nat):Int)+65536 - (y:Int)=(z:Int):=⟨da k+65536 - y,by omega⟩
     have hzl:z<65536:=by omega
     have hzx:z+(c+pad db m k)=da k+65536*1:=by have:=HYC.out;omega
     have HZX:=Lib.hid hzx;clear hzx;have HZL:=Lib.hid hzl;clear hzl
     go_wp2_with (at_builtin;refine wpList_append_own _ rfl (.tmp 37) (.tmp 41) 126 rfl w.heap.size 22 i0 (.int .u64 0) 1 8 Tryz.underlying126 hi hz0 hz1 hz2 rfl (by decide) _ _ _ rfl (HO.out.alloc _) ⟨wr.heap.size,0,none⟩ 1 1 [.int .u64 (z:Int)] rfl rfl ?d111 ?d112 ?d113 ?d114 ?d115 ?_)
     try (case d111=>exact cell_one_new _ _ _)
     try (case d112=>first | rfl | (intro u hu;simp at hu;subst hu;rfl))
     try (case d113=>unfold maxLen;omega)
     try (case d114=>omega)
     try (case d115=>have:=HSZ.out;first | omega | (simp;omega))
     intro v' w1 hown' hgrow _;have HN:=Lib.hid (min_next (n:=n) (m:=m) (da:=da) (db:=db) HO.out HNS.out HVAL.out HBEL.out HSZ.out HZL.out (by omega) HZX.out hown' hgrow);clear hown' hgrow;go_wp2
     go_roundw
     case rel=>exact⟨k+1,1,by omega,by go_num,rfl,HN⟩
     case measure=>simp[intOf];omega
    ·have hkb:(k:Int)<(m:Int):=by omega
     have xb:((db k:Nat):Int)<=65535:=by have:=Hb.out k (by omega);omega
     have xb0:(0:Int)<=(db k:Nat):=by omega
     have eb:wr.cell? ⟨bb,k,none⟩=some (.int .u64 (db k:Nat)):=(HBEL.out.cell (p:=⟨bb,k,none⟩) HB.out.1).trans (HB.out.2 k (by omega));have eb':pad db m k=db k:=by simp only[pad];rw[if_pos (by omega)]
     obtain⟨y,hy⟩:∃ y:Nat,(c:Int)+(db k:Nat)=(y:Int):=⟨c+db k,by omega⟩
     have hyc:y=c+pad db m k:=by rw[eb'];omega
     have HYC:=Lib.hid hyc;clear hyc eb';have hyb:(y:Int)<=65536:=by omega
     have hy0:(0:Int)<=y:=by omega
     have hlt:¬((da k:Nat):Int)<(y:Int):=by omega
     obtain⟨z,hz⟩:∃ z:Nat,((da k:Nat):Int) - (y:Int)=(z:Int):=⟨da k - y,by omega⟩
     have hzl:z<65536:=by omega
     have hzx:z+(c+pad db m k)=da k+65536*0:=by have:=HYC.out;omega
     have HZX:=Lib.hid hzx;clear hzx;have HZL:=Lib.hid hzl;clear hzl
     go_wp2_with (at_builtin;refine wpList_append_own _ rfl (.tmp 37) (.tmp 41) 126 rfl w.heap.size 22 i0 (.int .u64 0) 1 8 Tryz.underlying126 hi hz0 hz1 hz2 rfl (by decide) _ _ _ rfl (HO.out.alloc _) ⟨wr.heap.size,0,none⟩ 1 1 [.int .u64 (z:Int)] rfl rfl ?d101 ?d102 ?d103 ?d104 ?d105 ?_)
     try (case d101=>exact cell_one_new _ _ _)
     try (case d102=>first | rfl | (intro u hu;simp at hu;subst hu;rfl))
     try (case d103=>unfold maxLen;omega)
     try (case d104=>omega)
     try (case d105=>have:=HSZ.out;first | omega | (simp;omega))
     intro v' w1 hown' hgrow _;have HN:=Lib.hid (min_next (n:=n) (m:=m) (da:=da) (db:=db) HO.out HNS.out HVAL.out HBEL.out HSZ.out HZL.out (by omega) HZX.out hown' hgrow);clear hown' hgrow;go_wp2
     go_roundw
     case rel=>exact⟨k+1,0,by omega,by go_num,rfl,HN⟩
     case measure=>simp[intOf];omega
   ·by_cases h3:da k<c
    ·have hkb:¬(k:Int)<(m:Int):=by omega
     have eb':pad db m k=0:=by simp only[pad];rw[if_neg (by omega)]
     obtain⟨y,hy⟩:∃ y:Nat,c=y:=⟨c,rfl⟩
     subst hy;have hyc:c=c+pad db m k:=by rw[eb'];omega
     have HYC:=Lib.hid hyc;clear hyc eb';have hyb:(c:Int)<=65536:=by omega
     have hy0:(0:Int)<=c:=by omega
     have hlt:((da k:Nat):Int)<(c:Int):=by omega
     obtain⟨z,hz⟩:∃ z:Nat,((da k:Nat):Int)+65536 - (c:Int)=(z:Int):=⟨da k+65536 - c,by omega⟩
     have hzl:z<65536:=by omega
     have hzx:z+(c+pad db m k)=da k+65536*1:=by have:=HYC.out;omega
     have HZX:=Lib.hid hzx;clear hzx;have HZL:=Lib.hid hzl;clear hzl
     go_wp2_with (at_builtin;refine wpList_append_own _ rfl (.tmp 37) (.tmp 41) 126 rfl w.heap.size 22 i0 (.int .u64 0) 1 8 Tryz.underlying126 hi hz0 hz1 hz2 rfl (by decide) _ _ _ rfl (HO.out.alloc _) ⟨wr.heap.size,0,none⟩ 1 1 [.int .u64 (z:Int)] rfl rfl ?d011 ?d012 ?d013 ?d014 ?d015 ?_)
     try (case d011=>exact cell_one_new _ _ _)
     try (case d012=>first | rfl | (intro u hu;simp at hu;subst hu;rfl))
     try (case d013=>unfold maxLen;omega)
     try (case d014=>omega)
     try (case d015=>have:=HSZ.out;first | omega | (simp;omega))
     intro v' w1 hown' hgrow _;have HN:=Lib.hid (min_next (n:=n) (m:=m) (da:=da) (db:=db) HO.out HNS.out HVAL.out HBEL.out HSZ.out HZL.out (by omega) HZX.out hown' hgrow);clear hown' hgrow;go_wp2
     go_roundw
     case rel=>exact⟨k+1,1,by omega,by go_num,rfl,HN⟩
     case measure=>simp[intOf];omega
    ·have hkb:¬(k:Int)<(m:Int):=by omega
     have eb':pad db m k=0:=by simp only[pad];rw[if_neg (by omega)]
     obtain⟨y,hy⟩:∃ y:Nat,c=y:=⟨c,rfl⟩
     subst hy;have hyc:c=c+pad db m k:=by rw[eb'];omega
     have HYC:=Lib.hid hyc;clear hyc eb';have hyb:(c:Int)<=65536:=by omega
     have hy0:(0:Int)<=c:=by omega
     have hlt:¬((da k:Nat):Int)<(c:Int):=by omega
     obtain⟨z,hz⟩:∃ z:Nat,((da k:Nat):Int) - (c:Int)=(z:Int):=⟨da k - c,by omega⟩
     have hzl:z<65536:=by omega
     have hzx:z+(c+pad db m k)=da k+65536*0:=by have:=HYC.out;omega
     have HZX:=Lib.hid hzx;clear hzx;have HZL:=Lib.hid hzl;clear hzl
     go_wp2_with (at_builtin;refine wpList_append_own _ rfl (.tmp 37) (.tmp 41) 126 rfl w.heap.size 22 i0 (.int .u64 0) 1 8 Tryz.underlying126 hi hz0 hz1 hz2 rfl (by decide) _ _ _ rfl (HO.out.alloc _) ⟨wr.heap.size,0,none⟩ 1 1 [.int .u64 (z:Int)] rfl rfl ?d001 ?d002 ?d003 ?d004 ?d005 ?_)
     try (case d001=>exact cell_one_new _ _ _)
     try (case d002=>first | rfl | (intro u hu;simp at hu;subst hu;rfl))
     try (case d003=>unfold maxLen;omega)
     try (case d004=>omega)
     try (case d005=>have:=HSZ.out;first | omega | (simp;omega))
     intro v' w1 hown' hgrow _;have HN:=Lib.hid (min_next (n:=n) (m:=m) (da:=da) (db:=db) HO.out HNS.out HVAL.out HBEL.out HSZ.out HZL.out (by omega) HZX.out hown' hgrow);clear hown' hgrow;go_wp2
     go_roundw
     case rel=>exact⟨k+1,0,by omega,by go_num,rfl,HN⟩
     case measure=>simp[intOf];omega
  ·have hka:¬(k:Int)<(n:Int):=by omega
   obtain rfl:k=n:=by omega
   have hc2:=min_end HVAL.out HC.out (vd_lt HNS.out) HLE.out (pad_le db m k);have R:=made_of (Nat.le_refl _) HO.out HN0.out HNS.out HBEL.out;have hpe:vd (pad db m) k=vd db m:=by
    by_cases q:m<=k
    ·exact vd_pad _ _ _ q
    ·have h5:=vd_small (d:=db) (n:=k) (m:=m) (Nat.lt_of_le_of_lt HLE.out (vd_lt Ha.out))
     rw[vd_full (d:=db) k m h5 (by omega)];exact vd_congr (fun j hj=>by simp only[pad];rw[if_pos (by omega)])
   have hfin:vd ns k=vd da k - vd db m:=by have:=HVAL.out;rw[hc2,hpe]at this;omega
   rw[hfin]at R;have HR:=Lib.hid R;clear R hfin hpe hc2;go_wp2;go_ret;exact HR.out
end Go.Proofs.YtadfjjfklihaaaaGreat
