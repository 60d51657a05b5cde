/- Code walked over values told by letters: operations in the text's order, the control, a function's answer. No program is named here. (Cut to what is reached, written closely: FAdd · FOpen · Many · Go · Gw · Gt · Gi · SyV · SyE · SyO · SyC.) -/
import Derived.Test.YtfmpjjhdocejiaaGreatL4
import Derived.Test.YtfmpjjhdocejiaaGreatRows
import Derived.WalkKit
import Derived.ProofKit
import Derived.OpenShut
import Derived.ChangeSlices
import Derived.Deep.DeepHandedRow
import Derived.Lib.LaidTab
import Derived.Laws.IdiomArrays
import Derived.Test.YtfmpjjhdocejiaaGreatL2
import Derived.Maps.AppendAt
import Derived.Test.YtfmpjjhdocejiaaGreatProg
import Derived.Deep.MidRow
set_option linter.all false
set_option maxRecDepth 100000
set_option maxHeartbeats 8000000
namespace Go.Proofs.YtfmpjjhdocejiaaGreat
open Go.RowKit
structure CO (w:World) (F m a b:Nat) (wx:World):Prop where
 old:Below w.heap.size w wx
 fld:FldAt wx F m
 hF:F<w.heap.size
 r0:∃ x,wx.heap[w.heap.size]?=some (.cells (pw x) 24 (0,0))/\x<2^256/\x%m=a%m
 r1:∃ x,wx.heap[w.heap.size+1]?=some (.cells (pw x) 24 (0,0))/\x<2^256/\x%m=b%m
 r2:wx.heap[w.heap.size+1+1]?=some (.cells #[.int .u64 0,.int .u64 0,.int .u64 0,.int .u64 0] 24 (0,0))
theorem CO.below{w wx w':World}{F m a b:Nat}(c:CO w F m a b wx)(hb:Below wx.heap.size wx w'):CO w F m a b w':=by
 obtain⟨x,h1,h2⟩:=c.r0;obtain⟨y,h3,h4⟩:=c.r1;exact⟨c.old.trans (hb.mono c.old.size),c.fld.below hb,c.hF,⟨x,(hb.block _ (Array.getElem?_eq_some_iff.1 h1).1).trans h1,h2⟩,⟨y,(hb.block _ (Array.getElem?_eq_some_iff.1 h3).1).trans h3,h4⟩,(hb.block _ (Array.getElem?_eq_some_iff.1 c.r2).1).trans c.r2⟩
theorem CO.drew{w wx:World}{F m a b:Nat}(c:CO w F m a b wx):CO w F m a b wx.drew:=c.below (Below.drew (Below.refl _ _))
theorem fld_row{w:World}{F m g:Nat}{cs:Array Value}(h:FldAt w F m)(hg:F≠g):FldAt (w.setRow g cs) F m:=⟨(setRow_other _ _ _ _ hg).trans h.row,h.odd,h.big,h.lt⟩
theorem CO.set0{w wx:World}{F m a b:Nat}(c:CO w F m a b wx):CO w F m a b (wx.setRow w.heap.size (pw (a%m))):=by
 obtain⟨x,h1,h2⟩:=c.r0;obtain⟨y,h3,h4⟩:=c.r1;have hF:=c.hF;exact⟨below_setRow c.old (Nat.le_refl _) _,fld_row c.fld (by omega),c.hF,⟨a%m,setRow_heap _ _ _ _ _ _ h1,Nat.lt_trans (Nat.mod_lt _ (by have:=c.fld.big;omega)) c.fld.lt,Nat.mod_mod _ _⟩,⟨y,(setRow_other _ _ _ _ (by omega)).trans h3,h4⟩,(setRow_other _ _ _ _ (by omega)).trans c.r2⟩
theorem CO.set1{w wx:World}{F m a b:Nat}(c:CO w F m a b wx):CO w F m a b (wx.setRow (w.heap.size+1) (pw (b%m))):=by
 obtain⟨x,h1,h2⟩:=c.r0;obtain⟨y,h3,h4⟩:=c.r1;have hF:=c.hF;exact⟨below_setRow c.old (by omega) _,fld_row c.fld (by omega),c.hF,⟨x,(setRow_other _ _ _ _ (by omega)).trans h1,h2⟩,⟨b%m,setRow_heap _ _ _ _ _ _ h3,Nat.lt_trans (Nat.mod_lt _ (by have:=c.fld.big;omega)) c.fld.lt,Nat.mod_mod _ _⟩,(setRow_other _ _ _ _ (by omega)).trans c.r2⟩
theorem CO.start{w:World}{F m a b:Nat}(h:FldAt w F m)(ha:a<2^256)(hb:b<2^256):CO w F m a b (((w.alloc (.cells (pw a) 24)).alloc (.cells (pw b) 24)).alloc (.cells #[.int .u64 0,.int .u64 0,.int .u64 0,.int .u64 0] 24)):=by
 have c:=CW.two h a b;exact⟨c.old,c.fld,c.hF,⟨a,c.is _ _ (by simp),ha,rfl⟩,⟨b,c.is _ _ (by simp),hb,rfl⟩,c.is _ _ (by simp)⟩
theorem CO.done{w wx:World}{F m a b:Nat}(c:CO w F m a b wx)(h0:wx.heap[w.heap.size]?=some (.cells (pw (a%m)) 24 (0,0)))(h1:wx.heap[w.heap.size+1]?=some (.cells (pw (b%m)) 24 (0,0))):CW w F m [(w.heap.size+1+1,#[.int .u64 0,.int .u64 0,.int .u64 0,.int .u64 0]),(w.heap.size+1,pw (b%m)),(w.heap.size,pw (a%m))] wx :=
 ⟨c.old,c.fld,c.hF,fun p hp=>by
  simp only[List.mem_cons,List.not_mem_nil,or_false]at hp;rcases hp with rfl | rfl | rfl
  ·exact c.r2
  ·exact h1
  ·exact h0⟩
def RO(w:World)(x y:Nat)(wa wb:World):Prop:=(wa.heap[w.heap.size]?=some (.cells (pw x) 24 (0,0))->wb.heap[w.heap.size]?=some (.cells (pw x) 24 (0,0)))/\(wa.heap[w.heap.size+1]?=some (.cells (pw y) 24 (0,0))->wb.heap[w.heap.size+1]?=some (.cells (pw y) 24 (0,0)))
theorem RO.refl(w:World)(x y:Nat)(wa:World):RO w x y wa wa:=⟨id,id⟩
theorem RO.of{w wa wb:World}{x y:Nat}(hb:Below wa.heap.size wa wb):RO w x y wa wb:=⟨fun h=>(hb.block _ (Array.getElem?_eq_some_iff.1 h).1).trans h,fun h=>(hb.block _ (Array.getElem?_eq_some_iff.1 h).1).trans h⟩
theorem store_w{g x:Nat}{w:World}{cs:Array Value}(hs:cs.size=4)(hg:w.heap[g]?=some (.cells cs 24 (0,0))):(Instr.storeAt 24 (.pointer (some ⟨g,0,none⟩)) (.agg (pw x))).run Tryz.prog w=.ok () (w.setRow g (pw x)):=store_pw hs hg
theorem add_less{m x y:Nat}(hx:x<m)(hy:y<m)(hm:m<2^256):pw (lessV m ((x+y)%2^256) (decide ((x+y)%2^256<x)))=pw ((x+y)%m):=by
 apply pw_congr;unfold lessV;rw[Nat.mod_mod];by_cases h:x+y<m
 ·rw[Nat.mod_eq_of_lt h,Nat.mod_eq_of_lt (show x+y<2^256 by omega),if_neg (by simp;omega)]
  exact Nat.mod_eq_of_lt (by omega)
 ·have e:(x+y)%m=x+y - m:=by rw[Nat.mod_eq_sub_mod (by omega),Nat.mod_eq_of_lt (by omega)]
  rw[e];by_cases h2:x+y<2^256
  ·rw[Nat.mod_eq_of_lt h2,if_pos (by right;omega),show x+y+(2^256 - m)=x+y - m+2^256 by omega,Nat.add_mod_right]
  ·rw[if_pos (by left;simp;omega)]
   omega
theorem sub_less{m x y:Nat}(hx:x<m)(hy:y<m)(hm:m<2^256):(x<y->pw ((x+(2^256 - y))%2^256+m)=pw ((x+(m - y))%m))/\(¬x<y->pw ((x+(2^256 - y))%2^256)=pw ((x+(m - y))%m)):=by
 refine⟨fun h=>pw_congr ?_,fun h=>pw_congr ?_⟩
 ·rw[Nat.mod_eq_of_lt (show x+(m - y)<m by omega)]
  omega
 ·rw[Nat.mod_eq_sub_mod (show m<=x+(m - y) by omega),Nat.mod_eq_of_lt (show x+(m - y) - m<m by omega)]
  omega
-- WHAT Add COMES TO.
theorem fadd_any(F m a b:Nat)(ha:a<2^256)(hb:b<2^256)(w:World)(hF:FldAt w F m):Calls Tryz.prog 74 #[.pointer (some ⟨F,0,none⟩),.agg (pw a),.agg (pw b)] w fun e w'=>e=.returned (.agg (pw ((a+b)%m)))/\Below w.heap.size w w':=by
 have H0:=Lib.hid (CO.start hF ha hb);have hlt:∀ z,z%m<m:=fun z=>Nat.mod_lt _ (by have:=hF.big;omega);have HE:=Lib.hid (add_less (hlt a) (hlt b) hF.lt);have HN:=Lib.hid (show a%m<2^256/\b%m<2^256 from⟨Nat.lt_trans (hlt a) hF.lt,Nat.lt_trans (hlt b) hF.lt⟩);have HR:=Lib.hid (show(a+b)%m=(a%m+b%m)%m from Nat.add_mod _ _ _);clear hF ha hb hlt;go_enter Tryz.func74,Tryz.ntmps74
 go_wp2_with fail
 refine region_tie (CO w F m a b) (fun i s wx=>match i with | 0=>s 8=.pointer (some ⟨F,0,none⟩) | 1=>∃ x,s 9=.agg (pw x)/\x<2^256/\x%m=a%m | 2=>s 10=.agg (pw (a%m)) | 3=>s 11=.pointer (some ⟨F,0,none⟩) | 4=>∃ x,s 12=.agg (pw x)/\x<2^256/\x%m=b%m | 5=>s 13=.agg (pw (b%m)) | 6=>wx.heap[w.heap.size]?=some (.cells (pw (a%m)) 24 (0,0)) | 7=>wx.heap[w.heap.size+1]?=some (.cells (pw (b%m)) 24 (0,0)) | _=>True) (RO w (a%m) (b%m)) (fun i=>match i with | 0=>[8] | 1=>[9] | 2=>[10] | 3=>[11] | 4=>[12] | 5=>[13] | 6=>[] | 7=>[] | _=>[]) (fun i=>i) (by kernel_rfl) (by kernel_rfl) H0.out.drew ?_ ?_ ?_ ?_
 ·intro i s s' wx he hp
  match i,he,hp with
  | 0,he,hp=>exact(he 8 (by simp)).symm.trans hp
  | 1,he,hp=>obtain⟨x,h1,h2⟩:=hp;exact⟨x,(he 9 (by simp)).symm.trans h1,h2⟩
  | 2,he,hp=>exact(he 10 (by simp)).symm.trans hp
  | 3,he,hp=>exact(he 11 (by simp)).symm.trans hp
  | 4,he,hp=>obtain⟨x,h1,h2⟩:=hp;exact⟨x,(he 12 (by simp)).symm.trans h1,h2⟩
  | 5,he,hp=>exact(he 13 (by simp)).symm.trans hp
  | 6,he,hp=>exact hp
  | 7,he,hp=>exact hp
  | _+8,_,_=>trivial
 ·intro i s wa wb hR hp
  match i,hp with
  | 0,hp=>exact hp
  | 1,hp=>exact hp
  | 2,hp=>exact hp
  | 3,hp=>exact hp
  | 4,hp=>exact hp
  | 5,hp=>exact hp
  | 6,hp=>exact hR.1 hp
  | 7,hp=>exact hR.2 hp
  | _+8,_=>trivial
 ·refine⟨?_,?_,?_,?_,?_,?_,?_,?_,trivial⟩
  ·intro a_ wx hC hsz hK
   have h0:a_.tmps.getD 0 undef=(.pointer (some ⟨F,0,none⟩)):=hK.1 0 (by kernel_rfl);exact tt_val (.pointer (some ⟨F,0,none⟩)) (by kernel_rfl) (by rw[<- h0];kernel_rfl) hC (slots_put _ _ _ (by rw[hsz];exact of_decide_eq_true (by kernel_rfl))) (RO.refl _ _ _ _)
  ·intro a_ wx hC hsz hK
   have h0:a_.tmps.getD 4 undef=(.pointer (some ⟨w.heap.size,0,none⟩)):=hK.1 4 (by kernel_rfl);obtain⟨x,h1,h2⟩:=hC.r0;exact tt_load 24 (.tmp 4) (.pointer (some ⟨w.heap.size,0,none⟩)) (.agg (pw x)) rfl (by kernel_rfl) h0 (ld_pw h1) hC ⟨x,(slots_put _ _ _ (by rw[hsz];exact of_decide_eq_true (by kernel_rfl))),h2⟩ (RO.refl _ _ _ _)
  ·intro a_ wx hC hsz hK
   have h0:a_.tmps.getD 8 undef=(.pointer (some ⟨F,0,none⟩)):=hK.2 ⟨0,.data⟩ (by simp) rfl _ rfl;obtain⟨x,h1,h2,h3⟩:=hK.2 ⟨1,.data⟩ (by simp) rfl _ rfl;refine tt_call 73 #[a_.tmps.getD 8 undef,a_.tmps.getD 9 undef] (by kernel_rfl) (by kernel_rfl) ?_;rw[h0,show a_.tmps.getD 9 undef=_ from h1];exact(fof_any F m x h2 wx hC.fld).mono fun e w' hh=>⟨.agg (pw (a%m)),by rw[hh.1,h3],hC.below hh.2,(slots_put _ _ _ (by rw[hsz];exact of_decide_eq_true (by kernel_rfl))),RO.of hh.2⟩
  ·intro a_ wx hC hsz hK
   have h0:a_.tmps.getD 0 undef=(.pointer (some ⟨F,0,none⟩)):=hK.1 0 (by kernel_rfl);exact tt_val (.pointer (some ⟨F,0,none⟩)) (by kernel_rfl) (by rw[<- h0];kernel_rfl) hC (slots_put _ _ _ (by rw[hsz];exact of_decide_eq_true (by kernel_rfl))) (RO.refl _ _ _ _)
  ·intro a_ wx hC hsz hK
   have h0:a_.tmps.getD 5 undef=(.pointer (some ⟨w.heap.size+1,0,none⟩)):=hK.1 5 (by kernel_rfl);obtain⟨x,h1,h2⟩:=hC.r1;exact tt_load 24 (.tmp 5) (.pointer (some ⟨w.heap.size+1,0,none⟩)) (.agg (pw x)) rfl (by kernel_rfl) h0 (ld_pw h1) hC ⟨x,(slots_put _ _ _ (by rw[hsz];exact of_decide_eq_true (by kernel_rfl))),h2⟩ (RO.refl _ _ _ _)
  ·intro a_ wx hC hsz hK
   have h0:a_.tmps.getD 11 undef=(.pointer (some ⟨F,0,none⟩)):=hK.2 ⟨3,.data⟩ (by simp) rfl _ rfl;obtain⟨x,h1,h2,h3⟩:=hK.2 ⟨4,.data⟩ (by simp) rfl _ rfl;refine tt_call 73 #[a_.tmps.getD 11 undef,a_.tmps.getD 12 undef] (by kernel_rfl) (by kernel_rfl) ?_;rw[h0,show a_.tmps.getD 12 undef=_ from h1];exact(fof_any F m x h2 wx hC.fld).mono fun e w' hh=>⟨.agg (pw (b%m)),by rw[hh.1,h3],hC.below hh.2,(slots_put _ _ _ (by rw[hsz];exact of_decide_eq_true (by kernel_rfl))),RO.of hh.2⟩
  ·intro a_ wx hC hsz hK
   have h0:a_.tmps.getD 4 undef=(.pointer (some ⟨w.heap.size,0,none⟩)):=hK.1 4 (by kernel_rfl);have h1:a_.tmps.getD 10 undef=.agg (pw (a%m)):=hK.2 ⟨2,.data⟩ (by simp) rfl _ rfl;obtain⟨x,h2,h3⟩:=hC.r0;exact tt_store (by kernel_rfl) rfl (run_st 24 (.tmp 4) (.tmp 10) _ _ rfl h0 h1 (store_w (pw_size _) h2)) hC.set0 (setRow_heap _ _ _ _ _ _ h2) ⟨fun _=>setRow_heap _ _ _ _ _ _ h2,fun h=>(setRow_other _ _ _ _ (by omega)).trans h⟩
  ·intro a_ wx hC hsz hK
   have h0:a_.tmps.getD 5 undef=(.pointer (some ⟨w.heap.size+1,0,none⟩)):=hK.1 5 (by kernel_rfl);have h1:a_.tmps.getD 13 undef=.agg (pw (b%m)):=hK.2 ⟨5,.data⟩ (by simp) rfl _ rfl;obtain⟨x,h2,h3⟩:=hC.r1;exact tt_store (by kernel_rfl) rfl (run_st 24 (.tmp 5) (.tmp 13) _ _ rfl h0 h1 (store_w (pw_size _) h2)) hC.set1 (setRow_heap _ _ _ _ _ _ h2) ⟨fun h=>(setRow_other _ _ _ _ (by omega)).trans h,fun _=>setRow_heap _ _ _ _ _ _ h2⟩
 intro f1 wy hCy hf;have k0:=hf 6 _ rfl;have k1:=hf 7 _ rfl;have H1:=Lib.hid (hCy.done k0 k1);clear hf hCy k0 k1 H0;simp only[putAll,Act.put,List.setIfInBounds_toArray,List.set_cons_succ,List.set_cons_zero];obtain⟨x,hx⟩:∃ x,a%m=x:=⟨_,rfl⟩
 obtain⟨y,hy⟩:∃ y,b%m=y:=⟨_,rfl⟩
 rw[hx,hy]at H1 HE HN HR;clear hx hy
 go_wp2_with (first | (refine wpList_ld rfl 24 _ rfl (.pointer (some ⟨w.heap.size,0,none⟩)) (.agg (pw x)) rfl (ld_pw (by exact H1.out.is _ _ (by simp))) ?_) | (refine wpList_ld rfl 24 _ rfl (.pointer (some ⟨w.heap.size+1,0,none⟩)) (.agg (pw y)) rfl (ld_pw (by exact H1.out.is _ _ (by simp))) ?_))
 refine(add_pw x y _).mono ?_;rintro e w5 ⟨rfl,hb5⟩;rw[show pw (x+y)=pw ((x+y)%2^256) from pw_congr (by rw[Nat.mod_mod])];obtain⟨z,hz⟩:∃ z,(x+y)%2^256=z:=⟨_,rfl⟩
 have HZ:=Lib.hid (show z<2^256 from by rw[<- hz];exact Nat.mod_lt _ (by omega));rw[hz]at HE |-
 clear hz;obtain⟨g,hg⟩:∃ g,w5.heap.size=g:=⟨_,rfl⟩
 have H5:=Lib.hid (show CW w F m [(g,pw z),(w.heap.size+1+1,#[.int .u64 0,.int .u64 0,.int .u64 0,.int .u64 0]),(w.heap.size,pw x)] ((w5.alloc (.cells #[.int .u64 0,.int .u64 0,.int .u64 0,.int .u64 0] 24)).setRow w5.heap.size (pw z)) from by
  rw[<- hg];have c:=(H1.out.below hb5).new #[.int .u64 0,.int .u64 0,.int .u64 0,.int .u64 0];have h9:=(H1.out.below hb5).old.size;have h8:w.heap.size+1+1<w5.heap.size:=(Array.getElem?_eq_some_iff.1 ((H1.out.below hb5).is (w.heap.size+1+1) #[.int .u64 0,.int .u64 0,.int .u64 0,.int .u64 0] (by simp))).1;exact c.put w5.heap.size #[.int .u64 0,.int .u64 0,.int .u64 0,.int .u64 0] (pw z) _ h9 (by simp) (fun p hp=>by
   simp only[List.mem_cons,List.not_mem_nil,or_false]at hp;rcases hp with rfl | rfl
   ·exact⟨by simp,by show w.heap.size+1+1≠_;omega⟩
   ·exact⟨by simp,by show w.heap.size≠_;omega⟩))
 have HG:=Lib.hid (And.intro hg (heap_alloc_new w5 (.cells #[.int .u64 0,.int .u64 0,.int .u64 0,.int .u64 0] 24)));clear hb5 hg
 go_wp2_with (refine wpList_store_row rfl 24 _ _ rfl w5.heap.size (pw z) rfl rfl 24 (#[.int .u64 0,.int .u64 0,.int .u64 0,.int .u64 0]) (by exact HG.out.2) (by rw[pw_size];exact infoW4) (by rw[pw_size];rfl) (pw_one _) ?_)
 obtain⟨w6,hw6⟩:∃ w6,(w5.alloc (.cells #[.int .u64 0,.int .u64 0,.int .u64 0,.int .u64 0] 24)).setRow w5.heap.size (pw z)=w6:=⟨_,rfl⟩
 rw[hw6]at H5 |-
 rw[HG.out.1];clear hw6 HG H1;have HCM:=Lib.hid (CW.calls (w:=w) (F:=F) (m:=m) (L:=[(g,pw z),(w.heap.size+1+1,#[.int .u64 0,.int .u64 0,.int .u64 0,.int .u64 0]),(w.heap.size,pw x)]) (fun wx _=>cmp_pw z x HZ.out HN.out.1 wx));have HLO:=Lib.hid (CW.calls (w:=w) (F:=F) (m:=m) (L:=[(g,pw z),(w.heap.size+1+1,#[.int .u64 0,.int .u64 0,.int .u64 0,.int .u64 0]),(w.heap.size,pw x)]) (fun wx hf=>lessOnce_any F m z (decide (z<x)) wx hf));rw[HE.out]at HLO;obtain⟨v,hv⟩:∃ v,(x+y)%m=v:=⟨_,rfl⟩
 rw[hv]at HLO;have HV:=Lib.hid hv;clear hv;refine region_quiet_tail 7 (CW w F m [(g,pw z),(w.heap.size+1+1,#[.int .u64 0,.int .u64 0,.int .u64 0,.int .u64 0]),(w.heap.size,pw x)]) (by kernel_rfl) (by kernel_rfl) (H5.out.drew) ?_;simp only[List.take_succ_cons,List.take_zero,List.drop_succ_cons,List.drop_zero]
 with_reducible refine q_val (.pointer (some ⟨F,0,none⟩)) (by kernel_rfl) (fun _ _=>by kernel_rfl) ?_
 with_reducible refine q_load 24 (.tmp 7) (.pointer (some ⟨g,0,none⟩)) (.agg (pw z)) rfl (by kernel_rfl) (by kernel_rfl) (fun _ c=>ld_pw (c.is _ _ (by simp))) ?_
 with_reducible refine q_load 24 (.tmp 7) (.pointer (some ⟨g,0,none⟩)) (.agg (pw z)) rfl (by kernel_rfl) (by kernel_rfl) (fun _ c=>ld_pw (c.is _ _ (by simp))) ?_
 with_reducible refine q_load 24 (.tmp 4) (.pointer (some ⟨w.heap.size,0,none⟩)) (.agg (pw x)) rfl (by kernel_rfl) (by kernel_rfl) (fun _ c=>ld_pw (c.is _ _ (by simp))) ?_
 with_reducible refine q_call 89 #[.agg (pw z),.agg (pw x)] (.int .i64 (ord z x)) (by kernel_rfl) (fun _=>by kernel_rfl) (HCM.out) ?_
 with_reducible refine q_bin .lss 3 _ _ 3 (.int .i64 (ord z x)) (.int .i64 0) (.bool (decide (z<x))) rfl (by kernel_rfl) (by kernel_rfl) (by kernel_rfl) (fun _=>by kernel_rfl) (fun w'=>lss_ord z x w') ?_
 with_reducible refine q_call 91 #[.pointer (some ⟨F,0,none⟩),.agg (pw z),.bool (decide (z<x))] (.agg (pw v)) (by kernel_rfl) (fun _=>by kernel_rfl) (HLO.out) ?_
 with_reducible refine wpQuiet_nil ?_
 intro wx hC;have HC:=Lib.hid hC;clear hC H5 HCM HLO;simp only[Act.put,List.setIfInBounds_toArray,List.set_cons_succ,List.set_cons_zero]
 go_wp2_with (refine wpList_store_row rfl 24 _ _ rfl (w.heap.size+1+1) (pw v) rfl rfl 24 (#[.int .u64 0,.int .u64 0,.int .u64 0,.int .u64 0]) (by exact HC.out.is _ _ (by simp)) (by rw[pw_size];exact infoW4) (by first | rfl | (rw[pw_size];rfl) | (rw[pw_size,pw_size])) (pw_one _) ?_)
 (try simp only[Act.put])
 refine bodyPost_ret (v:=.agg (pw v)) (results_cell_row (p:=6) rfl _ _ (w.heap.size+1+1) 24 (pw v) (0,0) _ rfl (setRow_heap _ _ _ _ _ _ (by exact HC.out.is _ (#[.int .u64 0,.int .u64 0,.int .u64 0,.int .u64 0]) (by simp))) Tryz.underlying24 rfl (by rw[pw_size];exact infoW4)) rfl ⟨by rw[<- HV.out,HR.out],below_setRow HC.out.old (by omega) _⟩
-- WHAT Sub COMES TO.
theorem fsub_any(F m a b:Nat)(ha:a<2^256)(hb:b<2^256)(w:World)(hF:FldAt w F m):Calls Tryz.prog 77 #[.pointer (some ⟨F,0,none⟩),.agg (pw a),.agg (pw b)] w fun e w'=>e=.returned (.agg (pw ((a%m+(m - b%m))%m)))/\Below w.heap.size w w':=by
 have H0:=Lib.hid (CO.start hF ha hb);have hlt:∀ z,z%m<m:=fun z=>Nat.mod_lt _ (by have:=hF.big;omega);have HE:=Lib.hid (sub_less (hlt a) (hlt b) hF.lt);have HN:=Lib.hid (show a%m<2^256/\b%m<2^256 from⟨Nat.lt_trans (hlt a) hF.lt,Nat.lt_trans (hlt b) hF.lt⟩);clear hF ha hb hlt;go_enter Tryz.func77,Tryz.ntmps77
 go_wp2_with fail
 refine region_tie (CO w F m a b) (fun i s wx=>match i with | 0=>s 8=.pointer (some ⟨F,0,none⟩) | 1=>∃ x,s 9=.agg (pw x)/\x<2^256/\x%m=a%m | 2=>s 10=.agg (pw (a%m)) | 3=>s 11=.pointer (some ⟨F,0,none⟩) | 4=>∃ x,s 12=.agg (pw x)/\x<2^256/\x%m=b%m | 5=>s 13=.agg (pw (b%m)) | 6=>wx.heap[w.heap.size]?=some (.cells (pw (a%m)) 24 (0,0)) | 7=>wx.heap[w.heap.size+1]?=some (.cells (pw (b%m)) 24 (0,0)) | _=>True) (RO w (a%m) (b%m)) (fun i=>match i with | 0=>[8] | 1=>[9] | 2=>[10] | 3=>[11] | 4=>[12] | 5=>[13] | 6=>[] | 7=>[] | _=>[]) (fun i=>i) (by kernel_rfl) (by kernel_rfl) H0.out.drew ?_ ?_ ?_ ?_
 ·intro i s s' wx he hp
  match i,he,hp with
  | 0,he,hp=>exact(he 8 (by simp)).symm.trans hp
  | 1,he,hp=>obtain⟨x,h1,h2⟩:=hp;exact⟨x,(he 9 (by simp)).symm.trans h1,h2⟩
  | 2,he,hp=>exact(he 10 (by simp)).symm.trans hp
  | 3,he,hp=>exact(he 11 (by simp)).symm.trans hp
  | 4,he,hp=>obtain⟨x,h1,h2⟩:=hp;exact⟨x,(he 12 (by simp)).symm.trans h1,h2⟩
  | 5,he,hp=>exact(he 13 (by simp)).symm.trans hp
  | 6,he,hp=>exact hp
  | 7,he,hp=>exact hp
  | _+8,_,_=>trivial
 ·intro i s wa wb hR hp
  match i,hp with
  | 0,hp=>exact hp
  | 1,hp=>exact hp
  | 2,hp=>exact hp
  | 3,hp=>exact hp
  | 4,hp=>exact hp
  | 5,hp=>exact hp
  | 6,hp=>exact hR.1 hp
  | 7,hp=>exact hR.2 hp
  | _+8,_=>trivial
 ·refine⟨?_,?_,?_,?_,?_,?_,?_,?_,trivial⟩
  ·intro a_ wx hC hsz hK
   have h0:a_.tmps.getD 0 undef=(.pointer (some ⟨F,0,none⟩)):=hK.1 0 (by kernel_rfl);exact tt_val (.pointer (some ⟨F,0,none⟩)) (by kernel_rfl) (by rw[<- h0];kernel_rfl) hC (slots_put _ _ _ (by rw[hsz];exact of_decide_eq_true (by kernel_rfl))) (RO.refl _ _ _ _)
  ·intro a_ wx hC hsz hK
   have h0:a_.tmps.getD 4 undef=(.pointer (some ⟨w.heap.size,0,none⟩)):=hK.1 4 (by kernel_rfl);obtain⟨x,h1,h2⟩:=hC.r0;exact tt_load 24 (.tmp 4) (.pointer (some ⟨w.heap.size,0,none⟩)) (.agg (pw x)) rfl (by kernel_rfl) h0 (ld_pw h1) hC ⟨x,(slots_put _ _ _ (by rw[hsz];exact of_decide_eq_true (by kernel_rfl))),h2⟩ (RO.refl _ _ _ _)
  ·intro a_ wx hC hsz hK
   have h0:a_.tmps.getD 8 undef=(.pointer (some ⟨F,0,none⟩)):=hK.2 ⟨0,.data⟩ (by simp) rfl _ rfl;obtain⟨x,h1,h2,h3⟩:=hK.2 ⟨1,.data⟩ (by simp) rfl _ rfl;refine tt_call 73 #[a_.tmps.getD 8 undef,a_.tmps.getD 9 undef] (by kernel_rfl) (by kernel_rfl) ?_;rw[h0,show a_.tmps.getD 9 undef=_ from h1];exact(fof_any F m x h2 wx hC.fld).mono fun e w' hh=>⟨.agg (pw (a%m)),by rw[hh.1,h3],hC.below hh.2,(slots_put _ _ _ (by rw[hsz];exact of_decide_eq_true (by kernel_rfl))),RO.of hh.2⟩
  ·intro a_ wx hC hsz hK
   have h0:a_.tmps.getD 0 undef=(.pointer (some ⟨F,0,none⟩)):=hK.1 0 (by kernel_rfl);exact tt_val (.pointer (some ⟨F,0,none⟩)) (by kernel_rfl) (by rw[<- h0];kernel_rfl) hC (slots_put _ _ _ (by rw[hsz];exact of_decide_eq_true (by kernel_rfl))) (RO.refl _ _ _ _)
  ·intro a_ wx hC hsz hK
   have h0:a_.tmps.getD 5 undef=(.pointer (some ⟨w.heap.size+1,0,none⟩)):=hK.1 5 (by kernel_rfl);obtain⟨x,h1,h2⟩:=hC.r1;exact tt_load 24 (.tmp 5) (.pointer (some ⟨w.heap.size+1,0,none⟩)) (.agg (pw x)) rfl (by kernel_rfl) h0 (ld_pw h1) hC ⟨x,(slots_put _ _ _ (by rw[hsz];exact of_decide_eq_true (by kernel_rfl))),h2⟩ (RO.refl _ _ _ _)
  ·intro a_ wx hC hsz hK
   have h0:a_.tmps.getD 11 undef=(.pointer (some ⟨F,0,none⟩)):=hK.2 ⟨3,.data⟩ (by simp) rfl _ rfl;obtain⟨x,h1,h2,h3⟩:=hK.2 ⟨4,.data⟩ (by simp) rfl _ rfl;refine tt_call 73 #[a_.tmps.getD 11 undef,a_.tmps.getD 12 undef] (by kernel_rfl) (by kernel_rfl) ?_;rw[h0,show a_.tmps.getD 12 undef=_ from h1];exact(fof_any F m x h2 wx hC.fld).mono fun e w' hh=>⟨.agg (pw (b%m)),by rw[hh.1,h3],hC.below hh.2,(slots_put _ _ _ (by rw[hsz];exact of_decide_eq_true (by kernel_rfl))),RO.of hh.2⟩
  ·intro a_ wx hC hsz hK
   have h0:a_.tmps.getD 4 undef=(.pointer (some ⟨w.heap.size,0,none⟩)):=hK.1 4 (by kernel_rfl);have h1:a_.tmps.getD 10 undef=.agg (pw (a%m)):=hK.2 ⟨2,.data⟩ (by simp) rfl _ rfl;obtain⟨x,h2,h3⟩:=hC.r0;exact tt_store (by kernel_rfl) rfl (run_st 24 (.tmp 4) (.tmp 10) _ _ rfl h0 h1 (store_w (pw_size _) h2)) hC.set0 (setRow_heap _ _ _ _ _ _ h2) ⟨fun _=>setRow_heap _ _ _ _ _ _ h2,fun h=>(setRow_other _ _ _ _ (by omega)).trans h⟩
  ·intro a_ wx hC hsz hK
   have h0:a_.tmps.getD 5 undef=(.pointer (some ⟨w.heap.size+1,0,none⟩)):=hK.1 5 (by kernel_rfl);have h1:a_.tmps.getD 13 undef=.agg (pw (b%m)):=hK.2 ⟨5,.data⟩ (by simp) rfl _ rfl;obtain⟨x,h2,h3⟩:=hC.r1;exact tt_store (by kernel_rfl) rfl (run_st 24 (.tmp 5) (.tmp 13) _ _ rfl h0 h1 (store_w (pw_size _) h2)) hC.set1 (setRow_heap _ _ _ _ _ _ h2) ⟨fun h=>(setRow_other _ _ _ _ (by omega)).trans h,fun _=>setRow_heap _ _ _ _ _ _ h2⟩
 intro f1 wy hCy hf;have k0:=hf 6 _ rfl;have k1:=hf 7 _ rfl;have H1:=Lib.hid (hCy.done k0 k1);clear hf hCy k0 k1 H0;simp only[putAll,Act.put,List.setIfInBounds_toArray,List.set_cons_succ,List.set_cons_zero];obtain⟨x,hx⟩:∃ x,a%m=x:=⟨_,rfl⟩
 obtain⟨y,hy⟩:∃ y,b%m=y:=⟨_,rfl⟩
 rw[hx,hy]at H1 HE HN;have HR2:=Lib.hid (And.intro hx hy);clear hx hy
 go_wp2_with (first | (refine wpList_ld rfl 24 _ rfl (.pointer (some ⟨w.heap.size,0,none⟩)) (.agg (pw x)) rfl (ld_pw (by exact H1.out.is _ _ (by simp))) ?_) | (refine wpList_ld rfl 24 _ rfl (.pointer (some ⟨w.heap.size+1,0,none⟩)) (.agg (pw y)) rfl (ld_pw (by exact H1.out.is _ _ (by simp))) ?_))
 refine(sub_pw x y HN.out.2 _).mono ?_;rintro e w5 ⟨rfl,hb5⟩;rw[show pw (x+(2^256 - y))=pw ((x+(2^256 - y))%2^256) from pw_congr (by rw[Nat.mod_mod])];obtain⟨z,hz⟩:∃ z,(x+(2^256 - y))%2^256=z:=⟨_,rfl⟩
 rw[hz]at HE |-
 clear hz;obtain⟨g,hg⟩:∃ g,w5.heap.size=g:=⟨_,rfl⟩
 have H5:=Lib.hid (show CW w F m [(g,pw z),(w.heap.size+1+1,#[.int .u64 0,.int .u64 0,.int .u64 0,.int .u64 0]),(w.heap.size+1,pw y),(w.heap.size,pw x)] ((w5.alloc (.cells #[.int .u64 0,.int .u64 0,.int .u64 0,.int .u64 0] 24)).setRow w5.heap.size (pw z)) from by
  rw[<- hg];have c:=(H1.out.below hb5).new #[.int .u64 0,.int .u64 0,.int .u64 0,.int .u64 0];have h9:=(H1.out.below hb5).old.size;have h8:w.heap.size+1+1<w5.heap.size:=(Array.getElem?_eq_some_iff.1 ((H1.out.below hb5).is (w.heap.size+1+1) #[.int .u64 0,.int .u64 0,.int .u64 0,.int .u64 0] (by simp))).1;exact c.put w5.heap.size #[.int .u64 0,.int .u64 0,.int .u64 0,.int .u64 0] (pw z) _ h9 (by simp) (fun p hp=>by
   simp only[List.mem_cons,List.not_mem_nil,or_false]at hp;rcases hp with rfl | rfl | rfl
   ·exact⟨by simp,by show w.heap.size+1+1≠_;omega⟩
   ·exact⟨by simp,by show w.heap.size+1≠_;omega⟩
   ·exact⟨by simp,by show w.heap.size≠_;omega⟩))
 have HG:=Lib.hid (And.intro hg (heap_alloc_new w5 (.cells #[.int .u64 0,.int .u64 0,.int .u64 0,.int .u64 0] 24)));clear hb5 hg
 go_wp2_with (first | (refine wpList_store_row rfl 24 _ _ rfl w5.heap.size (pw z) rfl rfl 24 (#[.int .u64 0,.int .u64 0,.int .u64 0,.int .u64 0]) (by exact HG.out.2) (by rw[pw_size];exact infoW4) (by rw[pw_size];rfl) (pw_one _) ?_) | (refine wpList_ld rfl 24 _ rfl (.pointer (some ⟨w.heap.size,0,none⟩)) (.agg (pw x)) rfl (ld_pw (by exact H5.out.is w.heap.size (pw x) (by simp))) ?_) | (refine wpList_ld rfl 24 _ rfl (.pointer (some ⟨w.heap.size+1,0,none⟩)) (.agg (pw y)) rfl (ld_pw (by exact H5.out.is (w.heap.size+1) (pw y) (by simp))) ?_))
 obtain⟨w6,hw6⟩:∃ w6,(w5.alloc (.cells #[.int .u64 0,.int .u64 0,.int .u64 0,.int .u64 0] 24)).setRow w5.heap.size (pw z)=w6:=⟨_,rfl⟩
 rw[hw6]at H5 |-
 rw[HG.out.1];clear hw6 HG H1;refine(cmp_pw x y HN.out.1 HN.out.2 _).mono ?_;rintro e w7 ⟨rfl,hb7⟩;have H7:=Lib.hid (H5.out.below hb7);clear hb7 H5;obtain⟨o,ho⟩:∃ o,ord x y=o:=⟨_,rfl⟩
 rw[ho];by_cases hc:x<y
 ·have ho2:o<0:=by rw[<- ho];unfold ord;rw[if_pos hc];omega
  clear ho;have HD:=Lib.hid (HE.out.1 hc);clear hc HE
  go_wp2_with fail
  have HAD:=Lib.hid (CW.calls (w:=w) (F:=F) (m:=m) (L:=[(g,pw z),(w.heap.size+1+1,#[.int .u64 0,.int .u64 0,.int .u64 0,.int .u64 0]),(w.heap.size+1,pw y),(w.heap.size,pw x)]) (fun wx _=>add_pw z m wx));rw[HD.out]at HAD;obtain⟨v,hv⟩:∃ v,(x+(m - y))%m=v:=⟨_,rfl⟩
  rw[hv]at HAD;have HV:=Lib.hid hv;clear hv;refine region_quiet_tail 6 (CW w F m [(g,pw z),(w.heap.size+1+1,#[.int .u64 0,.int .u64 0,.int .u64 0,.int .u64 0]),(w.heap.size+1,pw y),(w.heap.size,pw x)]) (by kernel_rfl) (by kernel_rfl) (H7.out.drew) ?_;simp only[List.take_succ_cons,List.take_zero,List.drop_succ_cons,List.drop_zero]
  with_reducible refine q_load 24 (.tmp 7) (.pointer (some ⟨g,0,none⟩)) (.agg (pw z)) rfl (by kernel_rfl) (by kernel_rfl) (fun _ c=>ld_pw (c.is _ _ (by simp))) ?_
  with_reducible refine q_val (.pointer (some ⟨F,0,none⟩)) (by kernel_rfl) (fun _ _=>by kernel_rfl) ?_
  with_reducible refine q_val (.pointer (some ⟨F,0,none⟩)) (by kernel_rfl) (fun _ _=>run_nil (.tmp 22) _ rfl (by kernel_rfl)) ?_
  with_reducible refine q_sem2 (Instr.fieldAt 103 (.pointer (some ⟨F,0,none⟩)) 0) (.pointer (some ⟨F,0,none⟩)) (by kernel_rfl) (by kernel_rfl) (fun w' _=>fld_at F w') ?_
  with_reducible refine q_load 24 (.tmp 24) (.pointer (some ⟨F,0,none⟩)) (.agg (pw m)) rfl (by kernel_rfl) (by kernel_rfl) (fun _ c=>ld_m c.fld) ?_
  with_reducible refine q_call 68 #[.agg (pw z),.agg (pw m)] (.agg (pw v)) (by kernel_rfl) (fun _=>by kernel_rfl) (HAD.out) ?_
  with_reducible refine wpQuiet_nil ?_
  intro wx hC;have HC:=Lib.hid hC;clear hC H7 HAD;simp only[Act.put,List.setIfInBounds_toArray,List.set_cons_succ,List.set_cons_zero]
  go_wp2_with (refine wpList_store_row rfl 24 _ _ rfl (w.heap.size+1+1) (pw v) rfl rfl 24 (#[.int .u64 0,.int .u64 0,.int .u64 0,.int .u64 0]) (by exact HC.out.is _ _ (by simp)) (by rw[pw_size];exact infoW4) (by first | rfl | (rw[pw_size];rfl) | (rw[pw_size,pw_size])) (pw_one _) ?_)
  (try simp only[Act.put])
  refine bodyPost_ret (v:=.agg (pw v)) (results_cell_row (p:=6) rfl _ _ (w.heap.size+1+1) 24 (pw v) (0,0) _ rfl (setRow_heap _ _ _ _ _ _ (by exact HC.out.is _ (#[.int .u64 0,.int .u64 0,.int .u64 0,.int .u64 0]) (by simp))) Tryz.underlying24 rfl (by rw[pw_size];exact infoW4)) rfl ⟨by rw[<- HV.out,HR2.out.1,HR2.out.2],below_setRow HC.out.old (by omega) _⟩
 ·have ho2:¬o<0:=by rw[<- ho];unfold ord;rw[if_neg hc];split <;> omega
  clear ho;have HD:=Lib.hid (HE.out.2 hc);clear hc HE
  go_wp2_with (first | (refine wpList_ld rfl 24 _ rfl (.pointer (some ⟨g,0,none⟩)) (.agg (pw z)) rfl (ld_pw (by exact H7.out.is g (pw z) (by simp))) ?_) | (refine wpList_store_row rfl 24 _ _ rfl (w.heap.size+1+1) (pw z) rfl rfl 24 (#[.int .u64 0,.int .u64 0,.int .u64 0,.int .u64 0]) (by exact H7.out.is _ _ (by simp)) (by rw[pw_size];exact infoW4) (by first | rfl | (rw[pw_size];rfl) | (rw[pw_size,pw_size])) (pw_one _) ?_))
  (try simp only[Act.put])
  refine bodyPost_ret (v:=.agg (pw z)) (results_cell_row (p:=6) rfl _ _ (w.heap.size+1+1) 24 (pw z) (0,0) _ rfl (setRow_heap _ _ _ _ _ _ (by exact H7.out.is _ (#[.int .u64 0,.int .u64 0,.int .u64 0,.int .u64 0]) (by simp))) Tryz.underlying24 rfl (by rw[pw_size];exact infoW4)) rfl ⟨by rw[HD.out,HR2.out.1,HR2.out.2],below_setRow H7.out.old (by omega) _⟩
open Go.ChangeShapes Go.WideShapes Go.ChangeAt Go.RowKit
theorem ownF:ownKnob Tryz.prog.godebug=none:=by kernel_rfl
theorem laidOutF:laidOutB Tryz.prog=true:=by kernel_rfl
theorem cellsU64:Tryz.prog.cellsOf 22=1:=by kernel_rfl
theorem cellsWord:Tryz.prog.cellsOf 24=4:=by kernel_rfl
theorem list4{α:Type}(l:List α)(h:(⟨l⟩:Array α).size=4):∃ a b c d,l=[a,b,c,d]:=by
 match l,h with
 | [a,b,c,d],_=>exact⟨a,b,c,d,rfl⟩
theorem nat_of_wf{x:Int}(h:(Lit.int .u64 x).wf=true):∃ n:Nat,n<18446744073709551616/\x=(n:Int):=by
 obtain⟨h0,h1⟩:=bounds_u64 h;clear h;obtain⟨n,rfl⟩:=Int.eq_ofNat_of_zero_le h0;exact⟨n,by omega,rfl⟩
theorem open_word{H:Type}{enc:TypeId × Value->H}{W:World}{base b2:Nat}{sp:Nat->Bool}{hd:Bool}{v:Value}{d:DataW H}{ps:List MemPlace}
  (hv:Value.okWide Tryz.prog W .any base 24 v) (h:DataW.Trod enc Tryz.prog W b2 sp hd 24 v d ps):∃ x:Nat,v=wv x:=by
 obtain⟨cs,rfl,hsz,_⟩:∃ cs,v=.agg cs/\cs.size=Tryz.prog.cellsOf 24/\Row.okWide Tryz.prog W .any base 24 cs:=by
  simpa[Value.okWide,Tryz.underlying24]using hv
 rw[cellsWord]at hsz;obtain⟨l⟩:=cs;obtain⟨c0,c1,c2,c3,rfl⟩:=list4 l hsz;obtain⟨fuel,hf⟩:=h;obtain⟨y0,y1,y2,y3,m,hx,hy0,hy1,hy2,hy3⟩:=trod_array4 Tryz.underlying24 cellsU64 hf;obtain⟨x0,e0,rfl,w0⟩:=DataW.trod_int Tryz.underlying22 hy0;obtain⟨x1,e1,rfl,w1⟩:=DataW.trod_int Tryz.underlying22 hy1;obtain⟨x2,e2,rfl,w2⟩:=DataW.trod_int Tryz.underlying22 hy2;obtain⟨x3,e3,rfl,w3⟩:=DataW.trod_int Tryz.underlying22 hy3;simp at e0 e1 e2 e3;subst e0 e1 e2 e3;obtain⟨n0,l0,rfl⟩:=nat_of_wf w0;obtain⟨n1,l1,rfl⟩:=nat_of_wf w1;obtain⟨n2,l2,rfl⟩:=nat_of_wf w2;obtain⟨n3,l3,rfl⟩:=nat_of_wf w3;exact⟨n4 n0 n1 n2 n3,(wv_n4 l0 l1 l2 l3).symm⟩
noncomputable def bareWorld (os:Os):World:=World.holding Tryz.prog os ⟨#[],#[],[]⟩
theorem open_pw{H:Type}{enc:TypeId × Value->H}{W:World}{base b2:Nat}{sp:Nat->Bool}{hd:Bool}{v:Value}{d:DataW H}{ps:List MemPlace}
  (hv:Value.okWide Tryz.prog W .any base 24 v) (h:DataW.Trod enc Tryz.prog W b2 sp hd 24 v d ps):∃ x:Nat,v=.agg (pw x)/\x<2^256:=by
 obtain⟨x,rfl⟩:=open_word hv h;exact⟨x%2^256,by rw[wv_pw,pw_modn],Nat.mod_lt _ (by omega)⟩
open Go.RowKit
inductive Sp
 | val (d:Nat) (v:Value)
 | blk (d:Nat) (T:TypeId)
 | laid (p:Nat) (T:TypeId)
 | own (d:Nat) (f:Value->World->Prop)
 | none
def Sp.at_(H:Nat)(J:Nat->Array Value):Sp->(Nat->Value)->World->Prop
 | .val d v,s,_=>s d=v
 | .blk d T,s,w=>∃ D,s d=.pointer (some ⟨D,0,Option.none⟩)/\H<=D/\∃ cs:Array Value,w.heap[D]?=some (.cells cs T (0,0))/\cs.size=(J d).size
 | .laid p T,s,w=>∃ D,s p=.pointer (some ⟨D,0,Option.none⟩)/\H<=D/\w.heap[D]?=some (.cells (J p) T (0,0))
 | .own d f,s,w=>f (s d) w
 | .none,_,_=>True
def Sp.rd:Sp->List Nat
 | .val d _=>[d]
 | .blk d _=>[d]
 | .laid p _=>[p]
 | .own d _=>[d]
 | .none=>[]
def Sp.ok(ps:List Nat):Sp->Prop
 | .own _ f=>ps=[]/\∀ v wa wb,Below wa.heap.size wa wb->f v wa->f v wb
 | .blk d _=>d∈ps
 | .laid d _=>d∈ps
 | _=>True
def spAt(L:List Sp)(i:Nat):Sp:=L.getD i .none
def okL(ps:List Nat):List Sp->Prop
 | []=>True
 | p::l=>p.ok ps/\okL ps l
theorem okL.at_{ps:List Nat}:∀ {L:List Sp},okL ps L->∀ i,(spAt L i).ok ps
 | [],_,i=>by simp[spAt,Sp.ok]
 | p::l,h,0=>by simpa[spAt]using h.1
 | p::l,h,i+1=>by simpa[spAt]using okL.at_ h.2 i
theorem Sp.same{H:Nat}{J:Nat->Array Value}{p:Sp}{s s':Nat->Value}{w:World}(h:∀ t∈p.rd,s t=s' t)(hp:p.at_ H J s w):p.at_ H J s' w:=by
 cases p with
 | val d v=>exact(h d (by simp[Sp.rd])).symm.trans hp
 | blk d T=>obtain⟨D,h1,h2⟩:=hp;exact⟨D,(h d (by simp[Sp.rd])).symm.trans h1,h2⟩
 | laid d T=>obtain⟨D,h1,h2⟩:=hp;exact⟨D,(h d (by simp[Sp.rd])).symm.trans h1,h2⟩
 | own d f=>have e:=h d (by simp[Sp.rd]);exact(congrArg (fun v=>f v w) e).mp hp
 | none=>trivial
structure AN (ps:List Nat) (H:Nat) (s:Nat->Value) (wx:World):Prop where
 at_:∀ p∈ps,∀ q∈ps,p≠q->∀ D,s p=.pointer (some ⟨D,0,none⟩)->H<=D->D<wx.heap.size
 ne:∀ p∈ps,∀ q∈ps,p≠q->∀ D E,s p=.pointer (some ⟨D,0,none⟩)->s q=.pointer (some ⟨E,0,none⟩)->H<=D->H<=E->D≠E
theorem AN.start{ps:List Nat}{H:Nat}{s:Nat->Value}{wx:World}(h:∀ p∈ps,∀ q∈ps,p≠q->∀ D,s p=.pointer (some ⟨D,0,none⟩)->D<H):AN ps H s wx :=
 ⟨fun p hp q hq hne D e hl=>(by have:=h p hp q hq hne D e;omega),fun p hp q hq hne D _ e _ hl _=>(by have:=h p hp q hq hne D e;omega)⟩
theorem AN.put{ps:List Nat}{H:Nat}{s s':Nat->Value}{wx w':World}(h:AN ps H s wx)(e:∀ p∈ps,s' p=s p)(hl:wx.heap.size<=w'.heap.size):AN ps H s' w' :=
 ⟨fun p hp q hq hne D hD hh=>Nat.lt_of_lt_of_le (h.at_ p hp q hq hne D ((e p hp) ▸ hD) hh) hl,fun p hp q hq hne D E h1 h2=>h.ne p hp q hq hne D E ((e p hp) ▸ h1) ((e q hq) ▸ h2)⟩
theorem AN.new{ps:List Nat}{H t:Nat}{s s':Nat->Value}{wx w':World}(h:AN ps H s wx)(e:s' t=.pointer (some ⟨wx.heap.size,0,none⟩))(eo:∀ p∈ps,p≠t->s' p=s p)(hl:wx.heap.size<w'.heap.size):AN ps H s' w':=by
 have ge:∀ p∈ps,∀ D,s' p=.pointer (some ⟨D,0,none⟩)->p≠t->s p=.pointer (some ⟨D,0,none⟩):=fun p hp D hD hne=>(eo p hp hne) ▸ hD;refine⟨fun p hp q hq hne D hD hh=>?_,fun p hp q hq hne D E h1 h2 hh he=>?_⟩
 ·by_cases r:p=t
  ·subst r;rw[e]at hD;cases hD;exact hl
  ·have:=h.at_ p hp q hq hne D (ge p hp D hD r) hh;omega
 ·by_cases a:p=t
  ·subst a
   rw[e]at h1;cases h1;have:=h.at_ q hq p hp (Ne.symm hne) E (ge q hq E h2 (Ne.symm hne)) he;omega
  ·by_cases b:q=t
   ·subst b
    rw[e]at h2;cases h2;have:=h.at_ p hp q hq hne D (ge p hp D h1 a) hh;omega
   ·exact h.ne p hp q hq hne D E (ge p hp D h1 a) (ge q hq E h2 b) hh he
def RNM(H:Nat)(ps:List Nat)(J:Nat->Array Value)(s:Nat->Value)(wa wb:World):Prop:=Below wa.heap.size wa wb\/∃ p∈ps,∃ D,s p=.pointer (some ⟨D,0,none⟩)/\H<=D/\wb=wa.setRow D (J p)
theorem RNM.same{H:Nat}{ps:List Nat}{J:Nat->Array Value}{s:Nat->Value}(wa:World):RNM H ps J s wa wa:=.inl (Below.refl _ _)
def CM(w:World)(ps:List Nat)(s:Nat->Value)(wx:World):Prop:=Below w.heap.size w wx/\AN ps w.heap.size s wx
theorem Sp.keep{w:World}{ps:List Nat}{J:Nat->Array Value}{p:Sp}(ho:p.ok ps){s:Nat->Value}{wa wb:World}(hC:CM w ps s wa)(hR:RNM w.heap.size ps J s wa wb)(hp:p.at_ w.heap.size J s wa):p.at_ w.heap.size J s wb:=by
 cases p with
 | val d v=>exact hp
 | none=>trivial
 | own d f =>
  rcases hR with h | ⟨q,hq,_⟩
  ·exact ho.2 _ _ _ h hp
  ·rw[ho.1]at hq;cases hq
 | blk d T =>
  obtain⟨D,h1,hh,cs,h2,h3⟩:=hp;rcases hR with h | ⟨q,hq,E,hE,he,rfl⟩
  ·exact⟨D,h1,hh,cs,(h.block _ (Array.getElem?_eq_some_iff.1 h2).1).trans h2,h3⟩
  ·by_cases e:D=E
   ·subst e
    have:q=d:=Classical.byContradiction fun hne=>hC.2.ne q hq d ho hne D D hE h1 he hh rfl;subst this;exact⟨D,h1,hh,J q,setRow_heap _ _ _ _ _ _ h2,rfl⟩
   ·exact⟨D,h1,hh,cs,(setRow_other _ _ _ _ e).trans h2,h3⟩
 | laid d T =>
  obtain⟨D,h1,hh,h2⟩:=hp;rcases hR with h | ⟨q,hq,E,hE,he,rfl⟩
  ·exact⟨D,h1,hh,(h.block _ (Array.getElem?_eq_some_iff.1 h2).1).trans h2⟩
  ·by_cases e:D=E
   ·subst e
    have:q=d:=Classical.byContradiction fun hne=>hC.2.ne q hq d ho hne D D hE h1 he hh rfl;subst this;exact⟨D,h1,hh,setRow_heap _ _ _ _ _ _ h2⟩
   ·exact⟨D,h1,hh,(setRow_other _ _ _ _ e).trans h2⟩
theorem yielded_of{ops:Array Oper}{tmps:Array Value}{j d:Nat}{b:Bool}(hd:(ops[j]?).bind (·.dst)=some d)(hv:tmps.getD d undef=.bool b):yielded ops tmps j=some b:=by
 unfold yielded;have e:tmps[d]?=some (.bool b):=by
  by_cases h:d<tmps.size
  ·rw[Array.getElem?_eq_getElem h]
   simpa[h]using hv
  ·simp[h,undef]at hv
 rw[hd];simp only[Option.bind_some,e]
theorem wanted_of{ops:Array Oper}{tmps:Array Value}{o:Oper}{j d:Nat}{b:Bool}(hg:o.guard=some (j,b))(hd:(ops[j]?).bind (·.dst)=some d)(hv:tmps.getD d undef=.bool b):Region.wanted o (yielded ops tmps)=true:=by
 unfold Region.wanted;rw[hg];simp only[yielded_of hd hv,beq_self_eq_true]
theorem unwanted_of{ops:Array Oper}{tmps:Array Value}{o:Oper}{j d:Nat}{b c:Bool}(hg:o.guard=some (j,b))(hd:(ops[j]?).bind (·.dst)=some d)(hv:tmps.getD d undef=.bool c)(hn:(c == b)=false):Region.wanted o (yielded ops tmps)=false:=by
 unfold Region.wanted;rw[hg];simp only[yielded_of hd hv];cases b <;> cases c <;> first | rfl | cases hn
section
variable {P:Program} {ops:Array Oper} {Q:Exit->Act->World->Prop} {a0:Act}
theorem region_many{id:Nat}{l:List Oper}{w:World}(L:List Sp)(ps:List Nat)(J:Nat->Array Value)(rk:Nat->Nat)(hm:P.follows .mixedOrders=true)
  (hB:(distinctB l&&rankB l.toArray rk&&ownB l.toArray (fun i=>(spAt L i).rd)&&insideB l.toArray)=true) (hO:okL ps L) (h0:∀ p∈ps,∀ q∈ps,p≠q->∀ D,a0.tmps.getD p undef=.pointer (some ⟨D,0,none⟩)->D<w.heap.size)
  (hst:StepsU P l.toArray Q (CM w ps) (fun i s wx=>(spAt L i).at_ w.heap.size J s wx) (RNM w.heap.size ps J) a0 0 l)
  (hQ:∀(f:Oper->Value) wx,Below w.heap.size w wx->AN ps w.heap.size (slots (putAll f l a0)) wx->(∀ i o,l[i]?=some o->(spAt L i).at_ w.heap.size J (slots (putAll f l a0)) wx)->Q .normal (putAll f l a0) wx):(Code.region id l.toArray true).wp P Q a0 w :=
 region_tie2 (CM w ps) (fun i s wx=>(spAt L i).at_ w.heap.size J s wx) (RNM w.heap.size ps J) (fun i=>(spAt L i).rd) rk hm hB ⟨Below.drew (Below.refl _ _),AN.start h0⟩ (fun _ _ _ _ h hp=>Sp.same h hp) (fun i _ _ _ hC hR hp=>Sp.keep (hO.at_ i) hC hR hp) hst (fun f wx hC hp=>hQ f wx hC.1 hC.2 hp)
/-! What each kind of operation must do. -/
variable {w:World} {L:List Sp} {ps:List Nat} {J:Nat->Array Value}
abbrev PhiN(w:World)(L:List Sp)(J:Nat->Array Value):Nat->(Nat->Value)->World->Prop:=fun i s wx=>(spAt L i).at_ w.heap.size J s wx
theorem ps_other{ps:List Nat}{a:Act}{d:Nat}{v:Value}(h:ps.all (· != d)=true):∀ p∈ps,slots (a.put (some d) v) p=slots a p:=fun p hp=>slots_other a d p v (by
 have:=List.all_eq_true.1 h p hp;have h2:p≠d:=by simpa using this
 exact fun e=>h2 e.symm)
theorem mm_val{k d:Nat}{o:Oper}{a:Act}{wx:World}(v:Value)(hd:o.dst=some d)(hw:Region.wanted o (yielded ops a.tmps)=true)(hr:(execOp a.eval o).run P wx=.ok (.value v) wx)(hC:CM w ps (slots a) wx)(hps:ps.all (· != d)=true)(hsz:d<a.tmps.size)(hv:spAt L k=.val d v):StepU P ops Q (CM w ps) (PhiN w L J) (RNM w.heap.size ps J) k o a wx :=
 uu_val v hw hr (by rw[hd];exact⟨hC.1,hC.2.put (ps_other hps) (Nat.le_refl _)⟩) (by rw[hd];show(spAt L k).at_ w.heap.size J _ _;rw[hv];exact slots_put _ _ _ hsz) (RNM.same _)
theorem mm_sem{k d:Nat}{o:Oper}{a:Act}{wx:World}(s:Sem Value)(v:Value)(hd:o.dst=some d)(hw:Region.wanted o (yielded ops a.tmps)=true)(ho:execOp a.eval o=(do let x <- s;pure (.value x)))(hr:s.run P wx=.ok v wx)(hC:CM w ps (slots a) wx)(hps:ps.all (· != d)=true)(hsz:d<a.tmps.size)(hv:spAt L k=.val d v):StepU P ops Q (CM w ps) (PhiN w L J) (RNM w.heap.size ps J) k o a wx :=
 mm_val v hd hw (by rw[ho];simp only[Sem.run_bind,hr,Result.andThen_ok,Sem.run_pure]) hC hps hsz hv
theorem mm_load{k d:Nat}{o:Oper}{a:Act}{wx:World}(T:TypeId)(x:Operand)(p v:Value)(hd:o.dst=some d)(ho:o.op=.load T x)(hw:Region.wanted o (yielded ops a.tmps)=true)(hp:a.eval x=p)
  (hr:(Instr.loadAt T p).run P wx=.ok v wx) (hC:CM w ps (slots a) wx) (hps:ps.all (· != d)=true) (hsz:d<a.tmps.size) (hv:spAt L k=.val d v):StepU P ops Q (CM w ps) (PhiN w L J) (RNM w.heap.size ps J) k o a wx :=
 mm_val v hd hw (by
  unfold execOp;rw[ho];simp only[hp,Sem.run_bind,hr,Result.andThen_ok,Sem.run_pure]) hC hps hsz hv
theorem mm_bin{k d:Nat}{o:Oper}{a:Act}{wx:World}(op:BinOp)(T:TypeId)(x y:Operand)(t:TypeId)(u v r:Value)(hd:o.dst=some d)(ho:o.op=.binOp op T x y t)(hw:Region.wanted o (yielded ops a.tmps)=true)(hx:a.eval x=u)(hy:a.eval y=v)
  (hg:(eqGuard op T x y u v).run P wx=.ok () wx) (hb:(binOp op T u v).run P wx=.ok r wx) (hC:CM w ps (slots a) wx) (hps:ps.all (· != d)=true) (hsz:d<a.tmps.size) (hv:spAt L k=.val d r):StepU P ops Q (CM w ps) (PhiN w L J) (RNM w.heap.size ps J) k o a wx :=
 mm_val r hd hw (by
  unfold execOp;rw[ho];simp only[hx,hy,Sem.run_bind,hg,hb,Result.andThen_ok,Sem.run_pure]) hC hps hsz hv
theorem mm_call{k d:Nat}{o:Oper}{a:Act}{wx:World}(f:FuncId)(args:Array Value)(v:Value)(hd:o.dst=some d)(hw:Region.wanted o (yielded ops a.tmps)=true)(he:(execOp a.eval o).run P wx=.ok (.enter f args) wx)
  (hc:Calls P f args wx fun e w'=>e=.returned v/\Below wx.heap.size wx w') (hC:CM w ps (slots a) wx) (hps:ps.all (· != d)=true) (hsz:d<a.tmps.size) (hv:spAt L k=.val d v):StepU P ops Q (CM w ps) (PhiN w L J) (RNM w.heap.size ps J) k o a wx :=
 uu_call f args hw he (hc.mono fun e w' hh=>⟨v,hh.1,by rw[hd];exact⟨hC.1.trans (hh.2.mono hC.1.size),hC.2.put (ps_other hps) hh.2.size⟩,by rw[hd];show(spAt L k).at_ w.heap.size J _ _;rw[hv];exact slots_put _ _ _ hsz,.inl hh.2⟩)
theorem mm_new{k d:Nat}{o:Oper}{a:Act}{wx:World}(T:TypeId)(z:Array Value)(hd:o.dst=some d)(hw:Region.wanted o (yielded ops a.tmps)=true)(hr:(execOp a.eval o).run P wx=.ok (.value (.pointer (some ⟨wx.heap.size,0,none⟩))) (wx.alloc (.cells z T)))(hC:CM w ps (slots a) wx)(hz:z.size=(J d).size)(hsz:d<a.tmps.size)(hv:spAt L k=.blk d T):StepU P ops Q (CM w ps) (PhiN w L J) (RNM w.heap.size ps J) k o a wx:=by
 have hb:Below wx.heap.size wx (wx.alloc (.cells z T)):=(Below.refl _ _).alloc (Nat.le_refl _) _;refine uu_new (.pointer (some ⟨wx.heap.size,0,none⟩)) hw hr ?_ ?_ (.inl hb)
 ·rw[hd]
  exact⟨hC.1.trans (hb.mono hC.1.size),hC.2.new (slots_put _ _ _ hsz) (fun p _ hne=>slots_other _ _ _ _ (Ne.symm hne)) (by simp)⟩
 ·rw[hd]
  show(spAt L k).at_ w.heap.size J _ _;rw[hv];exact⟨_,slots_put _ _ _ hsz,hC.1.size,z,heap_alloc_new _ _,hz⟩
theorem mm_store{k p:Nat}{o:Oper}{a:Act}{wx:World}(T:TypeId)(x y:Operand)(v:Value)(hd:o.dst=none)(ho:o.op=.store T x y)(hw:Region.wanted o (yielded ops a.tmps)=true)(hx:a.eval x=slots a p)(hy:a.eval y=v)(hp:p∈ps)
  (hk:(Sp.blk p T).at_ w.heap.size J (slots a) wx) (hr:∀ D cs,wx.heap[D]?=some (.cells cs T (0,0))->cs.size=(J p).size->(Instr.storeAt T (.pointer (some ⟨D,0,none⟩)) v).run P wx=.ok () (wx.setRow D (J p))) (hC:CM w ps (slots a) wx) (hv:spAt L k=.laid p T):StepU P ops Q (CM w ps) (PhiN w L J) (RNM w.heap.size ps J) k o a wx:=by
 obtain⟨D,h1,hh,cs,h2,h3⟩:=hk;refine uu_store (w':=wx.setRow D (J p)) hw hd ?_ ⟨below_setRow hC.1 hh _,hC.2.put (fun _ _=>rfl) (by simp)⟩ ?_ (.inr ⟨p,hp,D,h1,hh,rfl⟩)
 ·unfold execOp
  rw[ho];simp only[hx,h1,hy,Sem.run_bind,hr D cs h2 h3,Result.andThen_ok,Sem.run_pure]
 ·show(spAt L k).at_ w.heap.size J _ _
  rw[hv];exact⟨D,h1,hh,setRow_heap _ _ _ _ _ _ h2⟩
end
open Go.RowKit
def firstN(s n:Nat):Array Bool:=((List.range s).map fun i=>decide (i<n)).toArray
theorem count_firstN(n:Nat):∀ s,((List.range s).map fun i=>decide (i<n)).count false=s - n
 | 0=>by simp
 | s+1=>by
  rw[List.range_succ,List.map_append,List.count_append,count_firstN n s];by_cases h:s<n
  ·simp[h];omega
  ·simp[h];omega
def reachB(ops:Array Oper):Nat->Nat->Nat->Bool
 | 0,_,_=>false
 | f+1,i,j=>match ops[i]? with
  | some o=>o.after.any fun e=>Region.binds .any e&&(e.on == j||reachB ops f e.on j)
  | none=>false
theorem reach_listed{ops:Array Oper}{listed:Array Bool}(hcl:∀ k o,listed.getD k false=true->ops[k]?=some o->∀ e∈o.after,Region.binds .any e=true->listed.getD e.on false=true) :
  ∀(f i j:Nat),(∀ o,ops[i]?=some o->∀ e∈o.after,Region.binds .any e=true->listed.getD e.on false=true)->reachB ops f i j=true->listed.getD j false=true
 | 0,_,_,_,h=>by simp[reachB]at h
 | f+1,i,j,hi,h=>by
  unfold reachB at h;cases ho:ops[i]? with
  | none=>rw[ho]at h;cases h
  | some o =>
   rw[ho]at h;simp only[Array.any_eq_true]at h;obtain⟨k,hk,h3⟩:=h;have he:o.after[k]∈o.after:=Array.getElem_mem hk;generalize o.after[k]=e at *;simp only[Bool.and_eq_true,Bool.or_eq_true,beq_iff_eq]at h3;have hl:=hi o ho e he h3.1;rcases h3.2 with h4 | h4
   ·rw[<- h4];exact hl
   ·exact reach_listed hcl f e.on j (fun o' ho'=>hcl e.on o' hl ho') h4
def waitB(ops:Array Oper)(n:Nat):Bool:=(List.range ops.size).all fun i=>decide (i<n)||(List.range n).all fun j=>reachB ops 4 i j
section
variable {P:Program} {ops:Array Oper} {Q:Exit->Act->World->Prop} {C:(Nat->Value)->World->Prop} {φ:Nat->(Nat->Value)->World->Prop} {R:(Nat->Value)->World->World->Prop} {a0:Act}
theorem wpAny_ht(n:Nat)(hn:n<=ops.size)(rd:Nat->List Nat)(rk:Nat->Nat)(hdist:distinctB ops.toList=true)(hlex:rankB ops rk=true)(hon:∀(i:Nat) (o:Oper),ops[i]?=some o->∀ e∈o.after,e.on<ops.size)(hown:ownB ops rd=true)
  (hwait:waitB ops n=true) (hseq:Region.seqB .any ops (ops.size - n) n (firstN ops.size n)=true)
  (hrd:∀ i s s' w,(∀ t∈rd i,s t=s' t)->φ i s w->φ i s' w)
  (hφ:∀ i s w w',C s w->R s w w'->φ i s w->φ i s w') (hst:StepsU P ops Q C φ R a0 0 (ops.toList.take n))
  (hQ:∀(a:Act) w,a.tmps.size=a0.tmps.size->a.defers=a0.defers->(∀ t,isDst ops.toList t=false->a.tmps.getD t undef=a0.tmps.getD t undef)->C (slots a) w->(∀ i,i<n->φ i (slots a) w)->wpList P ops Q (ops.toList.drop n) a w) :
  ∀(fuel:Nat) (listed:Array Bool) (a:Act) (w:World),listed.size=ops.size->listed.toList.count false=fuel->(∀ i,n<=i->listed.getD i false=false)->C (slots a) w->a.tmps.size=a0.tmps.size->a.defers=a0.defers ->
   (∀ t,isDst ops.toList t=false->a.tmps.getD t undef=a0.tmps.getD t undef)->(∀ i o,listed.getD i false=true->ops[i]?=some o->φ i (slots a) w/\∀ e∈o.after,Region.binds .any e=true->listed.getD e.on false=true)->wpAny P .any ops Q fuel listed a w:=by
 -- all of the head is done
 have done:∀(fuel:Nat) (listed:Array Bool) (a:Act) (w:World),listed.size=ops.size->listed.toList.count false=fuel->(∀ i,n<=i->listed.getD i false=false)->(∀ i,i<n->listed.getD i false=true)->C (slots a) w->a.tmps.size=a0.tmps.size->a.defers=a0.defers ->
   (∀ t,isDst ops.toList t=false->a.tmps.getD t undef=a0.tmps.getD t undef)->(∀ i o,listed.getD i false=true->ops[i]?=some o->φ i (slots a) w/\∀ e∈o.after,Region.binds .any e=true->listed.getD e.on false=true)->wpAny P .any ops Q fuel listed a w:=by
  intro fuel listed a w hsz hc htl hall hC hs hd hk hp;have hl:listed=firstN ops.size n:=by
   apply Array.ext (by simp[firstN,hsz]);intro i h1 h2;by_cases hi:i<n
   ·have:=hall i hi
    simp[h1]at this;simp[firstN,this,hi]
   ·have:=htl i (by omega)
    simp[h1]at this;simp[firstN,this,hi]
  have hf:fuel=(ops.toList.drop n).length:=by
   rw[<- hc,hl];simp only[firstN];rw[count_firstN];simp
  rw[hf];refine wpAny_of_seq _ n listed a w (fun j=>by simp[List.getElem?_drop]) ?_ (hQ a w hs hd hk hC (fun i hi=>?_))
  ·rw[hl,show(ops.toList.drop n).length=ops.size - n by simp];exact hseq
  ·exact(hp i ops[i] (hall i hi) (Array.getElem?_eq_getElem (by omega))).1
 intro fuel
 induction fuel with
 | zero =>
  intro listed a w hsz hc htl hC hs hd hk hp;have hno:false ∉ listed.toList:=List.count_eq_zero.1 (by omega);refine done 0 listed a w hsz hc htl (fun i hi=>?_) hC hs hd hk hp;have hlt:i<listed.size:=by omega
  have hm:listed[i]∈listed.toList:=by simp
  simp only[Array.getD_eq_getD_getElem?,hlt,Array.getElem?_eq_getElem,Option.getD_some];cases h:listed[i]with
  | true=>rfl
  | false=>rw[h]at hm;exact absurd hm hno
 | succ fuel ih =>
  intro listed a w hsz hc htl hC hs hd hk hp;by_cases hall:∀ i,i<n->listed.getD i false=true
  ·exact done _ listed a w hsz hc htl hall hC hs hd hk hp
  refine⟨fun hr=>?_,fun i hi=>?_⟩
  ·-- the least that isn't listed would be ready
   exfalso;have key:∀ r i,rk i<r->i<ops.size->listed.getD i false=true:=by
    intro r
    induction r with
    | zero=>intro i h;omega
    | succ r ihr =>
     intro i hri hi;cases h:listed.getD i false with
     | true=>rfl
     | false =>
      have ho:ops[i]?=some ops[i]:=Array.getElem?_eq_getElem hi;have:i∈Region.ready .any ops listed:=mem_ready.2 ⟨by simpa[show i<listed.size by omega]using h,ops[i],ho,fun e he hb=>by
       have hl:=hlex;unfold rankB at hl;rw[List.all_eq_true]at hl;have:=hl i (by simpa using hi);rw[ho]at this;simp only[Array.all_eq_true_iff_forall_mem]at this;have hlt:=this e he;rw[hb]at hlt;simp at hlt;exact ihr e.on (by omega) (hon i _ ho e he)⟩
      rw[hr]at this;cases this
   exact hall fun i hi=>key (rk i+1) i (by omega) (by omega)
  ·obtain⟨h0,o,ho,hal⟩:=mem_ready.1 hi
   have hlt:i<ops.size:=(Array.getElem?_eq_some_iff.1 ho).1;have hin:i<n:=by
    apply Classical.byContradiction;intro hge;refine hall fun j hj=>?_;have hw:=hwait;unfold waitB at hw;rw[List.all_eq_true]at hw;have h1:=hw i (by simpa using hlt);simp only[Bool.or_eq_true,decide_eq_true_eq,List.all_eq_true]at h1;rcases h1 with h1 | h1
    ·omega
    have h2:=h1 j (by simpa using hj);exact reach_listed (fun k ok hk hok=>(hp k ok hk hok).2) 4 i j (fun o' ho'=>by rw[ho]at ho';cases ho';exact fun e he hb=>by simpa using hal e he hb) h2
   have hl':ops.toList[i]?=some o:=by simpa using ho
   have hl2:(ops.toList.take n)[i]?=some o:=by rw[List.getElem?_take_of_lt hin];exact hl'
   have hstep:=hst.at_ i o hl2 a w hC hs ⟨hk,fun e he hb oj hj=>(hp e.on oj (by have:=hal e he hb;simpa using this) hj).1⟩;rw[Nat.zero_add]at hstep;have go:∀(v:Value) (w':World),C (slots (a.put o.dst v)) w'->φ i (slots (a.put o.dst v)) w'->(∀ j,φ j (slots a) w->φ j (slots a) w')->wpAny P .any ops Q fuel (listed.setIfInBounds i true) (a.put o.dst v) w':=by
    intro v w' hC' hv hm;refine ih _ _ _ (by simpa using hsz) ?_ ?_ hC' (by rw[put_size];exact hs) (by rw[put_defers];exact hd) ?_ ?_
    ·have hil:i<listed.size:=by omega
     have e0:listed[i]=false:=by simpa[hil]using h0
     rw[Array.toList_setIfInBounds,List.count_set (by simpa using hil)];have:listed.toList[i]'(by simpa using hil)=false:=by simpa using e0
     simp only[this];simp;have hpos:0<listed.toList.count false:=List.count_pos_iff.2 (by rw[<- e0];simp);simp at hpos;simp at hc;omega
    ·intro j hj
     rw[getD_set_ne false (by omega:i≠j)];exact htl j hj
    ·intro t ht
     have hne:o.dst≠some t:=fun e=>by
      simp only[isDst,List.any_eq_false]at ht;exact ht o (List.mem_of_getElem? hl') (by simp[e])
     rw[put_other _ _ _ _ hne];exact hk t ht
    ·intro j oj hj hoj
     by_cases e:i=j
     ·subst e
      have:oj=o:=Option.some.inj (hoj.symm.trans ho);subst this;refine⟨hv,fun e he hb=>?_⟩;have h1:=hal e he hb;by_cases q:i=e.on
      ·rw[<- q];exact getD_set_same (by omega)
      ·rw[getD_set_ne false q];simpa using h1
     ·rw[getD_set_ne false e]at hj
      obtain⟨h1,h2⟩:=hp j oj hj hoj;refine⟨hrd j _ _ w' (fun t ht=>?_) (hm _ h1),fun e' he hb=>?_⟩
      ·have hne:o.dst≠some t:=fun hd'=>by
        rcases own_spec hown hoj ht with h3 | h3 | ⟨e',he,hb,ok,hok,hkd⟩
        ·exact distinct_spec hdist i j o oj t hl' (by simpa using hoj) e hd' h3
        ·simp only[isDst,List.any_eq_false]at h3
         exact h3 o (List.mem_of_getElem? hl') (by simp[hd'])
        ·have h4:=h2 e' he hb
         have h5:i≠e'.on:=fun q=>by rw[<- q,getD_both h0]at h4;cases h4
         exact distinct_spec hdist i e'.on o ok t hl' (by simpa using hok) h5 hd' hkd
       exact(put_other _ _ _ _ hne).symm
      ·by_cases q:i=e'.on
       ·rw[<- q];exact getD_set_same (by omega)
       ·rw[getD_set_ne false q];exact h2 e' he hb
   unfold wpOp;rw[ho];simp only;unfold StepU at hstep
   split
   ·rename_i hw
    rw[if_pos hw]at hstep;refine .inl (Oper.wp_mono ?_ hstep);rintro a' w' ⟨v,rfl,hC',hv,hR⟩;exact go v w' hC' hv (fun j h=>hφ j _ w w' hC hR h)
   ·rename_i hw
    rw[if_neg hw]at hstep;exact go undef w hstep.1 hstep.2 (fun j h=>h)
theorem wpList_ht(n:Nat)(hn:n<=ops.size)(rd:Nat->List Nat)(hdist:distinctB ops.toList=true)(hlex:rankB ops (fun i=>i)=true)(hown:ownB ops rd=true)
  (hrd:∀ i s s' w,(∀ t∈rd i,s t=s' t)->φ i s w->φ i s' w)
  (hφ:∀ i s w w',C s w->R s w w'->φ i s w->φ i s w') (hst:StepsU P ops Q C φ R a0 0 (ops.toList.take n))
  (hQ:∀(a:Act) w,a.tmps.size=a0.tmps.size->a.defers=a0.defers->(∀ t,isDst ops.toList t=false->a.tmps.getD t undef=a0.tmps.getD t undef)->C (slots a) w->(∀ i,i<n->φ i (slots a) w)->wpList P ops Q (ops.toList.drop n) a w) :
  ∀(m k:Nat) (a:Act) (w:World),k+m=n->C (slots a) w->a.tmps.size=a0.tmps.size->a.defers=a0.defers ->
   (∀ t,isDst ops.toList t=false->a.tmps.getD t undef=a0.tmps.getD t undef)->(∀ i,i<k->φ i (slots a) w)->wpList P ops Q (ops.toList.drop k) a w:=by
 have back:∀(i:Nat) (o:Oper),ops[i]?=some o->∀ e∈o.after,Region.binds .any e=true->e.on<i:=fun i o ho e he hb=>by
  have hl:=hlex;unfold rankB at hl;rw[List.all_eq_true]at hl;have:=hl i (by simpa using(Array.getElem?_eq_some_iff.1 ho).1);rw[ho]at this;simp only[Array.all_eq_true_iff_forall_mem]at this;have hlt:=this e he;rw[hb]at hlt;simpa using hlt
 intro m
 induction m with
 | zero =>
  intro k a w hkm hC hs hd hk hp;have:k=n:=by omega
  subst this;exact hQ a w hs hd hk hC hp
 | succ m ih =>
  intro k a w hkm hC hs hd hk hp;have hlt:k<ops.size:=by omega
  have ho:ops[k]?=some ops[k]:=Array.getElem?_eq_getElem hlt;have hl':ops.toList[k]?=some ops[k]:=by simp
  have hl2:(ops.toList.take n)[k]?=some ops[k]:=by rw[List.getElem?_take_of_lt (by omega)];exact hl'
  have hstep:=hst.at_ k ops[k] hl2 a w hC hs ⟨hk,fun e he hb oj hj=>hp e.on (back k _ ho e he hb)⟩;rw[Nat.zero_add]at hstep;have go:∀(v:Value) (w':World),C (slots (a.put ops[k].dst v)) w'->φ k (slots (a.put ops[k].dst v)) w'->(∀ j,φ j (slots a) w->φ j (slots a) w')->wpList P ops Q (ops.toList.drop (k+1)) (a.put ops[k].dst v) w':=by
   intro v w' hC' hv hm;refine ih (k+1) _ _ (by omega) hC' (by rw[put_size];exact hs) (by rw[put_defers];exact hd) ?_ ?_
   ·intro t ht
    have hne:ops[k].dst≠some t:=fun e=>by
     simp only[isDst,List.any_eq_false]at ht;exact ht ops[k] (List.mem_of_getElem? hl') (by simp[e])
    rw[put_other _ _ _ _ hne];exact hk t ht
   ·intro j hj
    by_cases e:j=k
    ·subst e;exact hv
    ·have hjk:j<k:=by omega
     have hoj:ops[j]?=some ops[j]:=Array.getElem?_eq_getElem (by omega);refine hrd j _ _ w' (fun t ht=>?_) (hm _ (hp j hjk));have hne:ops[k].dst≠some t:=fun hd'=>by
      rcases own_spec hown hoj ht with h3 | h3 | ⟨e',he,hb,ok,hok,hkd⟩
      ·exact distinct_spec hdist k j _ ops[j] t hl' (by simp) (by omega) hd' h3
      ·simp only[isDst,List.any_eq_false]at h3
       exact h3 ops[k] (List.mem_of_getElem? hl') (by simp[hd'])
      ·have h4:=back j _ hoj e' he hb
       exact distinct_spec hdist k e'.on _ ok t hl' (by simpa using hok) (by omega) hd' hkd
     exact(put_other _ _ _ _ hne).symm
  have hdr:ops.toList.drop k=ops[k]::ops.toList.drop (k+1):=by
   rw[List.drop_eq_getElem_cons (by simpa using hlt)];simp
  rw[hdr];unfold wpList;unfold StepU at hstep
  split
  ·rename_i hw
   rw[if_pos hw]at hstep;refine .inl (Oper.wp_mono ?_ hstep);rintro a' w' ⟨v,rfl,hC',hv,hR⟩;exact go v w' hC' hv (fun j h=>hφ j _ w w' hC hR h)
  ·rename_i hw
   rw[if_neg hw]at hstep;exact go undef w hstep.1 hstep.2 (fun j h=>h)
theorem reg_any{id:Nat}{l:List Oper}{w:World}(n:Nat)(L:List Sp)(ps:List Nat)(J:Nat->Array Value)(hm:P.follows .mixedOrders=true)
  (hB:(distinctB l&&rankB l.toArray (fun i=>i)&&ownB l.toArray (fun i=>(spAt L i).rd)&&insideB l.toArray&&decide (n<=l.length)&&waitB l.toArray n&&Region.seqB .any l.toArray (l.length - n) n (firstN l.length n))=true)
  (hO:okL ps L) (h0:∀ p∈ps,∀ q∈ps,p≠q->∀ D,a0.tmps.getD p undef=.pointer (some ⟨D,0,none⟩)->D<w.heap.size)
  (hst:StepsU P l.toArray Q (CM w ps) (fun i s wx=>(spAt L i).at_ w.heap.size J s wx) (RNM w.heap.size ps J) a0 0 (l.take n))
  (hQ:∀(a:Act) wx,a.tmps.size=a0.tmps.size->a.defers=a0.defers->(∀ t,isDst l t=false->a.tmps.getD t undef=a0.tmps.getD t undef)->Below w.heap.size w wx->AN ps w.heap.size (slots a) wx->(∀ i,i<n->(spAt L i).at_ w.heap.size J (slots a) wx)->wpList P l.toArray Q (l.drop n) a wx) :
  (Code.region id l.toArray true).wp P Q a0 w:=by
 simp only[Bool.and_eq_true,decide_eq_true_eq]at hB;obtain⟨⟨⟨⟨⟨⟨h1,h2⟩,h3⟩,h4⟩,h5⟩,h6⟩,h7⟩:=hB;refine wp_region_any hm (wpAny_ht (C:=CM w ps) (φ:=fun i s wx=>(spAt L i).at_ w.heap.size J s wx) (R:=RNM w.heap.size ps J) (a0:=a0) n (by simpa using h5) (fun i=>(spAt L i).rd) (fun i=>i) h1 h2 (inside_spec h4) h3 h6 (by simpa using h7) (fun _ _ _ _ h hp=>Sp.same h hp) (fun i _ _ _ hC hR hp=>Sp.keep (hO.at_ i) hC hR hp) hst (fun a w hs hd hk hC h=>hQ a w hs hd hk hC.1 hC.2 h) _ _ _ w.drew (by simp) (by simp) ?_ ⟨Below.drew (Below.refl _ _),AN.start h0⟩ rfl rfl (fun _ _=>rfl) ?_)
 ·intro i hi
  exact getD_replicate_false _ _
 ·intro i o hi
  simp at hi;rcases Nat.lt_or_ge i l.length with h | h
  ·simp[h]at hi
  ·simp[Nat.not_lt.2 h]at hi
theorem reg_seq{id:Nat}{l:List Oper}{w:World}(n:Nat)(L:List Sp)(ps:List Nat)(J:Nat->Array Value)
  (hB:(distinctB l&&rankB l.toArray (fun i=>i)&&ownB l.toArray (fun i=>(spAt L i).rd)&&decide (n<=l.length))=true)
  (hO:okL ps L) (h0:∀ p∈ps,∀ q∈ps,p≠q->∀ D,a0.tmps.getD p undef=.pointer (some ⟨D,0,none⟩)->D<w.heap.size)
  (hst:StepsU P l.toArray Q (CM w ps) (fun i s wx=>(spAt L i).at_ w.heap.size J s wx) (RNM w.heap.size ps J) a0 0 (l.take n))
  (hQ:∀(a:Act) wx,a.tmps.size=a0.tmps.size->a.defers=a0.defers->(∀ t,isDst l t=false->a.tmps.getD t undef=a0.tmps.getD t undef)->Below w.heap.size w wx->AN ps w.heap.size (slots a) wx->(∀ i,i<n->(spAt L i).at_ w.heap.size J (slots a) wx)->wpList P l.toArray Q (l.drop n) a wx) :
  (Code.region id l.toArray false).wp P Q a0 w:=by
 simp only[Bool.and_eq_true,decide_eq_true_eq]at hB;obtain⟨⟨⟨h1,h2⟩,h3⟩,h5⟩:=hB;exact wp_region_list (wpList_ht (ops:=l.toArray) (C:=CM w ps) (φ:=fun i s wx=>(spAt L i).at_ w.heap.size J s wx) (R:=RNM w.heap.size ps J) (a0:=a0) n (by simpa using h5) (fun i=>(spAt L i).rd) h1 h2 h3 (fun _ _ _ _ h hp=>Sp.same h hp) (fun i _ _ _ hC hR hp=>Sp.keep (hO.at_ i) hC hR hp) hst (fun a w hs hd hk hC h=>hQ a w hs hd hk hC.1 hC.2 h) n 0 a0 w (by omega) ⟨Below.refl _ _,AN.start h0⟩ rfl rfl (fun _ _=>rfl) (fun i hi=>by omega))
/-! The tail's operations. -/
variable {rest:List Oper} {o:Oper} {a:Act} {w:World}
theorem tl_store{T:TypeId}{x y:Operand}{g:Nat}{old cells:Array Value}{t:TypeId}(hgd:o.guard=none)(hd:o.dst=none)(ho:o.op=.store T x y)(hx:a.eval x=.pointer (some ⟨g,0,none⟩))(hy:a.eval y=.agg cells)
  (hg:w.heap[g]?=some (.cells old t (0,0))) (hi:(P.info? T).map (·.size)=some cells.size) (hold:old.size=cells.size) (h1:cells.all (·.oneCell')=true) (h:wpList P ops Q rest a (w.setRow g cells)):wpList P ops Q (o::rest) a w :=
 wpList_store_row hgd T x y ho g cells hx hy t old hg hi hold h1 (by rw[hd];exact h)
theorem tl_val{d:Nat}{v:Value}(hgd:o.guard=none)(hd:o.dst=some d)(hlt:d<a.tmps.size)(hr:(execOp a.eval o).run P w=.ok (.value v) w)
  (h:∀ a':Act,a'.tmps.size=a.tmps.size->a'.defers=a.defers->(∀ t,t≠d->a'.tmps.getD t undef=a.tmps.getD t undef)->a'.tmps.getD d undef=v->wpList P ops Q rest a' w):wpList P ops Q (o::rest) a w:=by
 refine wpList_plain hgd fun K hK=>?_;unfold Oper.wp;rw[hr];refine hK _ _ (h _ (put_size _ _ _) (put_defers _ _ _) (fun t ht=>put_other _ _ _ _ (by rw[hd];intro e;exact ht (Option.some.inj e).symm)) (by rw[hd];exact put_same _ _ _ hlt))
theorem run_assign{x:Operand}{v:Value}(ho:o.op=.assign x\/o.op=.move x)(hx:a.eval x=v):(execOp a.eval o).run P w=.ok (.value v) w:=by
 unfold execOp;rcases ho with ho | ho <;> rw[ho] <;> simp only[hx,Sem.run_pure]
end
/-! The control around them. -/
section
variable {P:Program} {Q:Exit->Act->World->Prop} {next:Act->World->Prop} {a:Act} {w:World}
theorem then_normal(h:next a w):Exit.then next Q .normal a w:=h
theorem then_ret(h:Q .ret a w):Exit.then next Q .ret a w:=h
theorem then_exit{i:Nat}(h:Q (.exit i) a w):Exit.then next Q (.exit i) a w:=h
theorem blk_normal{i:Nat}(h:Q .normal a w):Exit.inBlock i Q .normal a w:=h
theorem blk_ret{i:Nat}(h:Q .ret a w):Exit.inBlock i Q .ret a w:=h
theorem blk_exit{i:Nat}(h:Q .normal a w):Exit.inBlock i Q (.exit i) a w:=by
 show(if i=i then _ else _);rw[if_pos rfl];exact h
theorem enter{f:FuncId}{fn:Func}{c:Code}{args:Array Value}{R:Ending->World->Prop}(hf:P.funcs[f]?=some fn)(hb:fn.body=some c)
  (h:∀ a:Act,a.tmps.size=args.size+(fn.ntmps - args.size)->a.defers=[]->(∀ t,a.tmps.getD t undef=args.getD t undef)->c.wp P (bodyPost P fn R) a w):Calls P f args w R:=by
 refine calls_of_wp hf hb (h _ (by simp) rfl fun t=>?_);simp only[Array.getD_eq_getD_getElem?,Array.getElem?_append];by_cases ht:t<args.size
 ·simp[ht]
 ·simp only[ht,if_false]
  rw[Array.getElem?_eq_none (by omega:args.size<=t)];by_cases h2:t - args.size<fn.ntmps - args.size
  ·simp[h2]
  ·simp[h2]
end
/-! What a function has made: blocks,apart,behind what was there. -/
structure HC (w:World) (L:List (Nat × Array Value × TypeId)) (wx:World):Prop where
 old:Below w.heap.size w wx
 rows:∀ p∈L,w.heap.size<=p.1/\wx.heap[p.1]?=some (.cells p.2.1 p.2.2 (0,0))
 nd:L.Pairwise fun p q=>p.1≠q.1
section
variable {w wx w':World} {L:List (Nat × Array Value × TypeId)} {g D:Nat} {cs c0:Array Value} {T:TypeId}
theorem HC.start(w:World):HC w [] w:=⟨Below.refl _ _,fun _ h=>(by cases h),.nil⟩
theorem HC.is(c:HC w L wx)(hm:(g,cs,T)∈L):wx.heap[g]?=some (.cells cs T (0,0)):=(c.rows _ hm).2
theorem HC.below(c:HC w L wx)(hb:Below wx.heap.size wx w'):HC w L w' :=
 ⟨c.old.trans (hb.mono c.old.size),fun p hp=>⟨(c.rows p hp).1,(hb.block _ (Array.getElem?_eq_some_iff.1 (c.rows p hp).2).1).trans (c.rows p hp).2⟩,c.nd⟩
theorem HC.cons(c:HC w L wx)(hb:Below wx.heap.size wx w')(hD:wx.heap.size<=D)(hr:w'.heap[D]?=some (.cells cs T (0,0))):HC w ((D,cs,T)::L) w':=by
 have h:=c.below hb;refine⟨h.old,fun p hp=>?_,List.pairwise_cons.2 ⟨fun q hq=>?_,c.nd⟩⟩
 ·rcases List.mem_cons.1 hp with rfl | hp
  ·exact⟨Nat.le_trans c.old.size hD,hr⟩
  ·exact h.rows p hp
 ·have:=(Array.getElem?_eq_some_iff.1 (c.rows q hq).2).1
  show D≠q.1;omega
theorem HC.new(c:HC w L wx)(cs:Array Value)(T:TypeId):HC w ((wx.heap.size,cs,T)::L) (wx.alloc (.cells cs T)) :=
 c.cons ((Below.refl _ _).alloc (Nat.le_refl _) _) (Nat.le_refl _) (heap_alloc_new _ _)
theorem HC.set(A B:List (Nat × Array Value × TypeId))(c:HC w (A++(g,c0,T)::B) wx)(cs:Array Value):HC w (A++(g,cs,T)::B) (wx.setRow g cs):=by
 have hg:=c.rows (g,c0,T) (by simp);have hn:=c.nd;rw[List.pairwise_append,List.pairwise_cons]at hn;refine⟨below_setRow c.old hg.1 _,fun p hp=>?_,?_⟩
 ·rcases List.mem_append.1 hp with hp | hp
  ·have:=hn.2.2 p hp (g,c0,T) (by simp)
   have h1:=c.rows p (by simp[hp]);exact⟨h1.1,(setRow_other _ _ _ _ this).trans h1.2⟩
  ·rcases List.mem_cons.1 hp with rfl | hp
   ·exact⟨hg.1,setRow_heap _ _ _ _ _ _ hg.2⟩
   ·have:=hn.2.1.1 p hp
    have h1:=c.rows p (by simp[hp]);exact⟨h1.1,(setRow_other _ _ _ _ (Ne.symm this)).trans h1.2⟩
 ·rw[List.pairwise_append,List.pairwise_cons]
  exact⟨hn.1,⟨hn.2.1.1,hn.2.1.2⟩,fun p hp q hq=>by
   rcases List.mem_cons.1 hq with rfl | hq
   ·exact hn.2.2 p hp (g,c0,T) (by simp)
   ·exact hn.2.2 p hp q (by simp[hq])⟩
theorem HC.drop1{p:Nat × Array Value × TypeId}(c:HC w (p::L) wx):HC w L wx:=⟨c.old,fun q hq=>c.rows q (List.mem_cons_of_mem _ hq),(List.pairwise_cons.1 c.nd).2⟩
end
/-! Loads and stores of rows. -/
section
variable {P:Program} {w:World} {g:Nat} {cs:Array Value} {t:TypeId}
theorem ld_row{T:TypeId}{d:TypeDesc}(hg:w.heap[g]?=some (.cells cs t (0,0)))(hu:P.underlying T=some d)(hd:(match d with | .struct _ | .array _ _=>true | _=>false)=true)(hi:(P.info? T).map (·.size)=some cs.size) :
  (Instr.loadAt T (.pointer (some ⟨g,0,none⟩))).run P w=.ok (.agg cs) w:=by
 simp only[Instr.loadAt,Instr.sureAddr,Sem.run_bind,Sem.run_pure,Result.andThen_ok,run_loadVar_row w g t T cs (0,0) d hg hu hd hi]
theorem ld_mid{T:TypeId}{d:TypeDesc}{o:Nat}(part:Array Value)(hg:w.heap[g]?=some (.cells cs t (0,0)))(hp:∀ j,j<part.size->cs[o+j]?=part[j]?)(hu:P.underlying T=some d)(hd:(match d with | .struct _ | .array _ _=>true | _=>false)=true)(hi:(P.info? T).map (·.size)=some part.size) :
  (Instr.loadAt T (.pointer (some ⟨g,o,none⟩))).run P w=.ok (.agg part) w:=by
 have hl:(loadCells ⟨g,o,none⟩ part.toList.length).run P w=.ok part.toList.toArray w :=
  run_loadCells_list (P:=P) w ⟨g,o,none⟩ part.toList (fun j v hv=>by
   have hjn:j<part.size:=by
    have:=(List.getElem?_eq_some_iff.1 hv).1;rwa [Array.length_toList]at this
   have hadd:(⟨g,o,none⟩:Addr).add j=⟨g,o+j,none⟩:=by unfold Addr.add;split <;> simp_all
   rw[hadd,cell_of_row w g (o+j) cs t (0,0) hg,hp j hjn,<- Array.getElem?_toList];exact hv)
 have hv:(loadVar T ⟨g,o,none⟩).run P w=.ok (.agg part) w:=by
  cases hq:P.info? T with
  | none=>simp[hq]at hi
  | some i =>
   have hs:i.size=part.size:=by simpa[hq]using hi
   have hagg:(isAgg T).run P w=.ok true w:=by
    unfold isAgg;rw[Sem.run_bind,run_underlying hu w];cases d <;> simp_all
   simp only[Array.length_toList,Array.toArray_toList]at hl;simp[loadVar,Sem.run_bind,hagg,sizeOf,typeInfo,hq,hs,hl]
 simp only[Instr.loadAt,Instr.sureAddr,Sem.run_bind,Sem.run_pure,Result.andThen_ok,hv]
theorem st_row{T:TypeId}{old:Array Value}(hg:w.heap[g]?=some (.cells old t (0,0)))(hi:(P.info? T).map (·.size)=some cs.size)(ho:old.size=cs.size)(h1:cs.all (·.oneCell')=true) :
  (Instr.storeAt T (.pointer (some ⟨g,0,none⟩)) (.agg cs)).run P w=.ok () (w.setRow g cs):=by
 simp only[Instr.storeAt,Instr.sureAddr,Sem.run_bind,Sem.run_pure,Result.andThen_ok,run_storeVar_row w g t T old cs hg hi ho h1]
theorem results_cell_tmp{fn:Func}{p q:Tmp}{ty:TypeId}(h:fn.results=#[.cell p ty,.tmp q])(tmps:Array Value)(cs:Array Value)(d:TypeDesc){v:Value}
  (hp:tmps.getD p undef=.pointer (some ⟨g,0,none⟩)) (hg:w.heap[g]?=some (.cells cs t (0,0)))
  (hu:P.underlying ty=some d) (hd:(match d with | .struct _ | .array _ _=>true | _=>false)=true) (hi:(P.info? ty).map (·.size)=some cs.size) (hq:tmps.getD q undef=v) :
  (results fn tmps).run P w=.ok (.tuple #[.agg cs,v]) w:=by
 have hp':tmps[p]?.getD undef=.pointer (some ⟨g,0,none⟩):=by simpa using hp
 have hq':tmps[q]?.getD undef=v:=by simpa using hq
 simp[results,h,hp',hq',asAddr,run_loadVar_row w g t ty cs (0,0) d hg hu hd hi]
end
open Go.RowKit
section
variable {P:Program} {ops:Array Oper} {Q:Exit->Act->World->Prop} {a0:Act} {w:World} {L:List Sp} {ps:List Nat} {J:Nat->Array Value}
theorem mm_build{k d:Nat}{o:Oper}{a:Act}{wx:World}(T:TypeId)(parts:List (Nat × Operand × Value))(cs:Array Value)(hd:o.dst=some d)(ho:o.op=.build T (parts.map fun p=>(p.1,p.2.1)).toArray)(hw:Region.wanted o (yielded ops a.tmps)=true)
  (hx:∀ p∈parts,a.eval p.2.1=p.2.2) (hf:P.built T (parts.map fun p=>(p.1,p.2.2))=some cs) (hC:CM w ps (slots a) wx) (hps:ps.all (· != d)=true) (hsz:d<a.tmps.size) (hv:spAt L k=.val d (.agg cs)):StepU P ops Q (CM w ps) (PhiN w L J) (RNM w.heap.size ps J) k o a wx:=by
 refine mm_val (.agg cs) hd hw ?_ hC hps hsz hv;have e:((parts.map fun p=>(p.1,p.2.1)).toArray.map fun(p:Nat × Operand)=>(p.1,a.eval p.2)).toList=parts.map fun p=>(p.1,p.2.2):=by
  simp only[List.map_toArray,List.map_map];exact List.map_congr_left fun p hp=>by simp[hx p hp]
 have hr:=run_build (P:=P) wx T ((parts.map fun p=>(p.1,p.2.1)).toArray.map fun(p:Nat × Operand)=>(p.1,a.eval p.2)) cs (by rw[e];exact hf);unfold execOp;rw[ho];simp only[Sem.run_bind,hr,Result.andThen_ok,Sem.run_pure]
theorem unwanted_undef{ops:Array Oper}{tmps:Array Value}{o:Oper}{j d:Nat}{b:Bool}(hg:o.guard=some (j,b))(hd:(ops[j]?).bind (·.dst)=some d)(hv:tmps.getD d undef=undef):Region.wanted o (yielded ops tmps)=false:=by
 unfold Region.wanted;rw[hg];have e:yielded ops tmps j=none:=by
  unfold yielded;rw[hd];simp only[Option.bind_some];by_cases h:d<tmps.size
  ·rw[Array.getElem?_eq_getElem h]
   have:tmps[d]=undef:=by simpa[h]using hv
   rw[this];rfl
  ·simp[h]
 simp only[e];rfl
theorem run_pick2{a:Act}{o:Oper}{wx:World}(c x y:Operand)(b:Bool)(r:Value)(ho:o.op=.pick c x y)(hc:a.eval c=.bool b)(hr:(if b=true then a.eval x else a.eval y)=r):(execOp a.eval o).run P wx=.ok (.value r) wx:=by
 unfold execOp;rw[ho];simp[asBool,hc,hr,Sem.run_pure]
theorem run_not(b:Bool)(wx:World):(Op.unary .not (.bool b)).run P wx=.ok (.bool (!b)) wx:=rfl
variable {rest:List Oper} {o:Oper} {a:Act}
theorem tl_new{d:Nat}{T:TypeId}{z:Array Value}(hgd:o.guard=none)(hd:o.dst=some d)(hlt:d<a.tmps.size)(hr:(execOp a.eval o).run P w=.ok (.value (.pointer (some ⟨w.heap.size,0,none⟩))) (w.alloc (.cells z T)))
  (h:∀ a':Act,a'.tmps.size=a.tmps.size->a'.defers=a.defers->(∀ t,t≠d->a'.tmps.getD t undef=a.tmps.getD t undef)->a'.tmps.getD d undef=.pointer (some ⟨w.heap.size,0,none⟩)->wpList P ops Q rest a' (w.alloc (.cells z T))):wpList P ops Q (o::rest) a w:=by
 refine wpList_plain hgd fun K hK=>?_;unfold Oper.wp;rw[hr];refine hK _ _ (h _ (put_size _ _ _) (put_defers _ _ _) (fun t ht=>put_other _ _ _ _ (by rw[hd];intro e;exact ht (Option.some.inj e).symm)) (by rw[hd];exact put_same _ _ _ hlt))
theorem run_box{T:TypeId}{x:Operand}{v:Value}{z:Array Value}(ho:o.op=.box T x)(hx:a.eval x=v)(hz:v.cells=z):(execOp a.eval o).run P w=.ok (.value (.pointer (some ⟨w.heap.size,0,none⟩))) (w.alloc (.cells z T)):=by
 subst hz;unfold execOp;simp only[ho,hx,Sem.run_bind,Instr.box,newVar,newRow,run_newObj_alloc,Sem.run_pure,Result.andThen_ok]
theorem run_bin{op:BinOp}{T t:TypeId}{x y:Operand}{u v r:Value}(ho:o.op=.binOp op T x y t)(hx:a.eval x=u)(hy:a.eval y=v)(hg:(eqGuard op T x y u v).run P w=.ok () w)(hb:(binOp op T u v).run P w=.ok r w):(execOp a.eval o).run P w=.ok (.value r) w:=by
 unfold execOp;rw[ho];simp only[hx,hy,Sem.run_bind,hg,hb,Result.andThen_ok,Sem.run_pure]
theorem tl_call{d:Nat}{f:FuncId}{args:Array Value}{R:Value->World->Prop}(hgd:o.guard=none)(hd:o.dst=some d)(hlt:d<a.tmps.size)(he:(execOp a.eval o).run P w=.ok (.enter f args) w)
  (hc:Calls P f args w fun e w'=>∃ v,e=.returned v/\R v w')
  (h:∀(a':Act) v w',R v w'->a'.tmps.size=a.tmps.size->a'.defers=a.defers->(∀ t,t≠d->a'.tmps.getD t undef=a.tmps.getD t undef)->a'.tmps.getD d undef=v->wpList P ops Q rest a' w'):wpList P ops Q (o::rest) a w:=by
 refine wpList_plain hgd fun K hK=>?_;unfold Oper.wp;rw[he];refine Calls.mono hc ?_;rintro e w' ⟨v,rfl,hR⟩;exact hK _ _ (h _ v w' hR (put_size _ _ _) (put_defers _ _ _) (fun t ht=>put_other _ _ _ _ (by rw[hd];intro e;exact ht (Option.some.inj e).symm)) (by rw[hd];exact put_same _ _ _ hlt))
end
section
variable {w wx w':World} {L:List (Nat × Array Value × TypeId)} {D E:Nat} {cs es:Array Value} {T S:TypeId}
end
open Go.RowKit
section
variable {P:Program} {ops:Array Oper} {Q:Exit->Act->World->Prop} {rest:List Oper} {o:Oper} {a:Act} {w:World}
theorem gr_load{T:TypeId}{x:Operand}{p v:Value}(ho:o.op=.load T x)(hx:a.eval x=p)(hr:(Instr.loadAt T p).run P w=.ok v w):(execOp a.eval o).run P w=.ok (.value v) w:=by
 unfold execOp;rw[ho];simp only[hx,Sem.run_bind,hr,Result.andThen_ok,Sem.run_pure]
theorem gr_fld{T:TypeId}{x:Operand}{i:Nat}{p v:Value}(ho:o.op=.fieldAddr T x i)(hx:a.eval x=p)(hr:(Instr.fieldAt T p i).run P w=.ok v w):(execOp a.eval o).run P w=.ok (.value v) w:=by
 unfold execOp;rw[ho];simp only[hx,Sem.run_bind,hr,Result.andThen_ok,Sem.run_pure]
theorem gr_idx{T:TypeId}{x y:Operand}{p i v:Value}(ho:o.op=.indexAddr T x y)(hx:a.eval x=p)(hy:a.eval y=i)(hr:(Instr.indexAt T p i).run P w=.ok v w):(execOp a.eval o).run P w=.ok (.value v) w:=by
 unfold execOp;rw[ho];simp only[hx,hy,Sem.run_bind,hr,Result.andThen_ok,Sem.run_pure]
theorem gr_ext{x:Operand}{i:Nat}{p v:Value}(ho:o.op=.extract x i)(hx:a.eval x=p)(hr:(Instr.extract p i).run P w=.ok v w):(execOp a.eval o).run P w=.ok (.value v) w:=by
 unfold execOp;rw[ho];simp only[hx,Sem.run_bind,hr,Result.andThen_ok,Sem.run_pure]
theorem gr_un{op:UnOp}{T:TypeId}{x:Operand}{u r:Value}(ho:o.op=.unOp op T x)(hx:a.eval x=u)(hr:(Op.unary op u).run P w=.ok r w):(execOp a.eval o).run P w=.ok (.value r) w:=by
 unfold execOp;rw[ho];simp only[hx,Sem.run_bind,hr,Result.andThen_ok,Sem.run_pure]
theorem gr_sem{s:Sem Value}{v:Value}{w':World}(ho:execOp a.eval o=(do let x <- s;pure (.value x)))(hr:s.run P w=.ok v w'):(execOp a.eval o).run P w=.ok (.value v) w':=by
 rw[ho];simp only[Sem.run_bind,hr,Result.andThen_ok,Sem.run_pure]
theorem tl_kcall{d:Nat}{f:FuncId}{args:Array Value}{v:Value}(hgd:o.guard=none)(hd:o.dst=some d)(hlt:d<a.tmps.size)(he:(execOp a.eval o).run P w=.ok (.enter f args) w)
  (hc:Calls P f args w fun e w'=>e=.returned v/\Below w.heap.size w w')
  (h:∀(a':Act) w',Below w.heap.size w w'->a'.tmps.size=a.tmps.size->a'.defers=a.defers->(∀ t,t≠d->a'.tmps.getD t undef=a.tmps.getD t undef)->a'.tmps.getD d undef=v->wpList P ops Q rest a' w'):wpList P ops Q (o::rest) a w :=
 tl_call hgd hd hlt he (hc.mono fun _ w' hh=>⟨v,hh.1,(⟨rfl,hh.2⟩:v=v/\Below w.heap.size w w')⟩) (R:=fun u w'=>u=v/\Below w.heap.size w w') (fun a' u w' ⟨e,hb⟩ h1 h2 h3 h4=>h a' w' hb h1 h2 h3 (h4.trans e))
theorem tl_slice{d n:Nat}{T E:TypeId}{parts:List (Nat × Operand × Value)}{cs:Array Value}(hgd:o.guard=none)(hd:o.dst=some d)(hlt:d<a.tmps.size)(ho:o.op=.buildSlice T n (parts.map fun p=>(p.1,p.2.1)).toArray)
  (hx:∀ p∈parts,a.eval p.2.1=p.2.2) (hr:∀ w,(Instr.buildSlice T n (parts.map fun p=>(p.1,p.2.2)).toArray).run P w=.ok (.slice (some ⟨w.heap.size,0,none⟩) n n) (w.alloc (.cells cs E)))
  (h:∀ a':Act,a'.tmps.size=a.tmps.size->a'.defers=a.defers->(∀ t,t≠d->a'.tmps.getD t undef=a.tmps.getD t undef)->a'.tmps.getD d undef=.slice (some ⟨w.heap.size,0,none⟩) n n->wpList P ops Q rest a' (w.alloc (.cells cs E))):wpList P ops Q (o::rest) a w:=by
 have e:((parts.map fun p=>(p.1,p.2.1)).toArray.map fun(p:Nat × Operand)=>(p.1,a.eval p.2))=(parts.map fun p=>(p.1,p.2.2)).toArray:=by
  simp only[List.map_toArray,List.map_map];congr 1;exact List.map_congr_left fun p hp=>by simp[hx p hp]
 refine wpList_plain hgd fun K hK=>?_;unfold Oper.wp execOp;rw[ho];simp only[e,Sem.run_bind,hr,Result.andThen_ok,Sem.run_pure];exact hK _ _ (h _ (put_size _ _ _) (put_defers _ _ _) (fun t ht=>put_other _ _ _ _ (by rw[hd];intro e;exact ht (Option.some.inj e).symm)) (by rw[hd];exact put_same _ _ _ hlt))
theorem tl_any{d:Nat}{v:Value}{w':World}(hgd:o.guard=none)(hd:o.dst=some d)(hlt:d<a.tmps.size)(hr:(execOp a.eval o).run P w=.ok (.value v) w')
  (h:∀ a':Act,a'.tmps.size=a.tmps.size->a'.defers=a.defers->(∀ t,t≠d->a'.tmps.getD t undef=a.tmps.getD t undef)->a'.tmps.getD d undef=v->wpList P ops Q rest a' w'):wpList P ops Q (o::rest) a w:=by
 refine wpList_plain hgd fun K hK=>?_;unfold Oper.wp;rw[hr];exact hK _ _ (h _ (put_size _ _ _) (put_defers _ _ _) (fun t ht=>put_other _ _ _ _ (by rw[hd];intro e;exact ht (Option.some.inj e).symm)) (by rw[hd];exact put_same _ _ _ hlt))
end
section
variable {P:Program} {ops:Array Oper} {Q:Exit->Act->World->Prop} {w:World} {L:List Sp} {ps:List Nat} {J:Nat->Array Value}
end
theorem HC.grown{w wx w':World}{L:List (Nat × Array Value × TypeId)}{r:Option Nat}(c:HC w L wx)(hg:wx.grownBy w' r)(hb:∀ k,r=some k->w.heap.size<=k/\∀ p∈L,p.1≠k):HC w L w':=by
 refine⟨⟨hg.os.trans c.old.os,hg.tape.trans c.old.tape,hg.output.trans c.old.output,Nat.le_trans c.old.size hg.size,fun k hk=>?_⟩,fun p hp=>?_,c.nd⟩
 ·refine(hg.block k (Nat.lt_of_lt_of_le hk c.old.size) fun e=>?_).trans (c.old.block k hk)
  have:=(hb k e.symm).1;omega
 ·refine⟨(c.rows p hp).1,(hg.block p.1 (Array.getElem?_eq_some_iff.1 (c.rows p hp).2).1 fun e=>?_).trans (c.rows p hp).2⟩
  exact(hb p.1 e.symm).2 p hp rfl
open Go.RowKit
theorem lss_run(x y:Int)(w:World):(binOp BinOp.lss 3 (.int .i64 x) (.int .i64 y)).run Tryz.prog w=.ok (.bool (decide (x<y))) w:=by kernel_rfl
theorem geq_run(x y:Int)(w:World):(binOp BinOp.geq 3 (.int .i64 x) (.int .i64 y)).run Tryz.prog w=.ok (.bool (decide (x ≥ y))) w:=by kernel_rfl
theorem add_run(x y:Int)(w:World):(binOp BinOp.add 3 (.int .i64 x) (.int .i64 y)).run Tryz.prog w=.ok (.int .i64 (IntKind.i64.wrap (x+y))) w:=by kernel_rfl
theorem sub_run(x y:Int)(w:World):(binOp BinOp.sub 3 (.int .i64 x) (.int .i64 y)).run Tryz.prog w=.ok (.int .i64 (IntKind.i64.wrap (x - y))) w:=by kernel_rfl
theorem wrap_in{x:Int}(h1:-9223372036854775808<=x)(h2:x<9223372036854775808):IntKind.i64.wrap x=x:=by
 rw[IntKind.wrap_i64];omega
theorem lss_yes{x y:Int}(h:x<y)(w:World):(binOp BinOp.lss 3 (.int .i64 x) (.int .i64 y)).run Tryz.prog w=.ok (.bool true) w:=by rw[lss_run,decide_eq_true h]
theorem lss_no{x y:Int}(h:¬x<y)(w:World):(binOp BinOp.lss 3 (.int .i64 x) (.int .i64 y)).run Tryz.prog w=.ok (.bool false) w:=by rw[lss_run,decide_eq_false h]
theorem geq_yes{x y:Int}(h:x ≥ y)(w:World):(binOp BinOp.geq 3 (.int .i64 x) (.int .i64 y)).run Tryz.prog w=.ok (.bool true) w:=by rw[geq_run,decide_eq_true h]
theorem geq_no{x y:Int}(h:¬x ≥ y)(w:World):(binOp BinOp.geq 3 (.int .i64 x) (.int .i64 y)).run Tryz.prog w=.ok (.bool false) w:=by rw[geq_run,decide_eq_false h]
theorem add_in{x y z:Int}(h1:-9223372036854775808<=z)(h2:z<9223372036854775808)(h:x+y=z)(w:World):(binOp BinOp.add 3 (.int .i64 x) (.int .i64 y)).run Tryz.prog w=.ok (.int .i64 z) w:=by rw[add_run,h,wrap_in h1 h2]
theorem sub_in{x y z:Int}(h1:-9223372036854775808<=z)(h2:z<9223372036854775808)(h:x - y=z)(w:World):(binOp BinOp.sub 3 (.int .i64 x) (.int .i64 y)).run Tryz.prog w=.ok (.int .i64 z) w:=by rw[sub_run,h,wrap_in h1 h2]
theorem at_slice{T e:TypeId}{sz:Nat}{g o n c i:Nat}(hu:Tryz.prog.underlying T=some (.slice e))(hs:(Tryz.prog.info? e).map (·.size)=some sz)(hi:i<n)(w:World):(Instr.indexAt T (.slice (some ⟨g,o,none⟩) n c) (.int .i64 (i:Nat))).run Tryz.prog w=.ok (.pointer (some ⟨g,o+i*sz,none⟩)) w:=by
 cases hq:Tryz.prog.info? e with
 | none=>simp[hq]at hs
 | some it =>
  have h2:it.size=sz:=by simpa[hq]using hs
  have hadd:∀ j,(⟨g,o,none⟩:Addr).add j=⟨g,o+j,none⟩:=fun j=>by unfold Addr.add;split <;> simp_all
  have h0:(0:Int)<=(i:Nat)/\((i:Nat):Int)<(n:Nat):=⟨by omega,by omega⟩
  simp[Instr.indexAt,asIntOf,run_underlying hu,sizeOf,typeInfo,hq,h0,h2,hadd,Result.andThen];intro h;omega
theorem at_array{T e:TypeId}{n sz:Nat}{g o i:Nat}(hu:Tryz.prog.underlying T=some (.array n e))(hs:(Tryz.prog.info? e).map (·.size)=some sz)(hi:i<n)(w:World):(Instr.indexAt T (.pointer (some ⟨g,o,none⟩)) (.int .i64 (i:Nat))).run Tryz.prog w=.ok (.pointer (some ⟨g,o+i*sz,none⟩)) w:=by
 cases hq:Tryz.prog.info? e with
 | none=>simp[hq]at hs
 | some it =>
  have h2:it.size=sz:=by simpa[hq]using hs
  have hadd:∀ j,(⟨g,o,none⟩:Addr).add j=⟨g,o+j,none⟩:=fun j=>by unfold Addr.add;split <;> simp_all
  have h0:(0:Int)<=(i:Nat)/\((i:Nat):Int)<(n:Nat):=⟨by omega,by omega⟩
  simp[Instr.indexAt,asIntOf,Instr.sureAddr,run_underlying hu,sizeOf,typeInfo,hq,h0,h2,hadd,Result.andThen];intro h;omega
theorem len_slice{T e ty:TypeId}{b:Option Addr}{n c:Nat}(hu:Tryz.prog.underlying T=some (.slice e))(w:World):(Builtin.len_ #[T] ty #[.slice b n c]).run Tryz.prog w=.ok (.int .i64 (n:Nat)) w:=by
 simp[Builtin.len_,run_underlying hu];rfl
end Go.Proofs.YtfmpjjhdocejiaaGreat
namespace Go.Proofs.YtfmpjjhdocejiaaGreat.Sy
open Go.RowKit
inductive SV
 | w (x:Nat)
 | b (t:Bool)
 | i (k:IntKind) (n:Int)
 | na (x:Nat)
 | v (x:Value)
 | p (g o j z:Nat)
 | s (g o n c:Nat)
 | e
 | ap (h t:SV)
 | tu (x y:SV)
 | gd (t:Bool) (x:SV)
 deriving Inhabited
abbrev Pl:=Nat->Nat
def SV.sc(γ:Pl):SV->Value
 | .b t=>.bool t
 | .i k n=>.int k n
 | .na x=>.int .i64 (x:Nat)
 | .v x=>x
 | .p g o j z=>.pointer (some ⟨γ g,o+j*z,none⟩)
 | .s g o n c=>.slice (some ⟨γ g,o,none⟩) n c
 | _=>undef
def SV.cells(γ:Pl):SV->List Value
 | .w x=>(pw x).toList
 | .e=>[]
 | .ap h t=>h.cells γ++t.cells γ
 | x=>[x.sc γ]
def SV.val(γ:Pl):SV->Value
 | .w x=>.agg (pw x)
 | .e=>.agg #[]
 | .ap h t=>.agg (h.cells γ++t.cells γ).toArray
 | .tu x y=>.tuple #[x.val γ,y.val γ]
 | .gd t x=>if t=true then x.val γ else undef
 | x=>x.sc γ
def SV.size:SV->Nat
 | .w _=>4
 | .e=>0
 | .ap h t=>h.size+t.size
 | _=>1
theorem SV.cells_len(γ:Pl):∀ x:SV,(x.cells γ).length=x.size
 | .w _ | .e | .b _ | .i _ _ | .na _ | .v _ | .p _ _ _ _ | .s _ _ _ _ | .tu _ _ | .gd _ _=>rfl
 | .ap h t=>by simp only[SV.cells,SV.size,List.length_append,cells_len γ h,cells_len γ t]
def SV.many:SV->Bool
 | .w _ | .e | .ap _ _=>true
 | _=>false
def SV.one:SV->Bool
 | .b _ | .i _ _ | .na _ | .p _ _ _ _ | .s _ _ _ _=>true
 | .v x=>x.oneCell'
 | _=>false
theorem SV.one_cell{γ:Pl}:∀ {x:SV},x.one=true->(x.val γ).oneCell'=true
 | .b _,_ | .i _ _,_ | .na _,_ | .p _ _ _ _,_ | .s _ _ _ _,_=>rfl
 | .v _,h=>h
theorem SV.val_many{γ:Pl}:∀ {x:SV},x.many=true->x.val γ=.agg (x.cells γ).toArray
 | .w x,_=>by simp[SV.val,SV.cells]
 | .e,_=>rfl
 | .ap _ _,_=>rfl
theorem SV.val_one{γ:Pl}:∀ {x:SV},x.one=true->x.cells γ=[x.val γ]
 | .b _,_ | .i _ _,_ | .na _,_ | .v _,_ | .p _ _ _ _,_ | .s _ _ _ _,_=>rfl
def SV.lt(n:Nat):SV->Bool
 | .p g _ _ _=>decide (g<n)
 | .s g _ _ _=>decide (g<n)
 | .ap h t=>h.lt n&&t.lt n
 | .tu x y=>x.lt n&&y.lt n
 | .gd _ x=>x.lt n
 | _=>true
theorem SV.lt_same{γ δ:Pl}{n:Nat}(h:∀ k,k<n->γ k=δ k):∀ {x:SV},x.lt n=true->x.sc γ=x.sc δ/\x.cells γ=x.cells δ/\x.val γ=x.val δ
 | .w _,_ | .e,_ | .b _,_ | .i _ _,_ | .na _,_ | .v _,_=>⟨rfl,rfl,rfl⟩
 | .p g _ _ _,hl=>by
  have hg:=h g (of_decide_eq_true hl);refine⟨?_,?_,?_⟩ <;> simp only[SV.sc,SV.cells,SV.val,hg]
 | .s g _ _ _,hl=>by
  have hg:=h g (of_decide_eq_true hl);refine⟨?_,?_,?_⟩ <;> simp only[SV.sc,SV.cells,SV.val,hg]
 | .ap a t,hl=>by
  simp only[SV.lt,Bool.and_eq_true]at hl;obtain⟨_,h1,_⟩:=lt_same h hl.1;obtain⟨_,h2,_⟩:=lt_same h hl.2;refine⟨rfl,?_,?_⟩
  ·simp only[SV.cells,h1,h2]
  ·simp only[SV.val,h1,h2]
 | .tu a t,hl=>by
  simp only[SV.lt,Bool.and_eq_true]at hl;obtain⟨_,_,h1⟩:=lt_same h hl.1;obtain⟨_,_,h2⟩:=lt_same h hl.2;exact⟨rfl,rfl,by simp only[SV.val,h1,h2]⟩
 | .gd t x,hl=>by
  obtain⟨_,_,h1⟩:=lt_same (x:=x) h hl;exact⟨rfl,rfl,by simp only[SV.val,h1]⟩
theorem SV.lt_mono{n m:Nat}(h:n<=m):∀ {x:SV},x.lt n=true->x.lt m=true
 | .w _,_ | .e,_ | .b _,_ | .i _ _,_ | .na _,_ | .v _,_=>rfl
 | .p g _ _ _,hl=>by have:=of_decide_eq_true hl;exact decide_eq_true (by omega)
 | .s g _ _ _,hl=>by have:=of_decide_eq_true hl;exact decide_eq_true (by omega)
 | .ap a t,hl=>by
  simp only[SV.lt,Bool.and_eq_true]at hl |-
  exact⟨lt_mono h hl.1,lt_mono h hl.2⟩
 | .tu a t,hl=>by
  simp only[SV.lt,Bool.and_eq_true]at hl |-
  exact⟨lt_mono h hl.1,lt_mono h hl.2⟩
 | .gd _ x,hl=>lt_mono (x:=x) h hl
def SV.ok:SV->Prop
 | .w x=>x<2^256
 | .na x=>x<2^62
 | .ap h t=>h.ok/\t.ok
 | .tu x y=>x.ok/\y.ok
 | .gd t x=>t=true->x.ok
 | _=>True
def limb(o x:Nat):Int:=((x / 18446744073709551616^o%18446744073709551616:Nat):Int)
def SV.sub(m:Bool)(off sz:Nat):SV->Option SV
 | .w x=>if m then (if off=0/\sz=4 then some (.w x)else none)else if off<4/\sz=1 then some (.i .u64 (limb off x))else none
 | .e=>none
 | .ap h t=>match (if off+sz<=h.size then h.sub m off sz else none)with
  | some r=>some r
  | none=>if m=true/\off=0/\sz=(SV.ap h t).size then some (.ap h t)else if h.size<=off then t.sub m (off - h.size) sz else none
 | x=>if m=false/\off=0/\sz=1/\x.one=true then some x else none
structure Part (γ:Pl) (m:Bool) (off sz:Nat) (x r:SV):Prop where
 size:r.size=sz
 cells:∀ j,j<sz->(x.cells γ)[off+j]?=(r.cells γ)[j]?
 kind:if m=true then r.many=true else r.one=true
 ok:x.ok->r.ok
 lt:∀ n,x.lt n=true->r.lt n=true
theorem pw_limb(γ:Pl)(o x:Nat)(h:o<4):(pw x)[o]?=some ((SV.i .u64 (limb o x)).val γ):=by
 have:o=0\/o=1\/o=2\/o=3:=by omega
 rcases this with rfl | rfl | rfl | rfl
 ·simp[pw,limb,SV.val,SV.sc]
 ·simp[pw,limb,SV.val,SV.sc]
 ·simp[pw,limb,SV.val,SV.sc]
 ·simp[pw,limb,SV.val,SV.sc]
theorem SV.sub_ok(γ:Pl){m:Bool}:∀ {x:SV} {off sz:Nat} {r:SV},x.sub m off sz=some r->Part γ m off sz x r
 | .w x,off,sz,r,h=>by
  unfold SV.sub at h
  split at h
  ·split at h
   ·rename_i hm hh
    cases h;obtain⟨rfl,rfl⟩:=hh;exact⟨rfl,fun j _=>by rw[Nat.zero_add],by rw[if_pos hm];rfl,id,fun _ h=>h⟩
   ·cases h
  ·split at h
   ·rename_i hm hh
    cases h;obtain⟨h1,rfl⟩:=hh;refine⟨rfl,fun j hj=>?_,by rw[if_neg hm];rfl,fun _=>trivial,fun _ _=>rfl⟩;obtain rfl:j=0:=by omega
    show(pw x).toList[off+0]?=_;rw[Nat.add_zero,Array.getElem?_toList,pw_limb γ off x h1];rfl
   ·cases h
 | .e,_,_,_,h=>by cases h
 | .ap a t,off,sz,r,h=>by
  unfold SV.sub at h
  split at h
  ·rename_i r' hr
   cases h
   split at hr
   ·rename_i hh
    have q:=sub_ok γ hr;refine⟨q.size,fun j hj=>?_,q.kind,fun hx=>q.ok hx.1,fun n hn=>q.lt n (by simp only[SV.lt,Bool.and_eq_true]at hn;exact hn.1)⟩;rw[<- q.cells j hj];show(a.cells γ++t.cells γ)[off+j]?=_;rw[List.getElem?_append_left (by rw[SV.cells_len];omega)]
   ·cases hr
  ·split at h
   ·rename_i hh
    cases h;obtain⟨hm,rfl,rfl⟩:=hh;exact⟨rfl,fun j _=>by rw[Nat.zero_add],by rw[if_pos hm];rfl,id,fun _ h=>h⟩
   ·split at h
    ·rename_i hh
     have q:=sub_ok γ h;refine⟨q.size,fun j hj=>?_,q.kind,fun hx=>q.ok hx.2,fun n hn=>q.lt n (by simp only[SV.lt,Bool.and_eq_true]at hn;exact hn.2)⟩;rw[<- q.cells j hj];show(a.cells γ++t.cells γ)[off+j]?=_;rw[List.getElem?_append_right (by rw[SV.cells_len];omega),SV.cells_len];congr 1;omega
    ·cases h
 | .b _,off,sz,r,h | .i _ _,off,sz,r,h | .na _,off,sz,r,h | .v _,off,sz,r,h | .p _ _ _ _,off,sz,r,h | .s _ _ _ _,off,sz,r,h=>by
  unfold SV.sub at h
  split at h
  ·rename_i hh
   cases h;obtain⟨hm,rfl,rfl,ho⟩:=hh;exact⟨rfl,fun j _=>by rw[Nat.zero_add],by rw[hm];exact ho,id,fun _ h=>h⟩
  ·cases h
 | .tu _ _,off,sz,r,h | .gd _ _,off,sz,r,h=>by
  unfold SV.sub at h
  split at h
  ·rename_i hh
   exact absurd hh.2.2.2 (by simp[SV.one])
  ·cases h
def SV.put(r:SV)(off:Nat):SV->Option SV
 | .ap h t=>match (if off+r.size<=h.size then SV.put r off h else none)with
  | some h'=>some (.ap h' t)
  | none=>if off=0/\r.many=true/\(SV.ap h t).size=r.size then some r else if h.size<=off then (SV.put r (off - h.size) t).map (.ap h ·)else none
 | .w _=>if off=0/\r.many=true/\r.size=4 then some r else none
 | .e=>none
 | x=>if off=0/\x.one=true/\r.one=true then some r else none
structure Laid (γ:Pl) (off:Nat) (r x y:SV):Prop where
 size:y.size=x.size
 fits:off+r.size<=x.size
 cells:∀ j,(y.cells γ)[j]?=if off<=j/\j<off+r.size then (r.cells γ)[j - off]? else (x.cells γ)[j]?
 ok:x.ok->r.ok->y.ok
 lt:∀ n,x.lt n=true->r.lt n=true->y.lt n=true
theorem SV.one_size:∀ {x:SV},x.one=true->x.size=1
 | .b _,_ | .i _ _,_ | .na _,_ | .v _,_ | .p _ _ _ _,_ | .s _ _ _ _,_=>rfl
theorem laid_all{γ:Pl}{r x:SV}(h:r.size=x.size):Laid γ 0 r x r :=
 ⟨h,by omega,fun j=>by
  rw[Nat.sub_zero];by_cases hj:j<r.size
  ·rw[if_pos (by omega)]
  ·rw[if_neg (by omega),List.getElem?_eq_none (by rw[SV.cells_len];omega),List.getElem?_eq_none (by rw[SV.cells_len];omega)],fun _ h=>h,fun _ _ h=>h⟩
theorem SV.put_ok(γ:Pl){r:SV}:∀ {x:SV} {off:Nat} {y:SV},SV.put r off x=some y->Laid γ off r x y
 | .w x,off,y,h=>by
  unfold SV.put at h
  split at h
  ·rename_i hh
   cases h;obtain⟨rfl,_,h4⟩:=hh;exact laid_all h4
  ·cases h
 | .e,_,_,h=>by cases h
 | .ap a t,off,y,h=>by
  unfold SV.put at h
  split at h
  ·rename_i a' hp
   cases h
   split at hp
   ·rename_i hh
    have q:=put_ok γ hp;refine⟨by simp only[SV.size,q.size],by simp only[SV.size];omega,fun j=>?_,fun hx hr=>⟨q.ok hx.1 hr,hx.2⟩,fun n hn hr=>by
     simp only[SV.lt,Bool.and_eq_true]at hn |-
     exact⟨q.lt n hn.1 hr,hn.2⟩⟩
    show(a'.cells γ++t.cells γ)[j]?=if _ then _ else (a.cells γ++t.cells γ)[j]?
    rw[List.getElem?_append,List.getElem?_append,SV.cells_len,SV.cells_len,q.size,q.cells j];by_cases hj:j<a.size
    ·simp only[hj,if_true]
    ·rw[if_neg hj,if_neg (by omega),if_neg hj]
   ·cases hp
  ·split at h
   ·rename_i hh
    cases h;obtain⟨rfl,_,h4⟩:=hh;exact laid_all h4.symm
   ·split at h
    ·rename_i hh
     cases hp:SV.put r (off - a.size) t with
     | none=>rw[hp]at h;cases h
     | some t' =>
      rw[hp]at h;cases h;have q:=put_ok γ hp;have qf:=q.fits;refine⟨by simp only[SV.size,q.size],by simp only[SV.size];omega,fun j=>?_,fun hx hr=>⟨hx.1,q.ok hx.2 hr⟩,fun n hn hr=>by
       simp only[SV.lt,Bool.and_eq_true]at hn |-
       exact⟨hn.1,q.lt n hn.2 hr⟩⟩
      show(a.cells γ++t'.cells γ)[j]?=if _ then _ else (a.cells γ++t.cells γ)[j]?
      rw[List.getElem?_append,List.getElem?_append,SV.cells_len,q.cells (j - a.size)];by_cases hj:j<a.size
      ·rw[if_pos hj,if_pos hj,if_neg (by omega)]
      ·rw[if_neg hj,if_neg hj]
       by_cases h2:off<=j/\j<off+r.size
       ·rw[if_pos h2,if_pos (by omega),show j - a.size - (off - a.size)=j - off by omega]
       ·rw[if_neg h2,if_neg (by omega)]
    ·cases h
 | .b _,off,y,h | .i _ _,off,y,h | .na _,off,y,h | .v _,off,y,h | .p _ _ _ _,off,y,h | .s _ _ _ _,off,y,h=>by
  unfold SV.put at h
  split at h
  ·rename_i hh
   cases h;obtain⟨rfl,_,h4⟩:=hh;exact laid_all (SV.one_size h4)
  ·cases h
 | .tu _ _,off,y,h | .gd _ _,off,y,h=>by
  unfold SV.put at h
  split at h
  ·rename_i hh
   exact absurd hh.2.1 (by simp[SV.one])
  ·cases h
end Go.Proofs.YtfmpjjhdocejiaaGreat.Sy
namespace Go.Proofs.YtfmpjjhdocejiaaGreat.Sy
open Go.RowKit
structure Ty where
 T:TypeId
 m:Bool
 sz:Nat
 zero:SV
 fs:List (Nat × Nat)
def isRow:TypeDesc->Bool
 | .struct _ | .array _ _=>true
 | _=>false
def fieldsOf(P:Program)(T:TypeId):Option (List (Nat × Nat)) :=
 match P.underlying T with
 | some (.struct fields)=>fields.toList.mapM fun f=>(P.info? f.type).map fun i=>(f.offset,i.size)
 | _=>none
structure Ty.Good (P:Program) (y:Ty):Prop where
 d:(P.underlying y.T).map isRow=some y.m
 sz:(P.info? y.T).map (·.size)=some y.sz
 zero:((P.info? y.T).bind (·.zero)).map (·.cells)=some (y.zero.cells fun _=>0).toArray
 zlt:y.zero.lt 0=true
 zok:y.zero.ok
 fs:y.fs≠[]->fieldsOf P y.T=some y.fs
abbrev Rows:=List (Nat × SV × TypeId)
inductive Ob
 | ask (p:Prop)
 | same (g h:Bool)
 | eq (x y:SV)
def Ob.holds:Ob->Prop
 | .ask p=>p
 | .same g h=>g=true->h=true
 | .eq x y=>x=y
structure Bs where
 T:TypeId
 n:Nat
 e:TypeId
 sz:Nat
 zs:SV
structure Bs.Good (P:Program) (b:Bs):Prop where
 u:P.underlying b.T=some (.slice b.e)
 i:(P.info? b.e).map (·.size)=some b.sz
 z:((P.info? b.e).bind (·.zero)).map (fun v=>(Array.range (b.n*b.sz)).map (v.cells[·%v.cells.size]!))=some (b.zs.cells fun _=>0).toArray
 lt:b.zs.lt 0=true
 ok:b.zs.ok
 few:decide (b.n*b.sz > 2^24)=false
 pos:decide (b.n*b.sz=0)=false
def bsIn(T:TypeId)(n:Nat):List Bs->Option Bs
 | []=>none
 | b::l=>if b.T=T/\b.n=n then some b else bsIn T n l
theorem bsIn_ok{T:TypeId}{n:Nat}{b:Bs}:∀ {l:List Bs},bsIn T n l=some b->b∈l/\b.T=T/\b.n=n
 | [],h=>by cases h
 | c::l,h=>by
  unfold bsIn at h
  split at h
  ·rename_i e;cases h;exact⟨.head _,e⟩
  ·have:=bsIn_ok h;exact⟨.tail _ this.1,this.2⟩
structure Env where
 P:Program
 tys:List Ty
 base:Nat
 ctr:FuncId->Nat->Rows->List SV->Option (SV × List Ob × Rows)
 bop:BinOp->TypeId->SV->SV->Option (SV × List Ob)
 bld:TypeId->List (Nat × SV)->Option SV
 xld:TypeId->Nat->Nat->Nat->Nat->Option (SV × List Ob)
 ixa:TypeId->SV->SV->Option (SV × List Ob)
 sls:List TypeId
 bss:List Bs
def tyIn(T:TypeId):List Ty->Option Ty
 | []=>none
 | y::l=>if y.T=T then some y else tyIn T l
theorem tyIn_ok{T:TypeId}{y:Ty}:∀ {l:List Ty},tyIn T l=some y->y∈l/\y.T=T
 | [],h=>by cases h
 | z::l,h=>by
  unfold tyIn at h
  split at h
  ·cases h;rename_i e;exact⟨.head _,e⟩
  ·have:=tyIn_ok h;exact⟨.tail _ this.1,this.2⟩
def All(l:List Ob):Prop:=∀ p∈l,p.holds
def Agree(E:Env)(γ0 γ:Pl):Prop:=∀ k,k<E.base->γ k=γ0 k
def Lies(γ:Pl)(n:Nat)(M:Rows)(wx:World):Prop:=∀ r∈M,wx.heap[γ r.1]?=some (.cells (r.2.1.cells γ).toArray r.2.2 (0,0))/\r.2.1.ok/\r.2.1.lt n=true
structure Made (γ:Pl) (n:Nat) (r:SV) (R:Rows) (wx:World) (e:Ending) (w':World):Prop where
 out:∃ δ:Pl,(∀ k,k<n->δ k=γ k)/\e=.returned (r.val δ)/\(∀ q∈R,wx.heap.size<=δ q.1/\w'.heap[δ q.1]?=some (.cells (q.2.1.cells δ).toArray q.2.2 (0,0)))/\R.Pairwise fun p q=>δ p.1≠δ q.1
 below:Below wx.heap.size wx w'
structure Env.Good (E:Env) (γ0:Pl) (w0:World):Prop where
 tys:∀ y∈E.tys,y.Good E.P
 ctr:∀ f n M l r p R,E.ctr f n M l=some (r,p,R)->All p->E.base<=n->(∀ x∈l,x.ok/\x.lt n=true)->(∀ r∈M,r.2.1.ok/\r.2.1.lt n=true)->r.ok/\r.lt (n+R.length)=true/\(∀ q∈R,q.2.1.ok/\q.2.1.lt (n+R.length)=true/\n<=q.1/\q.1<n+R.length)/\(∀ l wx,(callFunc f l).run E.P wx=.ok (.enter f l) wx) /\
  ∀ γ,Agree E γ0 γ->∀ wx,Below w0.heap.size w0 wx->Lies γ n M wx->Calls E.P f (l.map (·.val γ)).toArray wx (Made γ n r R wx)
 bop:∀ op T x y r p,E.bop op T x y=some (r,p)->All p->x.ok->y.ok->r.ok/\r.lt 0=true/\∀ γ (ox oy:Operand) wx,(eqGuard op T ox oy (x.val γ) (y.val γ)).run E.P wx=.ok () wx/\(binOp op T (x.val γ) (y.val γ)).run E.P wx=.ok (r.val γ) wx
 bld:∀ T l r,E.bld T l=some r->(∀ x∈l,x.2.ok)->r.ok/\r.lt 0=true/\r.many=true/\∀ γ,E.P.built T (l.map fun x=>(x.1,x.2.val γ))=some (r.cells γ).toArray
 xld:∀ T g o j z r p,E.xld T g o j z=some (r,p)->All p->r.ok/\r.lt E.base=true/\g<E.base/\∀ γ,Agree E γ0 γ->∀ wx,Below w0.heap.size w0 wx->(Instr.loadAt T (.pointer (some ⟨γ g,o+j*z,none⟩))).run E.P wx=.ok (r.val γ) wx
 ixa:∀ T x y r p n,E.ixa T x y=some (r,p)->All p->x.lt n=true->x.ok->y.ok->r.ok/\r.lt n=true/\∀ γ wx,(Instr.indexAt T (x.val γ) (y.val γ)).run E.P wx=.ok (r.val γ) wx
 sls:∀ T∈E.sls,∃ e,E.P.underlying T=some (.slice e)
 bss:∀ b∈E.bss,b.Good E.P
def constS(v:Value):SV:=.v v
theorem constS_ok(γ:Pl)(n:Nat)(v:Value):(constS v).val γ=v/\(constS v).ok/\(constS v).lt n=true:=⟨rfl,trivial,rfl⟩
def natS:SV->Option Nat
 | .na x=>some x
 | .v (.int .i64 (.ofNat k))=>if k<2^62 then some k else none
 | _=>none
theorem natS_ok{γ:Pl}{x:SV}{k:Nat}(h:natS x=some k)(hx:x.ok):x.val γ=.int .i64 (k:Nat)/\k<2^62:=by
 unfold natS at h
 split at h
 ·cases h;exact⟨rfl,hx⟩
 ·split at h
  ·rename_i hk;cases h;exact⟨rfl,hk⟩
  ·cases h
 ·cases h
def normS(x:SV):SV:=match natS x with
 | some k=>.na k
 | none=>x
theorem normS_ok{γ:Pl}{n:Nat}{x:SV}(hx:x.ok)(hl:x.lt n=true):(normS x).val γ=x.val γ/\(normS x).ok/\(normS x).lt n=true:=by
 unfold normS
 split
 ·rename_i k h
  have:=natS_ok (γ:=γ) h hx;exact⟨this.1.symm,this.2,rfl⟩
 ·exact⟨rfl,hx,hl⟩
def opnd(lk:Nat->Option SV):Operand->Option SV
 | .tmp t=>lk t
 | .const v=>some (constS v)
 | .func f=>some (.v (.func (.func f) #[] #[]))
 | .global _=>none
def opnds(lk:Nat->Option SV):List Operand->Option (List SV)
 | []=>some []
 | x::l=>match opnd lk x,opnds lk l with
  | some u,some r=>some (u::r)
  | _,_=>none
def partsOf(lk:Nat->Option SV):List (Nat × Operand)->Option (List (Nat × SV))
 | []=>some []
 | x::l=>match opnd lk x.2,partsOf lk l with
  | some u,some r=>some ((x.1,u)::r)
  | _,_=>none
def bitOf(c:Bool):SV->Option (Bool × List Ob)
 | .b t=>some (t,[])
 | .v (.bool t)=>some (t,[])
 | .gd g (.b t)=>some (t,[.same c g])
 | .gd g (.v (.bool t))=>some (t,[.same c g])
 | _=>none
def rowIn(g:Nat):Rows->Option (SV × TypeId)
 | []=>none
 | r::l=>if r.1=g then some r.2 else rowIn g l
def fillS(fs:List (Nat × Nat)):SV->List (Nat × SV)->Option SV
 | z,[]=>some z
 | z,(i,x)::l=>match fs[i]? with
  | some (off,sz)=>if x.size=sz then match SV.put x off z with
   | some z'=>fillS fs z' l
   | none=>none
   else none
  | none=>none
def opVal(E:Env)(lk:Nat->Option SV)(M:Rows):Op->Option (SV × List Ob)
 | .move x=>(opnd lk x).map (·,[])
 | .assign x=>(opnd lk x).map (·,[])
 | .pick c x y=>match opnd lk c with
  | some (.v (.bool true))=>(opnd lk x).map (·,[])
  | some (.v (.bool false))=>(opnd lk y).map (·,[])
  | some (.b t)=>match (opnd lk x).bind (bitOf t),(opnd lk y).bind (bitOf (!t))with
   | some (u,p),some (v,q)=>some (.b (bif t then u else v),p++q)
   | _,_=>none
  | _=>none
 | .load T x=>match opnd lk x,tyIn T E.tys with
  | some (.p g o j z),some y=>match rowIn g M with
   | some r=>if z=0 then (SV.sub y.m o y.sz r.1).map (·,[])else none
   | none=>E.xld T g o j z
  | _,_=>none
 | .build T parts=>match partsOf lk parts.toList with
  | some l=>match tyIn T E.tys with
   | some y=>if y.fs=[]then (E.bld T l).map (·,[])else if y.m=true/\l.all (fun x=>x.2.one||x.2.many)=true then match fillS y.fs y.zero l with
    | some r=>if r.many=true then some (r,[])else none
    | none=>none
    else none
   | none=>none
  | none=>none
 | .fieldAddr T x i=>match opnd lk x,tyIn T E.tys with
  | some (.p g o j z),some y=>match y.fs[i]? with
   | some (off,sz)=>if sz=0 then none else some (.p g (o+off) j z,[])
   | none=>none
  | _,_=>none
 | .extract x i=>match opnd lk x with
  | some (.tu a b)=>if i=0 then some (a,[])else if i=1 then some (b,[])else none
  | _=>none
 | .unOp .not _ x=>match opnd lk x with
  | some (.b t)=>some (.b (!t),[])
  | some (.v (.bool t))=>some (.v (.bool (!t)),[])
  | _=>none
 | .binOp op T x y _=>match opnd lk x,opnd lk y with
  | some u,some v=>E.bop op T u v
  | _,_=>none
 | .indexAddr T x y=>match opnd lk x,opnd lk y with
  | some u,some v=>E.ixa T u v
  | _,_=>none
 | .call c=>match c.callee,c.args.toList,c.argTypes.toList with
  | .builtin .len,[x],[T]=>match opnd lk x with
   | some (.s _ _ n _)=>if E.sls.contains T=true then some (.na n,[.ask (n<2^62)])else none
   | _=>none
  | _,_,_=>none
 | _=>none
section
variable {E:Env} {γ0 γ:Pl} {w0 wx:World} {lk:Nat->Option SV} {M:Rows} {n:Nat} {a:Act} {o:Oper} {x y:Operand} {u v r:SV}
def Holds(γ:Pl)(n:Nat)(lk:Nat->Option SV)(a:Act):Prop:=∀ t x,lk t=some x->a.tmps.getD t undef=x.val γ/\x.ok/\x.lt n=true
theorem opnd_ok(hk:Holds γ n lk a)(h:opnd lk x=some u):a.eval x=u.val γ/\u.ok/\u.lt n=true:=by
 cases x with
 | tmp t=>exact hk t u h
 | const v=>cases h;have:=constS_ok γ n v;exact⟨this.1.symm,this.2⟩
 | func f=>cases h;exact⟨rfl,trivial,rfl⟩
 | global g=>cases h
theorem opnds_ok(hk:Holds γ n lk a):∀ {l:List Operand} {us:List SV},opnds lk l=some us->l.map a.eval=us.map (·.val γ)/\∀ u∈us,u.ok/\u.lt n=true
 | [],us,h=>by cases h;exact⟨rfl,fun u hu=>by cases hu⟩
 | x::l,us,h=>by
  unfold opnds at h
  split at h
  ·rename_i u r hu hr
   cases h;have h1:=opnd_ok hk hu;have h2:=opnds_ok hk hr;refine⟨by rw[List.map_cons,List.map_cons,h1.1,h2.1],fun v hv=>?_⟩;rcases List.mem_cons.1 hv with rfl | hv
   ·exact h1.2
   ·exact h2.2 v hv
  ·cases h
theorem partsOf_ok(hk:Holds γ n lk a):∀ {l:List (Nat × Operand)} {us:List (Nat × SV)},partsOf lk l=some us->l.map (fun x=>(x.1,a.eval x.2))=us.map (fun x=>(x.1,x.2.val γ))/\∀ u∈us,u.2.ok/\u.2.lt n=true
 | [],us,h=>by cases h;exact⟨rfl,fun u hu=>by cases hu⟩
 | x::l,us,h=>by
  unfold partsOf at h
  split at h
  ·rename_i u r hu hr
   cases h;have h1:=opnd_ok hk hu;have h2:=partsOf_ok hk hr;refine⟨by rw[List.map_cons,List.map_cons,h1.1,h2.1],fun v hv=>?_⟩;rcases List.mem_cons.1 hv with rfl | hv
   ·exact h1.2
   ·exact h2.2 v hv
  ·cases h
theorem bitOf_ok{c:Bool}{x:SV}{t:Bool}{p:List Ob}(h:bitOf c x=some (t,p))(hc:c=true)(hp:All p):x.val γ=.bool t:=by
 unfold bitOf at h
 split at h <;> cases h
 ·rfl
 ·rfl
 ·have:_=true:=hp _ (.head _) hc
  subst this;rfl
 ·have:_=true:=hp _ (.head _) hc
  subst this;rfl
theorem rowIn_ok{g:Nat}{q:SV × TypeId}:∀ {M:Rows},rowIn g M=some q->(g,q.1,q.2)∈M
 | [],h=>by cases h
 | r::l,h=>by
  unfold rowIn at h
  split at h
  ·rename_i e;cases h;subst e;exact .head _
  ·exact .tail _ (rowIn_ok h)
theorem desc_of{P:Program}{T:TypeId}{m:Bool}(h:(P.underlying T).map isRow=some m):∃ d,P.underlying T=some d/\isRow d=m:=by
 cases hu:P.underlying T with
 | none=>rw[hu]at h;cases h
 | some d=>rw[hu]at h;exact⟨d,rfl,Option.some.inj h⟩
theorem ld_one{P:Program}{w:World}{g o:Nat}{cs:Array Value}{t T:TypeId}{d:TypeDesc}{v:Value}(hg:w.heap[g]?=some (.cells cs t (0,0)))(hc:cs[o]?=some v)(hu:P.underlying T=some d)(hd:isRow d=false) :
  (Instr.loadAt T (.pointer (some ⟨g,o,none⟩))).run P w=.ok v w:=by
 have c0:w.cell? ⟨g,o,none⟩=some v:=(cell_of_row _ _ o _ _ _ hg).trans hc;have hagg:(isAgg T).run P w=.ok false w:=by
  unfold isAgg;rw[Sem.run_bind,run_underlying hu w];cases d <;> first | rfl | cases hd
 simp[Instr.loadAt,Instr.sureAddr,loadVar,Sem.run_bind,hagg,c0]
theorem load_ok{P:Program}{w:World}{g off sz:Nat}{t T:TypeId}{m:Bool}{x r:SV}(hg:w.heap[g]?=some (.cells (x.cells γ).toArray t (0,0)))(hd:(P.underlying T).map isRow=some m)(hs:(P.info? T).map (·.size)=some sz)(h:SV.sub m off sz x=some r) :
  (Instr.loadAt T (.pointer (some ⟨g,off,none⟩))).run P w=.ok (r.val γ) w:=by
 have q:=SV.sub_ok γ h;obtain⟨d,hu,hm⟩:=desc_of hd;cases m with
 | true =>
  rw[SV.val_many q.kind];refine ld_mid (r.cells γ).toArray hg (fun j hj=>?_) hu (by cases d <;> first | rfl | cases hm) ?_
  ·have hj':j<sz:=by
    have:=SV.cells_len γ r;rw[List.size_toArray,this,q.size]at hj;exact hj
   simpa using q.cells j hj'
  ·rw[hs,List.size_toArray,SV.cells_len,q.size]
 | false =>
  have ho:r.one=true:=q.kind;refine ld_one hg ?_ hu hm;have h1:=SV.one_size ho;have:=q.cells 0 (by have:=q.size;omega);rw[SV.val_one ho]at this;simpa using this
theorem cells_one{v:Value}(h:v.oneCell'=true):v.cells=#[v]:=by
 cases v <;> first | rfl | cases h
theorem fold_put(off:Nat):∀(vs:List Value) (j0:Nat) (cs:Array Value),off+j0+vs.length<=cs.size->((vs.zipIdx j0).foldl (fun cs (p:Value × Nat)=>cs.setIfInBounds (off+p.2) p.1) cs).size=cs.size /\
  ∀ k:Nat,((vs.zipIdx j0).foldl (fun cs (p:Value × Nat)=>cs.setIfInBounds (off+p.2) p.1) cs)[k]?=if off+j0<=k/\k<off+j0+vs.length then vs[k - (off+j0)]? else cs[k]?
 | [],j0,cs,_=>⟨rfl,fun k=>by rw[if_neg (by simp only[List.length_nil];omega)];rfl⟩
 | v::vs,j0,cs,h=>by
  simp only[List.length_cons]at h;have ih:=fold_put off vs (j0+1) (cs.setIfInBounds (off+j0) v) (by simp only[Array.size_setIfInBounds];omega);simp only[List.zipIdx_cons,List.foldl_cons];refine⟨by rw[ih.1,Array.size_setIfInBounds],fun k=>?_⟩;rw[ih.2 k];simp only[List.length_cons];by_cases h1:k=off+j0
  ·subst h1
   rw[if_neg (by omega),if_pos (by omega),Nat.sub_self];rw[Array.getElem?_setIfInBounds_self_of_lt (by omega)];rfl
  ·by_cases h2:off+(j0+1)<=k/\k<off+(j0+1)+vs.length
   ·rw[if_pos h2,if_pos (by omega),show k - (off+j0)=(k - (off+(j0+1)))+1 by omega,List.getElem?_cons_succ]
   ·rw[if_neg h2,if_neg (by omega),Array.getElem?_setIfInBounds_ne (by omega)]
theorem fill_ok{fs:List (Nat × Nat)}:∀ {l:List (Nat × SV)} {z r:SV},fillS fs z l=some r->(∀ x∈l,(x.2.one||x.2.many)=true)->Instr.fill (fs.toArray[·]?) (z.cells γ).toArray (l.map fun x=>(x.1,x.2.val γ))=some (r.cells γ).toArray
 | [],z,r,h,_=>by cases h;rfl
 | (i,x)::l,z,r,h,hv=>by
  unfold fillS at h
  split at h
  ·rename_i off sz hf
   split at h
   ·rename_i hsz
    split at h
    ·rename_i z' hz
     have q:=SV.put_ok γ hz;have qf:=q.fits;have ih:=fill_ok (l:=l) h (fun y hy=>hv y (.tail _ hy));have hc:(x.val γ).cells=(x.cells γ).toArray:=by
      have:=hv _ (.head _);simp only[Bool.or_eq_true]at this;rcases this with h1 | h1
      ·rw[SV.val_one h1,cells_one (SV.one_cell h1)]
      ·rw[SV.val_many h1]
       rfl
     rw[List.map_cons];unfold Instr.fill;have hf':fs.toArray[i]?=some (off,sz):=by simpa using hf
     have hl:=SV.cells_len γ x;have hlz:=SV.cells_len γ z;have e:((x.cells γ).toArray.zipIdx.foldl (fun cs (p:Value × Nat)=>cs.setIfInBounds (off+p.2) p.1) (z.cells γ).toArray)=(z'.cells γ).toArray:=by
      have f:=fold_put off (x.cells γ) 0 (z.cells γ).toArray (by simp only[List.size_toArray];omega);have e0:(x.cells γ).toArray.zipIdx=((x.cells γ).zipIdx 0).toArray:=by simp
      rw[e0,List.foldl_toArray];apply Array.ext_getElem?;intro k;rw[f.2 k];simp only[List.getElem?_toArray];rw[q.cells k,hl];simp only[Nat.add_zero]
     simp only[hf',hc];rw[if_neg (by simp only[List.size_toArray,Bool.or_eq_true,decide_eq_true_eq,bne_iff_ne,ne_eq,not_or];omega)];exact(congrArg (fun cs=>Instr.fill (fs.toArray[·]?) cs (l.map fun x=>(x.1,x.2.val γ))) e).trans ih
    ·cases h
   ·cases h
  ·cases h
end
end Go.Proofs.YtfmpjjhdocejiaaGreat.Sy
namespace Go.Proofs.YtfmpjjhdocejiaaGreat.Sy
open Go.RowKit
section
variable {E:Env} {γ0 γ:Pl} {w0 wx:World} {lk:Nat->Option SV} {M:Rows} {n:Nat} {a:Act} {o:Oper} {x y:Operand} {u v r:SV}
theorem map_nil{x:Option SV}{r:SV}{p:List Ob}(h:x.map (·,([]:List Ob))=some (r,p)):x=some r:=by
 cases x with
 | none=>cases h
 | some q=>cases h;rfl
theorem fld_ok{P:Program}{w:World}{T:TypeId}{fs:List (Nat × Nat)}{i g o off sz:Nat}(hf:fieldsOf P T=some fs)(hi:fs[i]?=some (off,sz))(hz:sz≠0) :
  (Instr.fieldAt T (.pointer (some ⟨g,o,none⟩)) i).run P w=.ok (.pointer (some ⟨g,o+off,none⟩)) w:=by
 unfold fieldsOf at hf
 split at hf
 ·rename_i fields hu
  have hm:∀(l:List Field) (r:List (Nat × Nat)),l.mapM (fun(f:Field)=>(P.info? f.type).map fun i=>(f.offset,i.size))=some r->∀(i:Nat) (q:Nat × Nat),r[i]?=some q->∃(f:Field) (t:TypeInfo),l[i]?=some f/\P.info? f.type=some t/\q=(f.offset,t.size):=by
   intro l
   induction l with
   | nil=>intro r h i q hq;simp at h;subst h;simp at hq
   | cons f l ih =>
    intro r h i q hq;simp only[List.mapM_cons,Option.bind_eq_bind,Option.pure_def]at h;cases ht:P.info? f.type with
    | none=>simp[ht]at h
    | some t =>
     cases hr:l.mapM (fun(f:Field)=>(P.info? f.type).map fun i=>(f.offset,i.size))with
     | none=>simp[ht,hr]at h
     | some rest =>
      simp[ht,hr]at h;subst h;cases i with
      | zero=>simp at hq;exact⟨f,t,rfl,ht,hq.symm⟩
      | succ i=>exact ih rest hr i q (by simpa using hq)
  obtain⟨f,t,h1,h2,h3⟩:=hm _ _ hf i _ hi;cases h3;have h1':fields[i]?=some f:=by simpa using h1
  have hadd:∀ j,(⟨g,o,none⟩:Addr).add j=⟨g,o+j,none⟩:=fun j=>by unfold Addr.add;split <;> simp_all
  simp[Instr.fieldAt,run_underlying hu,h1',Instr.sureAddr,fieldPlace,sizeOf,typeInfo,h2,hz,hadd]
 ·cases hf
theorem len_any{P:Program}{T e ty:TypeId}{b:Option Addr}{n c:Nat}(hu:P.underlying T=some (.slice e))(w:World):(Builtin.len_ #[T] ty #[.slice b n c]).run P w=.ok (.int .i64 (n:Nat)) w:=by
 simp[Builtin.len_,run_underlying hu];rfl
theorem opVal_ok(G:E.Good γ0 w0)(hA:Agree E γ0 γ)(hb:E.base<=n)(hk:Holds γ n lk a)(hM:Lies γ n M wx)(hB:Below w0.heap.size w0 wx){p:List Ob}(h:opVal E lk M o.op=some (r,p))(hp:All p) :
  (execOp a.eval o).run E.P wx=.ok (.value (r.val γ)) wx/\r.ok/\r.lt n=true:=by
 obtain⟨op,ho⟩:∃ op,o.op=op:=⟨_,rfl⟩
 rw[ho]at h;cases op with
 | move x =>
  have q:=opnd_ok hk (map_nil h);exact⟨run_assign (.inr ho) q.1,q.2⟩
 | assign x =>
  have q:=opnd_ok hk (map_nil h);exact⟨run_assign (.inl ho) q.1,q.2⟩
 | pick c x y =>
  dsimp only[opVal]at h
  split at h
  ·rename_i hc
   have q:=opnd_ok hk (map_nil h);exact⟨run_pick2 c x y true _ ho (opnd_ok hk hc).1 (by rw[if_pos rfl];exact q.1),q.2⟩
  ·rename_i hc
   have q:=opnd_ok hk (map_nil h);exact⟨run_pick2 c x y false _ ho (opnd_ok hk hc).1 (by rw[if_neg (by simp)];exact q.1),q.2⟩
  ·rename_i t hc
   split at h
   ·rename_i u p1 v p2 h1 h2
    cases h;refine⟨run_pick2 c x y t _ ho (opnd_ok hk hc).1 ?_,trivial,rfl⟩;cases t with
    | true =>
     rw[if_pos rfl];cases hx:opnd lk x with
     | none=>rw[hx]at h1;cases h1
     | some sx =>
      rw[hx]at h1;rw[(opnd_ok hk hx).1];exact bitOf_ok (γ:=γ) h1 rfl fun q hq=>hp q (List.mem_append_left _ hq)
    | false =>
     rw[if_neg (by simp)];cases hx:opnd lk y with
     | none=>rw[hx]at h2;cases h2
     | some sx =>
      rw[hx]at h2;rw[(opnd_ok hk hx).1];exact bitOf_ok (γ:=γ) h2 rfl fun q hq=>hp q (List.mem_append_right _ hq)
   ·cases h
  ·cases h
 | load T x =>
  dsimp only[opVal]at h
  split at h
  ·rename_i g o' j z y hx hy
   have q:=opnd_ok hk hx;have ty:=G.tys _ (tyIn_ok hy).1
   split at h
   ·rename_i rw_ hr
    split at h
    ·rename_i hz
     subst hz;have hs:=map_nil h;have hm:=hM _ (rowIn_ok hr);have hd:=ty.d;have hsz:=ty.sz;rw[(tyIn_ok hy).2]at hd hsz;have pt:=SV.sub_ok γ hs;refine⟨gr_load ho q.1 ?_,pt.ok hm.2.1,pt.lt _ hm.2.2⟩;show(Instr.loadAt T (.pointer (some ⟨γ g,o'+j*0,none⟩))).run E.P wx=_;rw[Nat.mul_zero,Nat.add_zero];exact load_ok hm.1 hd hsz hs
    ·cases h
   ·have hx':=G.xld _ _ _ _ _ _ _ h hp
    exact⟨gr_load ho q.1 (hx'.2.2.2 γ hA wx hB),hx'.1,SV.lt_mono hb hx'.2.1⟩
  ·cases h
 | build T parts =>
  dsimp only[opVal]at h
  split at h
  ·rename_i l hl
   have q:=partsOf_ok hk hl;have hrun:∀ cs,E.P.built T (l.map fun x=>(x.1,x.2.val γ))=some cs->(execOp a.eval o).run E.P wx=.ok (.value (.agg cs)) wx:=by
    intro cs hcs;have e:(parts.map fun(x:Nat × Operand)=>(x.1,a.eval x.2)).toList=l.map fun x=>(x.1,x.2.val γ):=by
     rw[Array.toList_map];exact q.1
    have hr:=run_build (P:=E.P) wx T (parts.map fun(x:Nat × Operand)=>(x.1,a.eval x.2)) cs (by rw[e];exact hcs);unfold execOp;rw[ho];simp only[Sem.run_bind,hr,Result.andThen_ok,Sem.run_pure]
   split at h
   ·rename_i y hy
    split at h
    ·have hb':=G.bld _ _ _ (map_nil h) (fun x hx=>(q.2 x hx).1)
     refine⟨?_,hb'.1,SV.lt_mono (Nat.zero_le _) hb'.2.1⟩;rw[SV.val_many hb'.2.2.1];exact hrun _ (hb'.2.2.2 γ)
    ·rename_i hne
     split at h
     ·rename_i hm
      split at h
      ·rename_i rr hf
       split at h
       ·rename_i hmany
        cases h;have ty:=G.tys _ (tyIn_ok hy).1;have hT:=(tyIn_ok hy).2;have hv:=List.all_eq_true.1 hm.2;have hz:((E.P.info? T).bind (·.zero)).map (·.cells)=some (y.zero.cells γ).toArray:=by
         rw[<- (SV.lt_same (γ:=fun _=>0) (δ:=γ) (n:=0) (fun k hk=>absurd hk (Nat.not_lt_zero _)) ty.zlt).2.1,<- hT];exact ty.zero
        have hfs:=ty.fs hne;rw[hT]at hfs;have hfill:=fill_ok (γ:=γ) hf hv;have hbuilt:E.P.built T (l.map fun x=>(x.1,x.2.val γ))=some (r.cells γ).toArray:=by
         unfold Program.built;unfold fieldsOf at hfs
         split at hfs
         ·rename_i fields hu
          cases hi:E.P.info? T with
          | none=>rw[hi]at hz;cases hz
          | some it =>
           rw[hi]at hz;cases hzz:it.zero with
           | none=>rw[Option.bind_some,hzz]at hz;cases hz
           | some zv =>
            rw[Option.bind_some,hzz]at hz;have hz':zv.cells=(y.zero.cells γ).toArray:=Option.some.inj hz;simp only[hu,hfs,hzz,hz'];exact hfill
         ·cases hfs
        have okp:∀(fs:List (Nat × Nat)) (l:List (Nat × SV)) (z r:SV),fillS fs z l=some r->(∀ x∈l,x.2.ok/\x.2.lt n=true)->z.ok->z.lt n=true->r.ok/\r.lt n=true:=by
         intro fs l
         induction l with
         | nil=>intro z r h _ h1 h2;cases h;exact⟨h1,h2⟩
         | cons x l ih =>
          intro z r h hl h1 h2;obtain⟨i,x⟩:=x;unfold fillS at h
          split at h
          ·split at h
           ·split at h
            ·rename_i z' hz
             have q:=SV.put_ok γ hz;have hx:=hl _ (.head _);exact ih z' r h (fun y hy=>hl y (.tail _ hy)) (q.ok h1 hx.1) (q.lt _ h2 hx.2)
            ·cases h
           ·cases h
          ·cases h
        have:=okp _ _ _ _ hf q.2 ty.zok (SV.lt_mono (Nat.zero_le _) ty.zlt);refine⟨?_,this⟩;rw[SV.val_many hmany];exact hrun _ hbuilt
       ·cases h
      ·cases h
     ·cases h
   ·cases h
  ·cases h
 | fieldAddr T x i =>
  dsimp only[opVal]at h
  split at h
  ·rename_i g o' j z y hx hy
   have q:=opnd_ok hk hx;have ty:=G.tys _ (tyIn_ok hy).1
   split at h
   ·rename_i off sz hf
    split at h
    ·cases h
    ·rename_i hz
     cases h;have hfs:=ty.fs (by intro e;rw[e]at hf;cases hf);rw[(tyIn_ok hy).2]at hfs;refine⟨gr_fld ho q.1 ?_,trivial,q.2.2⟩;show(Instr.fieldAt T (.pointer (some ⟨γ g,o'+j*z,none⟩)) i).run E.P wx=.ok (.pointer (some ⟨γ g,o'+off+j*z,none⟩)) wx;rw[show o'+off+j*z=o'+j*z+off by omega];exact fld_ok hfs hf hz
   ·cases h
  ·cases h
 | extract x i =>
  dsimp only[opVal]at h
  split at h
  ·rename_i s t hx
   have q:=opnd_ok hk hx;have hl:s.lt n=true/\t.lt n=true:=by
    have:=q.2.2;simpa only[SV.lt,Bool.and_eq_true]using this
   split at h
   ·rename_i hi
    cases h;subst hi;exact⟨gr_ext ho q.1 rfl,q.2.1.1,hl.1⟩
   ·split at h
    ·rename_i hi
     cases h;subst hi;exact⟨gr_ext ho q.1 rfl,q.2.1.2,hl.2⟩
    ·cases h
  ·cases h
 | unOp op T x =>
  cases op <;> first | cases h | skip
  dsimp only[opVal]at h
  split at h
  ·rename_i t hx
   cases h;exact⟨gr_un ho (opnd_ok hk hx).1 rfl,trivial,rfl⟩
  ·rename_i t hx
   cases h;exact⟨gr_un ho (opnd_ok hk hx).1 rfl,trivial,rfl⟩
  ·cases h
 | binOp op T x y t =>
  dsimp only[opVal]at h
  split at h
  ·rename_i u v hu hv
   have q1:=opnd_ok hk hu;have q2:=opnd_ok hk hv;have hg:=G.bop _ _ _ _ _ _ h hp q1.2.1 q2.2.1;exact⟨run_bin ho q1.1 q2.1 (hg.2.2 γ x y wx).1 (hg.2.2 γ x y wx).2,hg.1,SV.lt_mono (Nat.zero_le _) hg.2.1⟩
  ·cases h
 | indexAddr T x y =>
  dsimp only[opVal]at h
  split at h
  ·rename_i u v hu hv
   have q1:=opnd_ok hk hu;have q2:=opnd_ok hk hv;have hg:=G.ixa _ _ _ _ _ n h hp q1.2.2 q1.2.1 q2.2.1;exact⟨gr_idx ho q1.1 q2.1 (hg.2.2 γ wx),hg.1,hg.2.1⟩
  ·cases h
 | call c =>
  dsimp only[opVal]at h
  split at h
  ·rename_i x T hc ha ht
   split at h
   ·rename_i g o' n c' hx
    split at h
    ·rename_i hT
     cases h;have q:=opnd_ok hk hx;obtain⟨e,he⟩:=G.sls T (by simpa using hT);refine⟨?_,hp _ (.head _),rfl⟩;obtain⟨ce,as_,ts⟩:=c;dsimp only at hc ha ht;have h1:as_=#[x]:=by apply Array.ext';rw[ha]
     have h2:ts=#[T]:=by apply Array.ext';rw[ht]
     subst hc;subst h1;subst h2;have hl:=len_any (ty:=o.type) (b:=some ⟨γ g,o',none⟩) (n:=n) (c:=c') he wx;unfold execOp;rw[ho];show(do let d <- resolve a.eval _ o.type;invoke d.target d.args:Sem Next).run E.P wx=_;unfold resolve invoke;simp only[Sem.run_bind,Sem.run_pure,Result.andThen_ok];rw[show Array.map a.eval #[x]=#[.slice (some ⟨γ g,o',none⟩) n c'] by simp[q.1,SV.val,SV.sc]];unfold builtin;show(do let v <- Builtin.len_ #[T] o.type #[.slice (some ⟨γ g,o',none⟩) n c'];pure (.value v):Sem Next).run E.P wx=.ok (.value (.int .i64 (n:Nat))) wx;rw[Sem.run_bind,hl,Result.andThen_ok,Sem.run_pure]
    ·cases h
   ·cases h
  ·cases h
 | _=>cases h
end
end Go.Proofs.YtfmpjjhdocejiaaGreat.Sy
namespace Go.Proofs.YtfmpjjhdocejiaaGreat.Sy
open Go.RowKit
structure St where
 S:List (Nat × Option SV)
 M:Rows
 n:Nat
inductive Tr
 | leaf (r:SV)
 | br (b:Bool) (t f:Tr)
 | need (p:Ob) (t:Tr)
 | cut (d:Nat) (s:St)
 | loop (d:Nat) (s:St) (body:St->Tr)
 | bad
structure Post where
 leaf:SV->Prop
 cut:Nat->St->Prop
def lookX:List (Nat × Option SV)->Nat->Option SV
 | [],_=>none
 | p::l,t=>if p.1=t then p.2 else lookX l t
def Wk(y x:SV):Prop:=(∀ γ,y.val γ=x.val γ)/\(y.ok->x.ok)
theorem Wk.rfl'{x:SV}:Wk x x:=⟨fun _=>rfl,id⟩
def subS(S:List (Nat × Option SV))(n:Nat):List (Nat × Option SV)->Prop
 | []=>True
 | (t,some x)::l=>((∃ y,lookX S t=some y/\Wk y x)/\x.lt n=true)/\subS S n l
 | (_,none)::l=>subS S n l
structure Sub (base:Nat) (s s':St):Prop where
 base:base<=s'.n
 S:subS s.S s'.n s'.S
 M:∃ gs:List Nat,s'.M=s.M.filter fun r=>gs.contains r.1
 lt:∀ r∈s'.M,r.2.1.lt s'.n=true/\r.1<s'.n
def Tr.wp(base:Nat):Tr->Post->Prop
 | .leaf r,Q=>Q.leaf r
 | .br b t f,Q=>(b=true->t.wp base Q)/\(b=false->f.wp base Q)
 | .need p t,Q=>p.holds/\t.wp base Q
 | .cut d s,Q=>Q.cut d s
 | .loop d s body,Q=>∃(ι:Type) (st:ι->St) (μ:ι->Nat),(∃ i,Sub base s (st i))/\∀ i,(body (st i)).wp base ⟨Q.leaf,fun d' s'=>if d'=d then ∃ j,μ j<μ i/\Sub base s' (st j)else Q.cut d' s'⟩
 | .bad,_=>False
def needs:List Ob->Tr->Tr
 | [],t=>t
 | p::l,t=>.need p (needs l t)
theorem needs_wp{base:Nat}{Q:Post}{t:Tr}:∀ {l:List Ob},(needs l t).wp base Q->All l/\t.wp base Q
 | [],h=>⟨fun p hp=>(by cases hp),h⟩
 | p::l,h=>by
  have ih:=needs_wp h.2;exact⟨fun q hq=>by
   rcases List.mem_cons.1 hq with rfl | hq
   ·exact h.1
   ·exact ih.1 q hq,ih.2⟩
abbrev look:=lookX
def St.put(s:St)(d:Nat)(x:Option SV):St:=⟨(d,x)::s.S,s.M,s.n⟩
def storeIn(g:Nat)(v:SV)(off:Nat):Rows->Option Rows
 | []=>none
 | r::l=>if r.1=g then (SV.put v off r.2.1).map fun x=>(r.1,x,r.2.2)::l else (storeIn g v off l).map (r::·)
def SV.plain:SV->Bool
 | .w _ | .e=>true
 | .ap h t=>h.plain&&t.plain
 | x=>x.one
theorem SV.plain_any:∀ {x:SV},x.plain=true->x.one=true\/x.many=true
 | .w _,_ | .e,_ | .ap _ _,_=>.inr rfl
 | .b _,_ | .i _ _,_ | .na _,_ | .p _ _ _ _,_ | .s _ _ _ _,_=>.inl rfl
 | .v _,h=>.inl h
theorem SV.plain_cells{γ:Pl}:∀ {x:SV},x.plain=true->∀ c∈x.cells γ,c.oneCell'=true
 | .w x,_,c,hc=>by
  simp only[SV.cells,pw,List.mem_cons,List.not_mem_nil,or_false]at hc;rcases hc with rfl | rfl | rfl | rfl <;> rfl
 | .e,_,c,hc=>by cases hc
 | .ap h t,hp,c,hc=>by
  have hp':h.plain=true/\t.plain=true:=by simpa only[SV.plain,Bool.and_eq_true]using hp
  rcases List.mem_append.1 hc with hc | hc
  ·exact plain_cells hp'.1 c hc
  ·exact plain_cells hp'.2 c hc
 | .b _,_,c,hc | .i _ _,_,c,hc | .na _,_,c,hc | .p _ _ _ _,_,c,hc | .s _ _ _ _,_,c,hc=>by
  cases hc with
  | head=>rfl
  | tail _ h=>cases h
 | .v x,hp,c,hc=>by
  cases hc with
  | head=>exact hp
  | tail _ h=>cases h
def opGo(E:Env)(N:Nat)(o:Oper)(s:St)(k:St->Tr):Tr :=
 match o.op,o.dst with
 | .store T x y,none=>match opnd (look s.S) x,opnd (look s.S) y,tyIn T E.tys with
  | some (.p g off _ z),some v,some ty=>if z=0/\v.plain=true/\v.size=ty.sz then match storeIn g v off s.M with
   | some M=>k ⟨s.S,M,s.n⟩
   | none=>.bad
   else .bad
  | _,_,_=>.bad
 | .alloc T,some d=>match tyIn T E.tys with
  | some ty=>if d<N then k ⟨(d,some (.p s.n 0 0 0))::s.S,(s.n,ty.zero,T)::s.M,s.n+1⟩else .bad
  | none=>.bad
 | .box T x,some d=>match opnd (look s.S) x with
  | some v=>if d<N/\v.plain=true then k ⟨(d,some (.p s.n 0 0 0))::s.S,(s.n,v,T)::s.M,s.n+1⟩else .bad
  | none=>.bad
 | .buildSlice T n parts,some d=>match bsIn T n E.bss,partsOf (look s.S) parts.toList with
  | some b,some l=>if d<N/\l.all (fun x=>decide (x.1<n)&&(x.2.one||x.2.many))=true then match fillS ((List.range n).map fun i=>(i*b.sz,b.sz)) b.zs l with
   | some r=>k ⟨(d,some (.s s.n 0 n n))::s.S,(s.n,r,b.e)::s.M,s.n+1⟩
   | none=>.bad
   else .bad
  | _,_=>.bad
 | .call c,some d=>match c.callee with
  | .value (.func f)=>match opnds (look s.S) c.args.toList with
   | some l=>match E.ctr f s.n s.M l with
    | some (r,p,R)=>if d<N then needs p (k ⟨(d,some r)::s.S,R++s.M,s.n+R.length⟩)else .bad
    | none=>.bad
   | none=>.bad
  | _=>match opVal E (look s.S) s.M (.call c)with
   | some (r,p)=>if d<N then needs p (k (s.put d (some r)))else .bad
   | none=>.bad
 | op,some d=>match opVal E (look s.S) s.M op with
  | some (r,p)=>if d<N then needs p (k (s.put d (some r)))else .bad
  | none=>.bad
 | _,_=>.bad
def underG(g:Bool):List Ob->List Ob
 | []=>[]
 | .same a b::l=>.same (g&&a) b::underG g l
 | .ask p::l=>.ask (g=true->p)::underG g l
 | .eq x y::l=>.eq x y::underG g l
theorem underG_ok{g:Bool}:∀ {l:List Ob},All (underG g l)->g=true->All l
 | [],_,_=>fun p hp=>by cases hp
 | .same a b::l,h,hg=>fun p hp=>by
  rcases List.mem_cons.1 hp with rfl | hp
  ·have h1:(g&&a)=true->b=true:=h _ (.head _)
   rw[hg]at h1;exact h1
  ·exact underG_ok (fun q hq=>h q (.tail _ hq)) hg p hp
 | .eq x y::l,h,hg=>fun p hp=>by
  rcases List.mem_cons.1 hp with rfl | hp
  ·exact h _ (.head _)
  ·exact underG_ok (fun q hq=>h q (.tail _ hq)) hg p hp
 | .ask q::l,h,hg=>fun p hp=>by
  rcases List.mem_cons.1 hp with rfl | hp
  ·have h1:g=true->q:=h _ (.head _)
   exact h1 hg
  ·exact underG_ok (fun q hq=>h q (.tail _ hq)) hg p hp
def stripG:SV->SV
 | .gd _ x=>x
 | x=>x
def tmpsOf(o:Oper):List Nat:=(match o.op with
 | .pick c _ _=>[c]
 | op=>op.operands.toList:List Operand).filterMap fun(x:Operand)=>match x with
 | .tmp t=>some t
 | _=>none
def lkG(lk:Nat->Option SV)(ts:List Nat)(t:Nat):Option SV:=if ts.contains t=true then (lk t).map stripG else lk t
def gEff(b:Bool):SV->Option Bool
 | .b t=>some (if b then t else !t)
 | .gd g (.b t)=>some (g&&(if b then t else !t))
 | .gd g (.v (.bool t))=>some (g&&(if b then t else !t))
 | _=>none
def condG(g:Bool)(lk:Nat->Option SV):List Nat->List Ob
 | []=>[]
 | t::l=>match lk t with
  | some (.gd g' _)=>.same g g'::condG g lk l
  | _=>condG g lk l
theorem condG_mem{g g':Bool}{lk:Nat->Option SV}{y:SV}{t:Nat}:∀ {ts:List Nat},t∈ts->lk t=some (.gd g' y)->Ob.same g g'∈condG g lk ts
 | [],h,_=>by cases h
 | u::l,h,hl=>by
  unfold condG;rcases List.mem_cons.1 h with rfl | h
  ·rw[hl]
   exact .head _
  ·split
   ·exact .tail _ (condG_mem h hl)
   ·exact condG_mem h hl
theorem lkG_ok{γ:Pl}{n:Nat}{lk:Nat->Option SV}{ts:List Nat}{g:Bool}{t:Nat}{x:SV}(hx:lkG lk ts t=some x)(hp:All (condG g lk ts))(hg:g=true):∃ y,lk t=some y/\(y.ok->x.ok)/\(y.lt n=true->x.lt n=true)/\y.val γ=x.val γ:=by
 unfold lkG at hx
 split at hx
 ·rename_i ht
  cases hy:lk t with
  | none=>rw[hy]at hx;cases hx
  | some y =>
   rw[hy]at hx;cases hx;refine⟨y,rfl,?_⟩;cases y with
   | gd g' z =>
    have h1:g'=true:=hp _ (condG_mem (by simpa using ht) hy) hg;subst h1;exact⟨fun h=>h rfl,id,rfl⟩
   | _=>exact⟨id,id,rfl⟩
 ·exact⟨x,hx,id,id,rfl⟩
def valS(E:Env)(n:Nat)(lk:Nat->Option SV)(M:Rows)(o:Oper):Option (SV × List Ob):=match o.op with
 | .call c=>match c.callee with
  | .value (.func f)=>match opnds lk c.args.toList with
   | some l=>match E.ctr f n M l with
    | some (r,p,[])=>some (r,p)
    | _=>none
   | none=>none
  | _=>opVal E lk M (.call c)
 | op=>opVal E lk M op
def opAt(E:Env)(N:Nat)(D:Nat->Option Nat)(o:Oper)(s:St)(k:St->Tr):Tr :=
 match o.guard with
 | none=>opGo E N o s k
 | some (j,b)=>match o.dst,(D j).bind (look s.S)with
  | some d,some (.v (.bool t))=>if d<N then (if t=b then opGo E N o s k else k (s.put d none))else .bad
  | some d,some gx=>if d<N then (match gEff b gx with
   | some e=>match valS E s.n (lkG (look s.S) (tmpsOf o)) s.M o with
    | some (x,p)=>if x.lt s.n=true then needs (underG e p++condG e (look s.S) (tmpsOf o)) (k (s.put d (some (.gd e x))))else .bad
    | none=>.br e (opGo E N o s k) (k (s.put d none))
   | none=>.bad)else .bad
  | _,_=>.bad
def seqX(E:Env)(N:Nat)(D:Nat->Option Nat):List Oper->St->(St->Tr)->Tr
 | [],s,k=>k s
 | o::l,s,k=>opAt E N D o s fun s'=>seqX E N D l s' k
/-! It is so. -/
structure Rel (E:Env) (γ0 γ:Pl) (N:Nat) (w0:World) (s:St) (a:Act) (w:World):Prop where
 ag:Agree E γ0 γ
 base:E.base<=s.n
 z:a.tmps.size=N
 d:a.defers=[]
 k:Holds γ s.n (look s.S) a
 h:HC w0 (s.M.map fun r=>(γ r.1,(r.2.1.cells γ).toArray,r.2.2)) w
 m:∀ r∈s.M,r.2.1.ok/\r.2.1.lt s.n=true/\r.1<s.n
section
variable {E:Env} {γ0 γ:Pl} {N:Nat} {w0 w wx w':World} {s:St} {a:Act} {o:Oper} {x:SV}
theorem Rel.lies(h:Rel E γ0 γ N w0 s a w):Lies γ s.n s.M w:=fun r hr =>
 ⟨(h.h.rows _ (List.mem_map.2 ⟨r,hr,rfl⟩)).2,(h.m r hr).1,(h.m r hr).2.1⟩
theorem Rel.put{d:Nat}(h:Rel E γ0 γ N w0 s a w)(hd:d<N)(ho:x.ok)(hl:x.lt s.n=true):Rel E γ0 γ N w0 (s.put d (some x)) (a.put (some d) (x.val γ)) w :=
 ⟨h.ag,h.base,by rw[put_size];exact h.z,by rw[put_defers];exact h.d,fun t y hy=>by
  unfold St.put look lookX at hy;dsimp only at hy
  split at hy
  ·rename_i e
   cases hy;subst e;exact⟨put_same _ _ _ (by rw[h.z];exact hd),ho,hl⟩
  ·rename_i e
   have:=h.k t y hy;exact⟨by rw[put_other _ _ _ _ (fun q=>e (Option.some.inj q))];exact this.1,this.2⟩,h.h,h.m⟩
theorem Rel.forget{d:Nat}{v:Value}(h:Rel E γ0 γ N w0 s a w):Rel E γ0 γ N w0 (s.put d none) (a.put (some d) v) w :=
 ⟨h.ag,h.base,by rw[put_size];exact h.z,by rw[put_defers];exact h.d,fun t y hy=>by
  unfold St.put look lookX at hy;dsimp only at hy
  split at hy
  ·cases hy
  ·rename_i e
   have:=h.k t y hy;exact⟨by rw[put_other _ _ _ _ (fun q=>e (Option.some.inj q))];exact this.1,this.2⟩,h.h,h.m⟩
theorem Rel.below(h:Rel E γ0 γ N w0 s a w)(hb:Below w.heap.size w w'):Rel E γ0 γ N w0 s a w':=⟨h.ag,h.base,h.z,h.d,h.k,h.h.below hb,h.m⟩
theorem Rel.made{d:Nat}{R:Rows}{δ:Pl}(h:Rel E γ0 γ N w0 s a w)(hd:d<N)(ho:x.ok)(hl:x.lt (s.n+R.length)=true)(hR:∀ q∈R,q.2.1.ok/\q.2.1.lt (s.n+R.length)=true/\s.n<=q.1/\q.1<s.n+R.length)(e:∀ k,k<s.n->δ k=γ k)(hb:Below w.heap.size w w')
  (h1:∀ q∈R,w.heap.size<=δ q.1/\w'.heap[δ q.1]?=some (.cells (q.2.1.cells δ).toArray q.2.2 (0,0))) (h2:R.Pairwise fun p q=>δ p.1≠δ q.1):Rel E γ0 δ N w0 ⟨(d,some x)::s.S,R++s.M,s.n+R.length⟩ (a.put (some d) (x.val δ)) w':=by
 have e':∀ k,k<s.n->γ k=δ k:=fun k hk=>(e k hk).symm;have hh:=h.h.below hb;have em:(s.M.map fun r=>(δ r.1,(r.2.1.cells δ).toArray,r.2.2))=s.M.map fun r=>(γ r.1,(r.2.1.cells γ).toArray,r.2.2) :=
  List.map_congr_left fun r hr=>by
   have:=h.m r hr;rw[<- e' r.1 this.2.2,(SV.lt_same e' this.2.1).2.1]
 refine⟨fun k hk=>(e k (Nat.lt_of_lt_of_le hk h.base)).trans (h.ag k hk),Nat.le_trans h.base (Nat.le_add_right _ _),by rw[put_size];exact h.z,by rw[put_defers];exact h.d,fun t y hy=>?_,?_,fun r hr=>?_⟩
 ·unfold look lookX at hy
  dsimp only at hy
  split at hy
  ·rename_i q
   cases hy;subst q;exact⟨put_same _ _ _ (by rw[h.z];exact hd),ho,hl⟩
  ·rename_i q
   have:=h.k t y hy;refine⟨?_,this.2.1,SV.lt_mono (Nat.le_add_right _ _) this.2.2⟩;rw[put_other _ _ _ _ (fun c=>q (Option.some.inj c)),this.1];exact(SV.lt_same e' this.2.2).2.2
 ·show HC w0 ((R++s.M).map fun r=>(δ r.1,(r.2.1.cells δ).toArray,r.2.2)) _
  rw[List.map_append,em];refine⟨hh.old,fun p hp=>?_,List.pairwise_append.2 ⟨List.pairwise_map.2 h2,hh.nd,fun p hp q hq=>?_⟩⟩
  ·rcases List.mem_append.1 hp with hp | hp
   ·obtain⟨q,hq,rfl⟩:=List.mem_map.1 hp
    have:=h1 q hq;exact⟨Nat.le_trans h.h.old.size this.1,this.2⟩
   ·exact hh.rows p hp
  ·obtain⟨u,hu,rfl⟩:=List.mem_map.1 hp
   have g1:=(h1 u hu).1;have g2:=(Array.getElem?_eq_some_iff.1 (h.h.rows q hq).2).1;show δ u.1≠q.1;omega
 ·rcases List.mem_append.1 hr with hr | hr
  ·have:=hR r hr
   exact⟨this.1,this.2.1,this.2.2.2⟩
  ·have:=h.m r hr
   exact⟨this.1,SV.lt_mono (Nat.le_add_right _ _) this.2.1,Nat.lt_of_lt_of_le this.2.2 (Nat.le_add_right _ _)⟩
theorem Rel.newS{d n:Nat}{T:TypeId}(h:Rel E γ0 γ N w0 s a w)(hd:d<N)(ho:x.ok)(hl:x.lt s.n=true) :
  ∃ δ,Rel E γ0 δ N w0 ⟨(d,some (.s s.n 0 n n))::s.S,(s.n,x,T)::s.M,s.n+1⟩ (a.put (some d) (.slice (some ⟨w.heap.size,0,none⟩) n n)) (w.alloc (.cells (x.cells γ).toArray T)):=by
 obtain⟨δ,hδ⟩:∃ δ:Pl,∀ k,δ k=if k=s.n then w.heap.size else γ k:=⟨_,fun _=>rfl⟩
 have e:∀ k,k<s.n->γ k=δ k:=fun k hk=>by rw[hδ,if_neg (by omega)]
 have q:(SV.s s.n 0 n n).val δ=.slice (some ⟨w.heap.size,0,none⟩) n n:=by
  show Value.slice (some ⟨δ s.n,0,none⟩) n n=_;rw[hδ,if_pos rfl]
 refine⟨δ,?_⟩;rw[<- q];refine h.made (R:=[(s.n,x,T)]) (x:=.s s.n 0 n n) hd trivial (decide_eq_true (Nat.lt_succ_self _)) (fun p hp=>?_) (fun k hk=>(e k hk).symm) ((Below.refl _ _).alloc (Nat.le_refl _) _) (fun p hp=>?_) (List.pairwise_singleton _ _)
 ·simp only[List.mem_cons,List.not_mem_nil,or_false]at hp
  subst hp;exact⟨ho,SV.lt_mono (Nat.le_succ _) hl,Nat.le_refl _,Nat.lt_succ_self _⟩
 ·simp only[List.mem_cons,List.not_mem_nil,or_false]at hp
  subst hp;refine⟨by rw[hδ,if_pos rfl];exact Nat.le_refl _,?_⟩;show(w.alloc _).heap[δ s.n]?=some (.cells (x.cells δ).toArray T (0,0));rw[hδ,if_pos rfl,<- (SV.lt_same e hl).2.1];exact heap_alloc_new _ _
theorem Rel.new{d:Nat}{T:TypeId}(h:Rel E γ0 γ N w0 s a w)(hd:d<N)(ho:x.ok)(hl:x.lt s.n=true) :
  ∃ δ,Rel E γ0 δ N w0 ⟨(d,some (.p s.n 0 0 0))::s.S,(s.n,x,T)::s.M,s.n+1⟩ (a.put (some d) (.pointer (some ⟨w.heap.size,0,none⟩))) (w.alloc (.cells (x.cells γ).toArray T)):=by
 obtain⟨δ,hδ⟩:∃ δ:Pl,∀ k,δ k=if k=s.n then w.heap.size else γ k:=⟨_,fun _=>rfl⟩
 have e:∀ k,k<s.n->γ k=δ k:=fun k hk=>by rw[hδ,if_neg (by omega)]
 refine⟨δ,fun k hk=>?_,Nat.le_succ_of_le h.base,by rw[put_size];exact h.z,by rw[put_defers];exact h.d,fun t y hy=>?_,?_,fun r hr=>?_⟩
 ·rw[<- e k (Nat.lt_of_lt_of_le hk h.base)];exact h.ag k hk
 ·unfold look lookX at hy
  dsimp only at hy
  split at hy
  ·rename_i q
   cases hy;subst q;refine⟨?_,trivial,decide_eq_true (Nat.lt_succ_self _)⟩;rw[put_same _ _ _ (by rw[h.z];exact hd)];show _=Value.pointer (some ⟨δ s.n,0+0*0,none⟩);rw[hδ,if_pos rfl]
  ·rename_i q
   have:=h.k t y hy;refine⟨?_,this.2.1,SV.lt_mono (Nat.le_succ _) this.2.2⟩;rw[put_other _ _ _ _ (fun c=>q (Option.some.inj c)),this.1];exact(SV.lt_same e this.2.2).2.2
 ·have hh:=h.h.new (x.cells γ).toArray T
  have e1:(s.M.map fun r=>(δ r.1,(r.2.1.cells δ).toArray,r.2.2))=s.M.map fun r=>(γ r.1,(r.2.1.cells γ).toArray,r.2.2) :=
   List.map_congr_left fun r hr=>by
    have:=h.m r hr;rw[<- e r.1 this.2.2,(SV.lt_same e this.2.1).2.1]
  show HC w0 ((δ s.n,(x.cells δ).toArray,T)::s.M.map fun r=>(δ r.1,(r.2.1.cells δ).toArray,r.2.2)) _;rw[e1,<- (SV.lt_same e hl).2.1,hδ,if_pos rfl];exact hh
 ·rcases List.mem_cons.1 hr with rfl | hr
  ·exact⟨ho,SV.lt_mono (Nat.le_succ _) hl,Nat.lt_succ_self _⟩
  ·have:=h.m r hr
   exact⟨this.1,SV.lt_mono (Nat.le_succ _) this.2.1,Nat.lt_succ_of_lt this.2.2⟩
theorem setRow_self{g:Nat}{T:TypeId}{cs:Array Value}(hg:w.heap[g]?=some (.cells cs T (0,0))):w.setRow g cs=w:=by
 have e:(w.heap.modify g fun
   | .cells _ elem frozen=>.cells cs elem frozen
   | o=>o)=w.heap:=by
  apply Array.ext_getElem?;intro i;rw[Array.getElem?_modify];by_cases e:g=i
  ·subst e
   rw[if_pos rfl,hg];rfl
  ·rw[if_neg e]
 exact congrArg (fun h=>({ w with heap:=h }:World)) e
theorem setCells_row(g:Nat)(T:TypeId):∀(vs:List Value) (off:Nat) (w:World) (cs:Array Value),w.heap[g]?=some (.cells cs T (0,0))->∃ c',w.setCells g off vs=w.setRow g c'/\c'.size=cs.size/\(off+vs.length<=cs.size->∀ k:Nat,c'[k]?=if off<=k/\k<off+vs.length then vs[k - off]? else cs[k]?)
 | [],off,w,cs,hg=>⟨cs,(setRow_self hg).symm,rfl,fun _ k=>by rw[if_neg (by simp only[List.length_nil];omega)]⟩
 | v::vs,off,w,cs,hg=>by
  have h1:=setCell_eq_setRow w g off cs T (0,0) v hg;obtain⟨c',h2,h3,h4⟩:=setCells_row g T vs (off+1) (w.setRow g (cs.setIfInBounds off v)) (cs.setIfInBounds off v) (setRow_heap w g cs _ T _ hg);refine⟨c',?_,by rw[h3,Array.size_setIfInBounds],fun hf k=>?_⟩
  ·show(w.setCell ⟨g,off,none⟩ v).setCells g (off+1) vs=_
   rw[h1,h2,setRow_setRow]
  ·simp only[List.length_cons]at hf
   rw[h4 (by rw[Array.size_setIfInBounds];omega) k];simp only[List.length_cons];by_cases e:k=off
   ·subst e
    rw[if_neg (by omega),if_pos (by omega),Nat.sub_self,Array.getElem?_setIfInBounds_self_of_lt (by omega)];rfl
   ·by_cases h5:off+1<=k/\k<off+1+vs.length
    ·rw[if_pos h5,if_pos (by omega),show k - off=(k - (off+1))+1 by omega,List.getElem?_cons_succ]
    ·rw[if_neg h5,if_neg (by omega),Array.getElem?_setIfInBounds_ne (by omega)]
theorem store_ok{P:Program}{g off:Nat}{T t:TypeId}{x y v:SV}(hg:w.heap[g]?=some (.cells (x.cells γ).toArray t (0,0)))(hs:(P.info? T).map (·.size)=some v.size)(hp:SV.put v off x=some y)(hv:v.plain=true) :
  (Instr.storeAt T (.pointer (some ⟨g,off,none⟩)) (v.val γ)).run P w=.ok () (w.setRow g (y.cells γ).toArray):=by
 have q:=SV.put_ok γ hp;have qf:=q.fits;have lx:=SV.cells_len γ x;have lv:=SV.cells_len γ v;have hc:(v.val γ).cells=(v.cells γ).toArray:=by
  rcases SV.plain_any hv with h1 | h1
  ·rw[SV.val_one h1,cells_one (SV.one_cell h1)]
  ·rw[SV.val_many h1]
   rfl
 obtain⟨c',h2,h3,h4⟩:=setCells_row g t (v.cells γ) off w _ hg;have e:c'=(y.cells γ).toArray:=by
  apply Array.ext_getElem?;intro k;rw[h4 (by simp only[List.size_toArray];omega) k];simp only[List.getElem?_toArray];rw[q.cells k,lv]
 subst e;have hst:=run_storeCells_cells (P:=P) g off (v.cells γ) 0 w (fun j hj=>by
   rw[cell_of_row w g _ _ t _ hg];simp only[List.getElem?_toArray,Option.isSome_iff_exists];exact⟨_,List.getElem?_eq_getElem (by omega)⟩) (fun j hj=>frozen_of_row w g _ _ t hg) (SV.plain_cells hv)
 rw[Nat.add_zero,h2]at hst;cases hq:P.info? T with
 | none=>rw[hq]at hs;cases hs
 | some i =>
  rw[hq]at hs;have hs':i.size=v.size:=Option.some.inj hs;have hl:(v.cells γ).length=i.size:=by omega
  simp[Instr.storeAt,Instr.sureAddr,storeVar,sizeOf,typeInfo,hq,hc,hl,hst]
theorem storeIn_split{g off:Nat}{v:SV}:∀ {M M':Rows},storeIn g v off M=some M'->∃ A B x T y,M=A++(g,x,T)::B/\M'=A++(g,y,T)::B/\SV.put v off x=some y
 | [],_,h=>by cases h
 | r::l,M',h=>by
  unfold storeIn at h
  split at h
  ·rename_i e
   cases hp:SV.put v off r.2.1 with
   | none=>rw[hp]at h;cases h
   | some y =>
    rw[hp]at h;cases h;subst e;exact⟨[],l,r.2.1,r.2.2,y,rfl,rfl,hp⟩
  ·cases hp:storeIn g v off l with
   | none=>rw[hp]at h;cases h
   | some l' =>
    rw[hp]at h;cases h;obtain⟨A,B,x,T,y,h1,h2,h3⟩:=storeIn_split hp;exact⟨r::A,B,x,T,y,by rw[h1];rfl,by rw[h2];rfl,h3⟩
theorem Rel.store{g off:Nat}{v:SV}{M:Rows}{T:TypeId}(h:Rel E γ0 γ N w0 s a w)(hs:storeIn g v off s.M=some M)(hv:v.plain=true)(ho:v.ok)(hl:v.lt s.n=true)(hT:(E.P.info? T).map (·.size)=some v.size) :
  ∃ w',(Instr.storeAt T (.pointer (some ⟨γ g,off,none⟩)) (v.val γ)).run E.P w=.ok () w'/\Rel E γ0 γ N w0 ⟨s.S,M,s.n⟩ a w':=by
 obtain⟨A,B,x,t,y,h1,h2,h3⟩:=storeIn_split hs;have hm:=h.m (g,x,t) (by rw[h1];simp);have hr:=h.lies (g,x,t) (by rw[h1];simp);have q:=SV.put_ok γ h3;refine⟨_,store_ok hr.1 hT h3 hv,h.ag,h.base,h.z,h.d,h.k,?_,fun r hr=>?_⟩
 ·have hh:=h.h
  rw[h1,List.map_append,List.map_cons]at hh;have:=HC.set _ _ hh (y.cells γ).toArray;show HC w0 (M.map _) _;rw[h2,List.map_append,List.map_cons];exact this
 ·have hr':r∈M:=hr
  rw[h2]at hr';rcases List.mem_append.1 hr' with hr' | hr'
  ·exact h.m r (by rw[h1];exact List.mem_append_left _ hr')
  ·rcases List.mem_cons.1 hr' with rfl | hr'
   ·exact⟨q.ok hm.1 ho,q.lt _ hm.2.1 hl,hm.2.2⟩
   ·exact h.m r (by rw[h1];exact List.mem_append_right _ (.tail _ hr'))
end
end Go.Proofs.YtfmpjjhdocejiaaGreat.Sy
