/- Regions that draw their order and lay results into fresh blocks, however many, or hold what callees made: what is known behind each operation, by a list. No program is named here. (Cut to what is reached, written closely: FAdd · FOpen · Many.) -/
import Derived.Test.YthnckclbeecnmaaGreatP15
import Derived.Test.YthnckclbeecnmaaGreatRows
import Derived.WalkKit
import Derived.ProofKit
import Derived.OpenShut
import Derived.ChangeSlices
import Derived.Deep.DeepHandedRow
import Derived.Lib.LaidTab
import Derived.Laws.IdiomArrays
import Derived.Test.YthnckclbeecnmaaGreatP4
set_option linter.all false
set_option maxRecDepth 100000
set_option maxHeartbeats 8000000
namespace Go.Proofs.YthnckclbeecnmaaGreat
open Go.RowKit
structure CO (w:World) (F m a b:Nat) (wx:World):Prop where
 old:Below w.heap.size w wx
 fld:FldAt wx F m
 hF:F<w.heap.size
 r0:∃ x,wx.heap[w.heap.size]?=some (.cells (pw x) 24 (0,0))/\x<2^256/\x%m=a%m
 r1:∃ x,wx.heap[w.heap.size+1]?=some (.cells (pw x) 24 (0,0))/\x<2^256/\x%m=b%m
 r2:wx.heap[w.heap.size+1+1]?=some (.cells #[.int .u64 0,.int .u64 0,.int .u64 0,.int .u64 0] 24 (0,0))
theorem CO.below{w wx w':World}{F m a b:Nat}(c:CO w F m a b wx)(hb:Below wx.heap.size wx w'):CO w F m a b w':=by
 obtain⟨x,h1,h2⟩:=c.r0;obtain⟨y,h3,h4⟩:=c.r1;exact⟨c.old.trans (hb.mono c.old.size),c.fld.below hb,c.hF,⟨x,(hb.block _ (Array.getElem?_eq_some_iff.1 h1).1).trans h1,h2⟩,⟨y,(hb.block _ (Array.getElem?_eq_some_iff.1 h3).1).trans h3,h4⟩,(hb.block _ (Array.getElem?_eq_some_iff.1 c.r2).1).trans c.r2⟩
theorem CO.drew{w wx:World}{F m a b:Nat}(c:CO w F m a b wx):CO w F m a b wx.drew:=c.below (Below.drew (Below.refl _ _))
theorem fld_row{w:World}{F m g:Nat}{cs:Array Value}(h:FldAt w F m)(hg:F≠g):FldAt (w.setRow g cs) F m:=⟨(setRow_other _ _ _ _ hg).trans h.row,h.odd,h.big,h.lt⟩
theorem CO.set0{w wx:World}{F m a b:Nat}(c:CO w F m a b wx):CO w F m a b (wx.setRow w.heap.size (pw (a%m))):=by
 obtain⟨x,h1,h2⟩:=c.r0;obtain⟨y,h3,h4⟩:=c.r1;have hF:=c.hF;exact⟨below_setRow c.old (Nat.le_refl _) _,fld_row c.fld (by omega),c.hF,⟨a%m,setRow_heap _ _ _ _ _ _ h1,Nat.lt_trans (Nat.mod_lt _ (by have:=c.fld.big;omega)) c.fld.lt,Nat.mod_mod _ _⟩,⟨y,(setRow_other _ _ _ _ (by omega)).trans h3,h4⟩,(setRow_other _ _ _ _ (by omega)).trans c.r2⟩
theorem CO.set1{w wx:World}{F m a b:Nat}(c:CO w F m a b wx):CO w F m a b (wx.setRow (w.heap.size+1) (pw (b%m))):=by
 obtain⟨x,h1,h2⟩:=c.r0;obtain⟨y,h3,h4⟩:=c.r1;have hF:=c.hF;exact⟨below_setRow c.old (by omega) _,fld_row c.fld (by omega),c.hF,⟨x,(setRow_other _ _ _ _ (by omega)).trans h1,h2⟩,⟨b%m,setRow_heap _ _ _ _ _ _ h3,Nat.lt_trans (Nat.mod_lt _ (by have:=c.fld.big;omega)) c.fld.lt,Nat.mod_mod _ _⟩,(setRow_other _ _ _ _ (by omega)).trans c.r2⟩
theorem CO.start{w:World}{F m a b:Nat}(h:FldAt w F m)(ha:a<2^256)(hb:b<2^256):CO w F m a b (((w.alloc (.cells (pw a) 24)).alloc (.cells (pw b) 24)).alloc (.cells #[.int .u64 0,.int .u64 0,.int .u64 0,.int .u64 0] 24)):=by
 have c:=CW.two h a b;exact⟨c.old,c.fld,c.hF,⟨a,c.is _ _ (by simp),ha,rfl⟩,⟨b,c.is _ _ (by simp),hb,rfl⟩,c.is _ _ (by simp)⟩
theorem CO.done{w wx:World}{F m a b:Nat}(c:CO w F m a b wx)(h0:wx.heap[w.heap.size]?=some (.cells (pw (a%m)) 24 (0,0)))(h1:wx.heap[w.heap.size+1]?=some (.cells (pw (b%m)) 24 (0,0))):CW w F m [(w.heap.size+1+1,#[.int .u64 0,.int .u64 0,.int .u64 0,.int .u64 0]),(w.heap.size+1,pw (b%m)),(w.heap.size,pw (a%m))] wx :=
 ⟨c.old,c.fld,c.hF,fun p hp=>by
  simp only[List.mem_cons,List.not_mem_nil,or_false]at hp;rcases hp with rfl | rfl | rfl
  ·exact c.r2
  ·exact h1
  ·exact h0⟩
def RO(w:World)(x y:Nat)(wa wb:World):Prop:=(wa.heap[w.heap.size]?=some (.cells (pw x) 24 (0,0))->wb.heap[w.heap.size]?=some (.cells (pw x) 24 (0,0)))/\(wa.heap[w.heap.size+1]?=some (.cells (pw y) 24 (0,0))->wb.heap[w.heap.size+1]?=some (.cells (pw y) 24 (0,0)))
theorem RO.refl(w:World)(x y:Nat)(wa:World):RO w x y wa wa:=⟨id,id⟩
theorem RO.of{w wa wb:World}{x y:Nat}(hb:Below wa.heap.size wa wb):RO w x y wa wb:=⟨fun h=>(hb.block _ (Array.getElem?_eq_some_iff.1 h).1).trans h,fun h=>(hb.block _ (Array.getElem?_eq_some_iff.1 h).1).trans h⟩
theorem store_w{g x:Nat}{w:World}{cs:Array Value}(hs:cs.size=4)(hg:w.heap[g]?=some (.cells cs 24 (0,0))):(Instr.storeAt 24 (.pointer (some ⟨g,0,none⟩)) (.agg (pw x))).run Tryz.prog w=.ok () (w.setRow g (pw x)):=store_pw hs hg
theorem add_less{m x y:Nat}(hx:x<m)(hy:y<m)(hm:m<2^256):pw (lessV m ((x+y)%2^256) (decide ((x+y)%2^256<x)))=pw ((x+y)%m):=by
 apply pw_congr;unfold lessV;rw[Nat.mod_mod];by_cases h:x+y<m
 ·rw[Nat.mod_eq_of_lt h,Nat.mod_eq_of_lt (show x+y<2^256 by omega),if_neg (by simp;omega)]
  exact Nat.mod_eq_of_lt (by omega)
 ·have e:(x+y)%m=x+y - m:=by rw[Nat.mod_eq_sub_mod (by omega),Nat.mod_eq_of_lt (by omega)]
  rw[e];by_cases h2:x+y<2^256
  ·rw[Nat.mod_eq_of_lt h2,if_pos (by right;omega),show x+y+(2^256 - m)=x+y - m+2^256 by omega,Nat.add_mod_right]
  ·rw[if_pos (by left;simp;omega)]
   omega
theorem sub_less{m x y:Nat}(hx:x<m)(hy:y<m)(hm:m<2^256):(x<y->pw ((x+(2^256 - y))%2^256+m)=pw ((x+(m - y))%m))/\(¬x<y->pw ((x+(2^256 - y))%2^256)=pw ((x+(m - y))%m)):=by
 refine⟨fun h=>pw_congr ?_,fun h=>pw_congr ?_⟩
 ·rw[Nat.mod_eq_of_lt (show x+(m - y)<m by omega)]
  omega
 ·rw[Nat.mod_eq_sub_mod (show m<=x+(m - y) by omega),Nat.mod_eq_of_lt (show x+(m - y) - m<m by omega)]
  omega
-- WHAT Add COMES TO.
theorem fadd_any(F m a b:Nat)(ha:a<2^256)(hb:b<2^256)(w:World)(hF:FldAt w F m):Calls Tryz.prog 62 #[.pointer (some ⟨F,0,none⟩),.agg (pw a),.agg (pw b)] w fun e w'=>e=.returned (.agg (pw ((a+b)%m)))/\Below w.heap.size w w':=by
 have H0:=Lib.hid (CO.start hF ha hb);have hlt:∀ z,z%m<m:=fun z=>Nat.mod_lt _ (by have:=hF.big;omega);have HE:=Lib.hid (add_less (hlt a) (hlt b) hF.lt);have HN:=Lib.hid (show a%m<2^256/\b%m<2^256 from⟨Nat.lt_trans (hlt a) hF.lt,Nat.lt_trans (hlt b) hF.lt⟩);have HR:=Lib.hid (show(a+b)%m=(a%m+b%m)%m from Nat.add_mod _ _ _);clear hF ha hb hlt;go_enter Tryz.func62,Tryz.ntmps62
 go_wp2_with fail
 refine region_tie (CO w F m a b) (fun i s wx=>match i with | 0=>s 8=.pointer (some ⟨F,0,none⟩) | 1=>∃ x,s 9=.agg (pw x)/\x<2^256/\x%m=a%m | 2=>s 10=.agg (pw (a%m)) | 3=>s 11=.pointer (some ⟨F,0,none⟩) | 4=>∃ x,s 12=.agg (pw x)/\x<2^256/\x%m=b%m | 5=>s 13=.agg (pw (b%m)) | 6=>wx.heap[w.heap.size]?=some (.cells (pw (a%m)) 24 (0,0)) | 7=>wx.heap[w.heap.size+1]?=some (.cells (pw (b%m)) 24 (0,0)) | _=>True) (RO w (a%m) (b%m)) (fun i=>match i with | 0=>[8] | 1=>[9] | 2=>[10] | 3=>[11] | 4=>[12] | 5=>[13] | 6=>[] | 7=>[] | _=>[]) (fun i=>i) (by kernel_rfl) (by kernel_rfl) H0.out.drew ?_ ?_ ?_ ?_
 ·intro i s s' wx he hp
  match i,he,hp with
  | 0,he,hp=>exact(he 8 (by simp)).symm.trans hp
  | 1,he,hp=>obtain⟨x,h1,h2⟩:=hp;exact⟨x,(he 9 (by simp)).symm.trans h1,h2⟩
  | 2,he,hp=>exact(he 10 (by simp)).symm.trans hp
  | 3,he,hp=>exact(he 11 (by simp)).symm.trans hp
  | 4,he,hp=>obtain⟨x,h1,h2⟩:=hp;exact⟨x,(he 12 (by simp)).symm.trans h1,h2⟩
  | 5,he,hp=>exact(he 13 (by simp)).symm.trans hp
  | 6,he,hp=>exact hp
  | 7,he,hp=>exact hp
  | _+8,_,_=>trivial
 ·intro i s wa wb hR hp
  match i,hp with
  | 0,hp=>exact hp
  | 1,hp=>exact hp
  | 2,hp=>exact hp
  | 3,hp=>exact hp
  | 4,hp=>exact hp
  | 5,hp=>exact hp
  | 6,hp=>exact hR.1 hp
  | 7,hp=>exact hR.2 hp
  | _+8,_=>trivial
 ·refine⟨?_,?_,?_,?_,?_,?_,?_,?_,trivial⟩
  ·intro a_ wx hC hsz hK
   have h0:a_.tmps.getD 0 undef=(.pointer (some ⟨F,0,none⟩)):=hK.1 0 (by kernel_rfl);exact tt_val (.pointer (some ⟨F,0,none⟩)) (by kernel_rfl) (by rw[<- h0];kernel_rfl) hC (slots_put _ _ _ (by rw[hsz];exact of_decide_eq_true (by kernel_rfl))) (RO.refl _ _ _ _)
  ·intro a_ wx hC hsz hK
   have h0:a_.tmps.getD 4 undef=(.pointer (some ⟨w.heap.size,0,none⟩)):=hK.1 4 (by kernel_rfl);obtain⟨x,h1,h2⟩:=hC.r0;exact tt_load 24 (.tmp 4) (.pointer (some ⟨w.heap.size,0,none⟩)) (.agg (pw x)) rfl (by kernel_rfl) h0 (ld_pw h1) hC ⟨x,(slots_put _ _ _ (by rw[hsz];exact of_decide_eq_true (by kernel_rfl))),h2⟩ (RO.refl _ _ _ _)
  ·intro a_ wx hC hsz hK
   have h0:a_.tmps.getD 8 undef=(.pointer (some ⟨F,0,none⟩)):=hK.2 ⟨0,.data⟩ (by simp) rfl _ rfl;obtain⟨x,h1,h2,h3⟩:=hK.2 ⟨1,.data⟩ (by simp) rfl _ rfl;refine tt_call 70 #[a_.tmps.getD 8 undef,a_.tmps.getD 9 undef] (by kernel_rfl) (by kernel_rfl) ?_;rw[h0,show a_.tmps.getD 9 undef=_ from h1];exact(fof_any F m x h2 wx hC.fld).mono fun e w' hh=>⟨.agg (pw (a%m)),by rw[hh.1,h3],hC.below hh.2,(slots_put _ _ _ (by rw[hsz];exact of_decide_eq_true (by kernel_rfl))),RO.of hh.2⟩
  ·intro a_ wx hC hsz hK
   have h0:a_.tmps.getD 0 undef=(.pointer (some ⟨F,0,none⟩)):=hK.1 0 (by kernel_rfl);exact tt_val (.pointer (some ⟨F,0,none⟩)) (by kernel_rfl) (by rw[<- h0];kernel_rfl) hC (slots_put _ _ _ (by rw[hsz];exact of_decide_eq_true (by kernel_rfl))) (RO.refl _ _ _ _)
  ·intro a_ wx hC hsz hK
   have h0:a_.tmps.getD 5 undef=(.pointer (some ⟨w.heap.size+1,0,none⟩)):=hK.1 5 (by kernel_rfl);obtain⟨x,h1,h2⟩:=hC.r1;exact tt_load 24 (.tmp 5) (.pointer (some ⟨w.heap.size+1,0,none⟩)) (.agg (pw x)) rfl (by kernel_rfl) h0 (ld_pw h1) hC ⟨x,(slots_put _ _ _ (by rw[hsz];exact of_decide_eq_true (by kernel_rfl))),h2⟩ (RO.refl _ _ _ _)
  ·intro a_ wx hC hsz hK
   have h0:a_.tmps.getD 11 undef=(.pointer (some ⟨F,0,none⟩)):=hK.2 ⟨3,.data⟩ (by simp) rfl _ rfl;obtain⟨x,h1,h2,h3⟩:=hK.2 ⟨4,.data⟩ (by simp) rfl _ rfl;refine tt_call 70 #[a_.tmps.getD 11 undef,a_.tmps.getD 12 undef] (by kernel_rfl) (by kernel_rfl) ?_;rw[h0,show a_.tmps.getD 12 undef=_ from h1];exact(fof_any F m x h2 wx hC.fld).mono fun e w' hh=>⟨.agg (pw (b%m)),by rw[hh.1,h3],hC.below hh.2,(slots_put _ _ _ (by rw[hsz];exact of_decide_eq_true (by kernel_rfl))),RO.of hh.2⟩
  ·intro a_ wx hC hsz hK
   have h0:a_.tmps.getD 4 undef=(.pointer (some ⟨w.heap.size,0,none⟩)):=hK.1 4 (by kernel_rfl);have h1:a_.tmps.getD 10 undef=.agg (pw (a%m)):=hK.2 ⟨2,.data⟩ (by simp) rfl _ rfl;obtain⟨x,h2,h3⟩:=hC.r0;exact tt_store (by kernel_rfl) rfl (run_st 24 (.tmp 4) (.tmp 10) _ _ rfl h0 h1 (store_w (pw_size _) h2)) hC.set0 (setRow_heap _ _ _ _ _ _ h2) ⟨fun _=>setRow_heap _ _ _ _ _ _ h2,fun h=>(setRow_other _ _ _ _ (by omega)).trans h⟩
  ·intro a_ wx hC hsz hK
   have h0:a_.tmps.getD 5 undef=(.pointer (some ⟨w.heap.size+1,0,none⟩)):=hK.1 5 (by kernel_rfl);have h1:a_.tmps.getD 13 undef=.agg (pw (b%m)):=hK.2 ⟨5,.data⟩ (by simp) rfl _ rfl;obtain⟨x,h2,h3⟩:=hC.r1;exact tt_store (by kernel_rfl) rfl (run_st 24 (.tmp 5) (.tmp 13) _ _ rfl h0 h1 (store_w (pw_size _) h2)) hC.set1 (setRow_heap _ _ _ _ _ _ h2) ⟨fun h=>(setRow_other _ _ _ _ (by omega)).trans h,fun _=>setRow_heap _ _ _ _ _ _ h2⟩
 intro f1 wy hCy hf;have k0:=hf 6 _ rfl;have k1:=hf 7 _ rfl;have H1:=Lib.hid (hCy.done k0 k1);clear hf hCy k0 k1 H0;simp only[putAll,Act.put,List.setIfInBounds_toArray,List.set_cons_succ,List.set_cons_zero];obtain⟨x,hx⟩:∃ x,a%m=x:=⟨_,rfl⟩
 obtain⟨y,hy⟩:∃ y,b%m=y:=⟨_,rfl⟩
 rw[hx,hy]at H1 HE HN HR;clear hx hy
 go_wp2_with (first | (refine wpList_ld rfl 24 _ rfl (.pointer (some ⟨w.heap.size,0,none⟩)) (.agg (pw x)) rfl (ld_pw (by exact H1.out.is _ _ (by simp))) ?_) | (refine wpList_ld rfl 24 _ rfl (.pointer (some ⟨w.heap.size+1,0,none⟩)) (.agg (pw y)) rfl (ld_pw (by exact H1.out.is _ _ (by simp))) ?_))
 refine(add_pw x y _).mono ?_;rintro e w5 ⟨rfl,hb5⟩;rw[show pw (x+y)=pw ((x+y)%2^256) from pw_congr (by rw[Nat.mod_mod])];obtain⟨z,hz⟩:∃ z,(x+y)%2^256=z:=⟨_,rfl⟩
 have HZ:=Lib.hid (show z<2^256 from by rw[<- hz];exact Nat.mod_lt _ (by omega));rw[hz]at HE |-
 clear hz;obtain⟨g,hg⟩:∃ g,w5.heap.size=g:=⟨_,rfl⟩
 have H5:=Lib.hid (show CW w F m [(g,pw z),(w.heap.size+1+1,#[.int .u64 0,.int .u64 0,.int .u64 0,.int .u64 0]),(w.heap.size,pw x)] ((w5.alloc (.cells #[.int .u64 0,.int .u64 0,.int .u64 0,.int .u64 0] 24)).setRow w5.heap.size (pw z)) from by
  rw[<- hg];have c:=(H1.out.below hb5).new #[.int .u64 0,.int .u64 0,.int .u64 0,.int .u64 0];have h9:=(H1.out.below hb5).old.size;have h8:w.heap.size+1+1<w5.heap.size:=(Array.getElem?_eq_some_iff.1 ((H1.out.below hb5).is (w.heap.size+1+1) #[.int .u64 0,.int .u64 0,.int .u64 0,.int .u64 0] (by simp))).1;exact c.put w5.heap.size #[.int .u64 0,.int .u64 0,.int .u64 0,.int .u64 0] (pw z) _ h9 (by simp) (fun p hp=>by
   simp only[List.mem_cons,List.not_mem_nil,or_false]at hp;rcases hp with rfl | rfl
   ·exact⟨by simp,by show w.heap.size+1+1≠_;omega⟩
   ·exact⟨by simp,by show w.heap.size≠_;omega⟩))
 have HG:=Lib.hid (And.intro hg (heap_alloc_new w5 (.cells #[.int .u64 0,.int .u64 0,.int .u64 0,.int .u64 0] 24)));clear hb5 hg
 go_wp2_with (refine wpList_store_row rfl 24 _ _ rfl w5.heap.size (pw z) rfl rfl 24 (#[.int .u64 0,.int .u64 0,.int .u64 0,.int .u64 0]) (by exact HG.out.2) (by rw[pw_size];exact infoW4) (by rw[pw_size];rfl) (pw_one _) ?_)
 obtain⟨w6,hw6⟩:∃ w6,(w5.alloc (.cells #[.int .u64 0,.int .u64 0,.int .u64 0,.int .u64 0] 24)).setRow w5.heap.size (pw z)=w6:=⟨_,rfl⟩
 rw[hw6]at H5 |-
 rw[HG.out.1];clear hw6 HG H1;have HCM:=Lib.hid (CW.calls (w:=w) (F:=F) (m:=m) (L:=[(g,pw z),(w.heap.size+1+1,#[.int .u64 0,.int .u64 0,.int .u64 0,.int .u64 0]),(w.heap.size,pw x)]) (fun wx _=>cmp_pw z x HZ.out HN.out.1 wx));have HLO:=Lib.hid (CW.calls (w:=w) (F:=F) (m:=m) (L:=[(g,pw z),(w.heap.size+1+1,#[.int .u64 0,.int .u64 0,.int .u64 0,.int .u64 0]),(w.heap.size,pw x)]) (fun wx hf=>lessOnce_any F m z (decide (z<x)) wx hf));rw[HE.out]at HLO;obtain⟨v,hv⟩:∃ v,(x+y)%m=v:=⟨_,rfl⟩
 rw[hv]at HLO;have HV:=Lib.hid hv;clear hv;refine region_quiet_tail 7 (CW w F m [(g,pw z),(w.heap.size+1+1,#[.int .u64 0,.int .u64 0,.int .u64 0,.int .u64 0]),(w.heap.size,pw x)]) (by kernel_rfl) (by kernel_rfl) (H5.out.drew) ?_;simp only[List.take_succ_cons,List.take_zero,List.drop_succ_cons,List.drop_zero]
 with_reducible refine q_val (.pointer (some ⟨F,0,none⟩)) (by kernel_rfl) (fun _ _=>by kernel_rfl) ?_
 with_reducible refine q_load 24 (.tmp 7) (.pointer (some ⟨g,0,none⟩)) (.agg (pw z)) rfl (by kernel_rfl) (by kernel_rfl) (fun _ c=>ld_pw (c.is _ _ (by simp))) ?_
 with_reducible refine q_load 24 (.tmp 7) (.pointer (some ⟨g,0,none⟩)) (.agg (pw z)) rfl (by kernel_rfl) (by kernel_rfl) (fun _ c=>ld_pw (c.is _ _ (by simp))) ?_
 with_reducible refine q_load 24 (.tmp 4) (.pointer (some ⟨w.heap.size,0,none⟩)) (.agg (pw x)) rfl (by kernel_rfl) (by kernel_rfl) (fun _ c=>ld_pw (c.is _ _ (by simp))) ?_
 with_reducible refine q_call 94 #[.agg (pw z),.agg (pw x)] (.int .i64 (ord z x)) (by kernel_rfl) (fun _=>by kernel_rfl) (HCM.out) ?_
 with_reducible refine q_bin .lss 3 _ _ 3 (.int .i64 (ord z x)) (.int .i64 0) (.bool (decide (z<x))) rfl (by kernel_rfl) (by kernel_rfl) (by kernel_rfl) (fun _=>by kernel_rfl) (fun w'=>lss_ord z x w') ?_
 with_reducible refine q_call 93 #[.pointer (some ⟨F,0,none⟩),.agg (pw z),.bool (decide (z<x))] (.agg (pw v)) (by kernel_rfl) (fun _=>by kernel_rfl) (HLO.out) ?_
 with_reducible refine wpQuiet_nil ?_
 intro wx hC;have HC:=Lib.hid hC;clear hC H5 HCM HLO;simp only[Act.put,List.setIfInBounds_toArray,List.set_cons_succ,List.set_cons_zero]
 go_wp2_with (refine wpList_store_row rfl 24 _ _ rfl (w.heap.size+1+1) (pw v) rfl rfl 24 (#[.int .u64 0,.int .u64 0,.int .u64 0,.int .u64 0]) (by exact HC.out.is _ _ (by simp)) (by rw[pw_size];exact infoW4) (by first | rfl | (rw[pw_size];rfl) | (rw[pw_size,pw_size])) (pw_one _) ?_)
 (try simp only[Act.put])
 refine bodyPost_ret (v:=.agg (pw v)) (results_cell_row (p:=6) rfl _ _ (w.heap.size+1+1) 24 (pw v) (0,0) _ rfl (setRow_heap _ _ _ _ _ _ (by exact HC.out.is _ (#[.int .u64 0,.int .u64 0,.int .u64 0,.int .u64 0]) (by simp))) Tryz.underlying24 rfl (by rw[pw_size];exact infoW4)) rfl ⟨by rw[<- HV.out,HR.out],below_setRow HC.out.old (by omega) _⟩
-- WHAT Sub COMES TO.
theorem fsub_any(F m a b:Nat)(ha:a<2^256)(hb:b<2^256)(w:World)(hF:FldAt w F m):Calls Tryz.prog 69 #[.pointer (some ⟨F,0,none⟩),.agg (pw a),.agg (pw b)] w fun e w'=>e=.returned (.agg (pw ((a%m+(m - b%m))%m)))/\Below w.heap.size w w':=by
 have H0:=Lib.hid (CO.start hF ha hb);have hlt:∀ z,z%m<m:=fun z=>Nat.mod_lt _ (by have:=hF.big;omega);have HE:=Lib.hid (sub_less (hlt a) (hlt b) hF.lt);have HN:=Lib.hid (show a%m<2^256/\b%m<2^256 from⟨Nat.lt_trans (hlt a) hF.lt,Nat.lt_trans (hlt b) hF.lt⟩);clear hF ha hb hlt;go_enter Tryz.func69,Tryz.ntmps69
 go_wp2_with fail
 refine region_tie (CO w F m a b) (fun i s wx=>match i with | 0=>s 8=.pointer (some ⟨F,0,none⟩) | 1=>∃ x,s 9=.agg (pw x)/\x<2^256/\x%m=a%m | 2=>s 10=.agg (pw (a%m)) | 3=>s 11=.pointer (some ⟨F,0,none⟩) | 4=>∃ x,s 12=.agg (pw x)/\x<2^256/\x%m=b%m | 5=>s 13=.agg (pw (b%m)) | 6=>wx.heap[w.heap.size]?=some (.cells (pw (a%m)) 24 (0,0)) | 7=>wx.heap[w.heap.size+1]?=some (.cells (pw (b%m)) 24 (0,0)) | _=>True) (RO w (a%m) (b%m)) (fun i=>match i with | 0=>[8] | 1=>[9] | 2=>[10] | 3=>[11] | 4=>[12] | 5=>[13] | 6=>[] | 7=>[] | _=>[]) (fun i=>i) (by kernel_rfl) (by kernel_rfl) H0.out.drew ?_ ?_ ?_ ?_
 ·intro i s s' wx he hp
  match i,he,hp with
  | 0,he,hp=>exact(he 8 (by simp)).symm.trans hp
  | 1,he,hp=>obtain⟨x,h1,h2⟩:=hp;exact⟨x,(he 9 (by simp)).symm.trans h1,h2⟩
  | 2,he,hp=>exact(he 10 (by simp)).symm.trans hp
  | 3,he,hp=>exact(he 11 (by simp)).symm.trans hp
  | 4,he,hp=>obtain⟨x,h1,h2⟩:=hp;exact⟨x,(he 12 (by simp)).symm.trans h1,h2⟩
  | 5,he,hp=>exact(he 13 (by simp)).symm.trans hp
  | 6,he,hp=>exact hp
  | 7,he,hp=>exact hp
  | _+8,_,_=>trivial
 ·intro i s wa wb hR hp
  match i,hp with
  | 0,hp=>exact hp
  | 1,hp=>exact hp
  | 2,hp=>exact hp
  | 3,hp=>exact hp
  | 4,hp=>exact hp
  | 5,hp=>exact hp
  | 6,hp=>exact hR.1 hp
  | 7,hp=>exact hR.2 hp
  | _+8,_=>trivial
 ·refine⟨?_,?_,?_,?_,?_,?_,?_,?_,trivial⟩
  ·intro a_ wx hC hsz hK
   have h0:a_.tmps.getD 0 undef=(.pointer (some ⟨F,0,none⟩)):=hK.1 0 (by kernel_rfl);exact tt_val (.pointer (some ⟨F,0,none⟩)) (by kernel_rfl) (by rw[<- h0];kernel_rfl) hC (slots_put _ _ _ (by rw[hsz];exact of_decide_eq_true (by kernel_rfl))) (RO.refl _ _ _ _)
  ·intro a_ wx hC hsz hK
   have h0:a_.tmps.getD 4 undef=(.pointer (some ⟨w.heap.size,0,none⟩)):=hK.1 4 (by kernel_rfl);obtain⟨x,h1,h2⟩:=hC.r0;exact tt_load 24 (.tmp 4) (.pointer (some ⟨w.heap.size,0,none⟩)) (.agg (pw x)) rfl (by kernel_rfl) h0 (ld_pw h1) hC ⟨x,(slots_put _ _ _ (by rw[hsz];exact of_decide_eq_true (by kernel_rfl))),h2⟩ (RO.refl _ _ _ _)
  ·intro a_ wx hC hsz hK
   have h0:a_.tmps.getD 8 undef=(.pointer (some ⟨F,0,none⟩)):=hK.2 ⟨0,.data⟩ (by simp) rfl _ rfl;obtain⟨x,h1,h2,h3⟩:=hK.2 ⟨1,.data⟩ (by simp) rfl _ rfl;refine tt_call 70 #[a_.tmps.getD 8 undef,a_.tmps.getD 9 undef] (by kernel_rfl) (by kernel_rfl) ?_;rw[h0,show a_.tmps.getD 9 undef=_ from h1];exact(fof_any F m x h2 wx hC.fld).mono fun e w' hh=>⟨.agg (pw (a%m)),by rw[hh.1,h3],hC.below hh.2,(slots_put _ _ _ (by rw[hsz];exact of_decide_eq_true (by kernel_rfl))),RO.of hh.2⟩
  ·intro a_ wx hC hsz hK
   have h0:a_.tmps.getD 0 undef=(.pointer (some ⟨F,0,none⟩)):=hK.1 0 (by kernel_rfl);exact tt_val (.pointer (some ⟨F,0,none⟩)) (by kernel_rfl) (by rw[<- h0];kernel_rfl) hC (slots_put _ _ _ (by rw[hsz];exact of_decide_eq_true (by kernel_rfl))) (RO.refl _ _ _ _)
  ·intro a_ wx hC hsz hK
   have h0:a_.tmps.getD 5 undef=(.pointer (some ⟨w.heap.size+1,0,none⟩)):=hK.1 5 (by kernel_rfl);obtain⟨x,h1,h2⟩:=hC.r1;exact tt_load 24 (.tmp 5) (.pointer (some ⟨w.heap.size+1,0,none⟩)) (.agg (pw x)) rfl (by kernel_rfl) h0 (ld_pw h1) hC ⟨x,(slots_put _ _ _ (by rw[hsz];exact of_decide_eq_true (by kernel_rfl))),h2⟩ (RO.refl _ _ _ _)
  ·intro a_ wx hC hsz hK
   have h0:a_.tmps.getD 11 undef=(.pointer (some ⟨F,0,none⟩)):=hK.2 ⟨3,.data⟩ (by simp) rfl _ rfl;obtain⟨x,h1,h2,h3⟩:=hK.2 ⟨4,.data⟩ (by simp) rfl _ rfl;refine tt_call 70 #[a_.tmps.getD 11 undef,a_.tmps.getD 12 undef] (by kernel_rfl) (by kernel_rfl) ?_;rw[h0,show a_.tmps.getD 12 undef=_ from h1];exact(fof_any F m x h2 wx hC.fld).mono fun e w' hh=>⟨.agg (pw (b%m)),by rw[hh.1,h3],hC.below hh.2,(slots_put _ _ _ (by rw[hsz];exact of_decide_eq_true (by kernel_rfl))),RO.of hh.2⟩
  ·intro a_ wx hC hsz hK
   have h0:a_.tmps.getD 4 undef=(.pointer (some ⟨w.heap.size,0,none⟩)):=hK.1 4 (by kernel_rfl);have h1:a_.tmps.getD 10 undef=.agg (pw (a%m)):=hK.2 ⟨2,.data⟩ (by simp) rfl _ rfl;obtain⟨x,h2,h3⟩:=hC.r0;exact tt_store (by kernel_rfl) rfl (run_st 24 (.tmp 4) (.tmp 10) _ _ rfl h0 h1 (store_w (pw_size _) h2)) hC.set0 (setRow_heap _ _ _ _ _ _ h2) ⟨fun _=>setRow_heap _ _ _ _ _ _ h2,fun h=>(setRow_other _ _ _ _ (by omega)).trans h⟩
  ·intro a_ wx hC hsz hK
   have h0:a_.tmps.getD 5 undef=(.pointer (some ⟨w.heap.size+1,0,none⟩)):=hK.1 5 (by kernel_rfl);have h1:a_.tmps.getD 13 undef=.agg (pw (b%m)):=hK.2 ⟨5,.data⟩ (by simp) rfl _ rfl;obtain⟨x,h2,h3⟩:=hC.r1;exact tt_store (by kernel_rfl) rfl (run_st 24 (.tmp 5) (.tmp 13) _ _ rfl h0 h1 (store_w (pw_size _) h2)) hC.set1 (setRow_heap _ _ _ _ _ _ h2) ⟨fun h=>(setRow_other _ _ _ _ (by omega)).trans h,fun _=>setRow_heap _ _ _ _ _ _ h2⟩
 intro f1 wy hCy hf;have k0:=hf 6 _ rfl;have k1:=hf 7 _ rfl;have H1:=Lib.hid (hCy.done k0 k1);clear hf hCy k0 k1 H0;simp only[putAll,Act.put,List.setIfInBounds_toArray,List.set_cons_succ,List.set_cons_zero];obtain⟨x,hx⟩:∃ x,a%m=x:=⟨_,rfl⟩
 obtain⟨y,hy⟩:∃ y,b%m=y:=⟨_,rfl⟩
 rw[hx,hy]at H1 HE HN;have HR2:=Lib.hid (And.intro hx hy);clear hx hy
 go_wp2_with (first | (refine wpList_ld rfl 24 _ rfl (.pointer (some ⟨w.heap.size,0,none⟩)) (.agg (pw x)) rfl (ld_pw (by exact H1.out.is _ _ (by simp))) ?_) | (refine wpList_ld rfl 24 _ rfl (.pointer (some ⟨w.heap.size+1,0,none⟩)) (.agg (pw y)) rfl (ld_pw (by exact H1.out.is _ _ (by simp))) ?_))
 refine(sub_pw x y HN.out.2 _).mono ?_;rintro e w5 ⟨rfl,hb5⟩;rw[show pw (x+(2^256 - y))=pw ((x+(2^256 - y))%2^256) from pw_congr (by rw[Nat.mod_mod])];obtain⟨z,hz⟩:∃ z,(x+(2^256 - y))%2^256=z:=⟨_,rfl⟩
 rw[hz]at HE |-
 clear hz;obtain⟨g,hg⟩:∃ g,w5.heap.size=g:=⟨_,rfl⟩
 have H5:=Lib.hid (show CW w F m [(g,pw z),(w.heap.size+1+1,#[.int .u64 0,.int .u64 0,.int .u64 0,.int .u64 0]),(w.heap.size+1,pw y),(w.heap.size,pw x)] ((w5.alloc (.cells #[.int .u64 0,.int .u64 0,.int .u64 0,.int .u64 0] 24)).setRow w5.heap.size (pw z)) from by
  rw[<- hg];have c:=(H1.out.below hb5).new #[.int .u64 0,.int .u64 0,.int .u64 0,.int .u64 0];have h9:=(H1.out.below hb5).old.size;have h8:w.heap.size+1+1<w5.heap.size:=(Array.getElem?_eq_some_iff.1 ((H1.out.below hb5).is (w.heap.size+1+1) #[.int .u64 0,.int .u64 0,.int .u64 0,.int .u64 0] (by simp))).1;exact c.put w5.heap.size #[.int .u64 0,.int .u64 0,.int .u64 0,.int .u64 0] (pw z) _ h9 (by simp) (fun p hp=>by
   simp only[List.mem_cons,List.not_mem_nil,or_false]at hp;rcases hp with rfl | rfl | rfl
   ·exact⟨by simp,by show w.heap.size+1+1≠_;omega⟩
   ·exact⟨by simp,by show w.heap.size+1≠_;omega⟩
   ·exact⟨by simp,by show w.heap.size≠_;omega⟩))
 have HG:=Lib.hid (And.intro hg (heap_alloc_new w5 (.cells #[.int .u64 0,.int .u64 0,.int .u64 0,.int .u64 0] 24)));clear hb5 hg
 go_wp2_with (first | (refine wpList_store_row rfl 24 _ _ rfl w5.heap.size (pw z) rfl rfl 24 (#[.int .u64 0,.int .u64 0,.int .u64 0,.int .u64 0]) (by exact HG.out.2) (by rw[pw_size];exact infoW4) (by rw[pw_size];rfl) (pw_one _) ?_) | (refine wpList_ld rfl 24 _ rfl (.pointer (some ⟨w.heap.size,0,none⟩)) (.agg (pw x)) rfl (ld_pw (by exact H5.out.is w.heap.size (pw x) (by simp))) ?_) | (refine wpList_ld rfl 24 _ rfl (.pointer (some ⟨w.heap.size+1,0,none⟩)) (.agg (pw y)) rfl (ld_pw (by exact H5.out.is (w.heap.size+1) (pw y) (by simp))) ?_))
 obtain⟨w6,hw6⟩:∃ w6,(w5.alloc (.cells #[.int .u64 0,.int .u64 0,.int .u64 0,.int .u64 0] 24)).setRow w5.heap.size (pw z)=w6:=⟨_,rfl⟩
 rw[hw6]at H5 |-
 rw[HG.out.1];clear hw6 HG H1;refine(cmp_pw x y HN.out.1 HN.out.2 _).mono ?_;rintro e w7 ⟨rfl,hb7⟩;have H7:=Lib.hid (H5.out.below hb7);clear hb7 H5;obtain⟨o,ho⟩:∃ o,ord x y=o:=⟨_,rfl⟩
 rw[ho];by_cases hc:x<y
 ·have ho2:o<0:=by rw[<- ho];unfold ord;rw[if_pos hc];omega
  clear ho;have HD:=Lib.hid (HE.out.1 hc);clear hc HE
  go_wp2_with fail
  have HAD:=Lib.hid (CW.calls (w:=w) (F:=F) (m:=m) (L:=[(g,pw z),(w.heap.size+1+1,#[.int .u64 0,.int .u64 0,.int .u64 0,.int .u64 0]),(w.heap.size+1,pw y),(w.heap.size,pw x)]) (fun wx _=>add_pw z m wx));rw[HD.out]at HAD;obtain⟨v,hv⟩:∃ v,(x+(m - y))%m=v:=⟨_,rfl⟩
  rw[hv]at HAD;have HV:=Lib.hid hv;clear hv;refine region_quiet_tail 6 (CW w F m [(g,pw z),(w.heap.size+1+1,#[.int .u64 0,.int .u64 0,.int .u64 0,.int .u64 0]),(w.heap.size+1,pw y),(w.heap.size,pw x)]) (by kernel_rfl) (by kernel_rfl) (H7.out.drew) ?_;simp only[List.take_succ_cons,List.take_zero,List.drop_succ_cons,List.drop_zero]
  with_reducible refine q_load 24 (.tmp 7) (.pointer (some ⟨g,0,none⟩)) (.agg (pw z)) rfl (by kernel_rfl) (by kernel_rfl) (fun _ c=>ld_pw (c.is _ _ (by simp))) ?_
  with_reducible refine q_val (.pointer (some ⟨F,0,none⟩)) (by kernel_rfl) (fun _ _=>by kernel_rfl) ?_
  with_reducible refine q_val (.pointer (some ⟨F,0,none⟩)) (by kernel_rfl) (fun _ _=>run_nil (.tmp 22) _ rfl (by kernel_rfl)) ?_
  with_reducible refine q_sem2 (Instr.fieldAt 102 (.pointer (some ⟨F,0,none⟩)) 0) (.pointer (some ⟨F,0,none⟩)) (by kernel_rfl) (by kernel_rfl) (fun w' _=>fld_at F w') ?_
  with_reducible refine q_load 24 (.tmp 24) (.pointer (some ⟨F,0,none⟩)) (.agg (pw m)) rfl (by kernel_rfl) (by kernel_rfl) (fun _ c=>ld_m c.fld) ?_
  with_reducible refine q_call 92 #[.agg (pw z),.agg (pw m)] (.agg (pw v)) (by kernel_rfl) (fun _=>by kernel_rfl) (HAD.out) ?_
  with_reducible refine wpQuiet_nil ?_
  intro wx hC;have HC:=Lib.hid hC;clear hC H7 HAD;simp only[Act.put,List.setIfInBounds_toArray,List.set_cons_succ,List.set_cons_zero]
  go_wp2_with (refine wpList_store_row rfl 24 _ _ rfl (w.heap.size+1+1) (pw v) rfl rfl 24 (#[.int .u64 0,.int .u64 0,.int .u64 0,.int .u64 0]) (by exact HC.out.is _ _ (by simp)) (by rw[pw_size];exact infoW4) (by first | rfl | (rw[pw_size];rfl) | (rw[pw_size,pw_size])) (pw_one _) ?_)
  (try simp only[Act.put])
  refine bodyPost_ret (v:=.agg (pw v)) (results_cell_row (p:=6) rfl _ _ (w.heap.size+1+1) 24 (pw v) (0,0) _ rfl (setRow_heap _ _ _ _ _ _ (by exact HC.out.is _ (#[.int .u64 0,.int .u64 0,.int .u64 0,.int .u64 0]) (by simp))) Tryz.underlying24 rfl (by rw[pw_size];exact infoW4)) rfl ⟨by rw[<- HV.out,HR2.out.1,HR2.out.2],below_setRow HC.out.old (by omega) _⟩
 ·have ho2:¬o<0:=by rw[<- ho];unfold ord;rw[if_neg hc];split <;> omega
  clear ho;have HD:=Lib.hid (HE.out.2 hc);clear hc HE
  go_wp2_with (first | (refine wpList_ld rfl 24 _ rfl (.pointer (some ⟨g,0,none⟩)) (.agg (pw z)) rfl (ld_pw (by exact H7.out.is g (pw z) (by simp))) ?_) | (refine wpList_store_row rfl 24 _ _ rfl (w.heap.size+1+1) (pw z) rfl rfl 24 (#[.int .u64 0,.int .u64 0,.int .u64 0,.int .u64 0]) (by exact H7.out.is _ _ (by simp)) (by rw[pw_size];exact infoW4) (by first | rfl | (rw[pw_size];rfl) | (rw[pw_size,pw_size])) (pw_one _) ?_))
  (try simp only[Act.put])
  refine bodyPost_ret (v:=.agg (pw z)) (results_cell_row (p:=6) rfl _ _ (w.heap.size+1+1) 24 (pw z) (0,0) _ rfl (setRow_heap _ _ _ _ _ _ (by exact H7.out.is _ (#[.int .u64 0,.int .u64 0,.int .u64 0,.int .u64 0]) (by simp))) Tryz.underlying24 rfl (by rw[pw_size];exact infoW4)) rfl ⟨by rw[HD.out,HR2.out.1,HR2.out.2],below_setRow H7.out.old (by omega) _⟩
open Go.ChangeShapes Go.WideShapes Go.ChangeAt Go.RowKit
theorem ownF:ownKnob Tryz.prog.godebug=none:=by kernel_rfl
theorem laidOutF:laidOutB Tryz.prog=true:=by kernel_rfl
theorem cellsU64:Tryz.prog.cellsOf 22=1:=by kernel_rfl
theorem cellsWord:Tryz.prog.cellsOf 24=4:=by kernel_rfl
theorem nat_of_wf{x:Int}(h:(Lit.int .u64 x).wf=true):∃ n:Nat,n<18446744073709551616/\x=(n:Int):=by
 obtain⟨h0,h1⟩:=bounds_u64 h;clear h;obtain⟨n,rfl⟩:=Int.eq_ofNat_of_zero_le h0;exact⟨n,by omega,rfl⟩
noncomputable def bareWorld (os:Os):World:=World.holding Tryz.prog os ⟨#[],#[],[]⟩
open Go.RowKit
inductive Sp
 | val (d:Nat) (v:Value)
 | blk (d:Nat) (T:TypeId)
 | laid (p:Nat) (T:TypeId)
 | own (d:Nat) (f:Value->World->Prop)
 | none
def Sp.at_(H:Nat)(J:Nat->Array Value):Sp->(Nat->Value)->World->Prop
 | .val d v,s,_=>s d=v
 | .blk d T,s,w=>∃ D,s d=.pointer (some ⟨D,0,Option.none⟩)/\H<=D/\∃ cs:Array Value,w.heap[D]?=some (.cells cs T (0,0))/\cs.size=(J d).size
 | .laid p T,s,w=>∃ D,s p=.pointer (some ⟨D,0,Option.none⟩)/\H<=D/\w.heap[D]?=some (.cells (J p) T (0,0))
 | .own d f,s,w=>f (s d) w
 | .none,_,_=>True
def Sp.rd:Sp->List Nat
 | .val d _=>[d]
 | .blk d _=>[d]
 | .laid p _=>[p]
 | .own d _=>[d]
 | .none=>[]
def Sp.ok(ps:List Nat):Sp->Prop
 | .own _ f=>ps=[]/\∀ v wa wb,Below wa.heap.size wa wb->f v wa->f v wb
 | .blk d _=>d∈ps
 | .laid d _=>d∈ps
 | _=>True
def spAt(L:List Sp)(i:Nat):Sp:=L.getD i .none
def okL(ps:List Nat):List Sp->Prop
 | []=>True
 | p::l=>p.ok ps/\okL ps l
theorem okL.at_{ps:List Nat}:∀ {L:List Sp},okL ps L->∀ i,(spAt L i).ok ps
 | [],_,i=>by simp[spAt,Sp.ok]
 | p::l,h,0=>by simpa[spAt]using h.1
 | p::l,h,i+1=>by simpa[spAt]using okL.at_ h.2 i
theorem Sp.same{H:Nat}{J:Nat->Array Value}{p:Sp}{s s':Nat->Value}{w:World}(h:∀ t∈p.rd,s t=s' t)(hp:p.at_ H J s w):p.at_ H J s' w:=by
 cases p with
 | val d v=>exact(h d (by simp[Sp.rd])).symm.trans hp
 | blk d T=>obtain⟨D,h1,h2⟩:=hp;exact⟨D,(h d (by simp[Sp.rd])).symm.trans h1,h2⟩
 | laid d T=>obtain⟨D,h1,h2⟩:=hp;exact⟨D,(h d (by simp[Sp.rd])).symm.trans h1,h2⟩
 | own d f=>have e:=h d (by simp[Sp.rd]);exact(congrArg (fun v=>f v w) e).mp hp
 | none=>trivial
structure AN (ps:List Nat) (H:Nat) (s:Nat->Value) (wx:World):Prop where
 at_:∀ p∈ps,∀ q∈ps,p≠q->∀ D,s p=.pointer (some ⟨D,0,none⟩)->H<=D->D<wx.heap.size
 ne:∀ p∈ps,∀ q∈ps,p≠q->∀ D E,s p=.pointer (some ⟨D,0,none⟩)->s q=.pointer (some ⟨E,0,none⟩)->H<=D->H<=E->D≠E
theorem AN.start{ps:List Nat}{H:Nat}{s:Nat->Value}{wx:World}(h:∀ p∈ps,∀ q∈ps,p≠q->∀ D,s p=.pointer (some ⟨D,0,none⟩)->D<H):AN ps H s wx :=
 ⟨fun p hp q hq hne D e hl=>(by have:=h p hp q hq hne D e;omega),fun p hp q hq hne D _ e _ hl _=>(by have:=h p hp q hq hne D e;omega)⟩
theorem AN.put{ps:List Nat}{H:Nat}{s s':Nat->Value}{wx w':World}(h:AN ps H s wx)(e:∀ p∈ps,s' p=s p)(hl:wx.heap.size<=w'.heap.size):AN ps H s' w' :=
 ⟨fun p hp q hq hne D hD hh=>Nat.lt_of_lt_of_le (h.at_ p hp q hq hne D ((e p hp) ▸ hD) hh) hl,fun p hp q hq hne D E h1 h2=>h.ne p hp q hq hne D E ((e p hp) ▸ h1) ((e q hq) ▸ h2)⟩
theorem AN.new{ps:List Nat}{H t:Nat}{s s':Nat->Value}{wx w':World}(h:AN ps H s wx)(e:s' t=.pointer (some ⟨wx.heap.size,0,none⟩))(eo:∀ p∈ps,p≠t->s' p=s p)(hl:wx.heap.size<w'.heap.size):AN ps H s' w':=by
 have ge:∀ p∈ps,∀ D,s' p=.pointer (some ⟨D,0,none⟩)->p≠t->s p=.pointer (some ⟨D,0,none⟩):=fun p hp D hD hne=>(eo p hp hne) ▸ hD;refine⟨fun p hp q hq hne D hD hh=>?_,fun p hp q hq hne D E h1 h2 hh he=>?_⟩
 ·by_cases r:p=t
  ·subst r;rw[e]at hD;cases hD;exact hl
  ·have:=h.at_ p hp q hq hne D (ge p hp D hD r) hh;omega
 ·by_cases a:p=t
  ·subst a
   rw[e]at h1;cases h1;have:=h.at_ q hq p hp (Ne.symm hne) E (ge q hq E h2 (Ne.symm hne)) he;omega
  ·by_cases b:q=t
   ·subst b
    rw[e]at h2;cases h2;have:=h.at_ p hp q hq hne D (ge p hp D h1 a) hh;omega
   ·exact h.ne p hp q hq hne D E (ge p hp D h1 a) (ge q hq E h2 b) hh he
def RNM(H:Nat)(ps:List Nat)(J:Nat->Array Value)(s:Nat->Value)(wa wb:World):Prop:=Below wa.heap.size wa wb\/∃ p∈ps,∃ D,s p=.pointer (some ⟨D,0,none⟩)/\H<=D/\wb=wa.setRow D (J p)
theorem RNM.same{H:Nat}{ps:List Nat}{J:Nat->Array Value}{s:Nat->Value}(wa:World):RNM H ps J s wa wa:=.inl (Below.refl _ _)
def CM(w:World)(ps:List Nat)(s:Nat->Value)(wx:World):Prop:=Below w.heap.size w wx/\AN ps w.heap.size s wx
theorem Sp.keep{w:World}{ps:List Nat}{J:Nat->Array Value}{p:Sp}(ho:p.ok ps){s:Nat->Value}{wa wb:World}(hC:CM w ps s wa)(hR:RNM w.heap.size ps J s wa wb)(hp:p.at_ w.heap.size J s wa):p.at_ w.heap.size J s wb:=by
 cases p with
 | val d v=>exact hp
 | none=>trivial
 | own d f =>
  rcases hR with h | ⟨q,hq,_⟩
  ·exact ho.2 _ _ _ h hp
  ·rw[ho.1]at hq;cases hq
 | blk d T =>
  obtain⟨D,h1,hh,cs,h2,h3⟩:=hp;rcases hR with h | ⟨q,hq,E,hE,he,rfl⟩
  ·exact⟨D,h1,hh,cs,(h.block _ (Array.getElem?_eq_some_iff.1 h2).1).trans h2,h3⟩
  ·by_cases e:D=E
   ·subst e
    have:q=d:=Classical.byContradiction fun hne=>hC.2.ne q hq d ho hne D D hE h1 he hh rfl;subst this;exact⟨D,h1,hh,J q,setRow_heap _ _ _ _ _ _ h2,rfl⟩
   ·exact⟨D,h1,hh,cs,(setRow_other _ _ _ _ e).trans h2,h3⟩
 | laid d T =>
  obtain⟨D,h1,hh,h2⟩:=hp;rcases hR with h | ⟨q,hq,E,hE,he,rfl⟩
  ·exact⟨D,h1,hh,(h.block _ (Array.getElem?_eq_some_iff.1 h2).1).trans h2⟩
  ·by_cases e:D=E
   ·subst e
    have:q=d:=Classical.byContradiction fun hne=>hC.2.ne q hq d ho hne D D hE h1 he hh rfl;subst this;exact⟨D,h1,hh,setRow_heap _ _ _ _ _ _ h2⟩
   ·exact⟨D,h1,hh,(setRow_other _ _ _ _ e).trans h2⟩
theorem yielded_of{ops:Array Oper}{tmps:Array Value}{j d:Nat}{b:Bool}(hd:(ops[j]?).bind (·.dst)=some d)(hv:tmps.getD d undef=.bool b):yielded ops tmps j=some b:=by
 unfold yielded;have e:tmps[d]?=some (.bool b):=by
  by_cases h:d<tmps.size
  ·rw[Array.getElem?_eq_getElem h]
   simpa[h]using hv
  ·simp[h,undef]at hv
 rw[hd];simp only[Option.bind_some,e]
theorem wanted_of{ops:Array Oper}{tmps:Array Value}{o:Oper}{j d:Nat}{b:Bool}(hg:o.guard=some (j,b))(hd:(ops[j]?).bind (·.dst)=some d)(hv:tmps.getD d undef=.bool b):Region.wanted o (yielded ops tmps)=true:=by
 unfold Region.wanted;rw[hg];simp only[yielded_of hd hv,beq_self_eq_true]
theorem unwanted_of{ops:Array Oper}{tmps:Array Value}{o:Oper}{j d:Nat}{b c:Bool}(hg:o.guard=some (j,b))(hd:(ops[j]?).bind (·.dst)=some d)(hv:tmps.getD d undef=.bool c)(hn:(c == b)=false):Region.wanted o (yielded ops tmps)=false:=by
 unfold Region.wanted;rw[hg];simp only[yielded_of hd hv];cases b <;> cases c <;> first | rfl | cases hn
section
variable {P:Program} {ops:Array Oper} {Q:Exit->Act->World->Prop} {a0:Act}
theorem region_many{id:Nat}{l:List Oper}{w:World}(L:List Sp)(ps:List Nat)(J:Nat->Array Value)(rk:Nat->Nat)(hm:P.follows .mixedOrders=true)
  (hB:(distinctB l&&rankB l.toArray rk&&ownB l.toArray (fun i=>(spAt L i).rd)&&insideB l.toArray)=true) (hO:okL ps L) (h0:∀ p∈ps,∀ q∈ps,p≠q->∀ D,a0.tmps.getD p undef=.pointer (some ⟨D,0,none⟩)->D<w.heap.size)
  (hst:StepsU P l.toArray Q (CM w ps) (fun i s wx=>(spAt L i).at_ w.heap.size J s wx) (RNM w.heap.size ps J) a0 0 l)
  (hQ:∀(f:Oper->Value) wx,Below w.heap.size w wx->AN ps w.heap.size (slots (putAll f l a0)) wx->(∀ i o,l[i]?=some o->(spAt L i).at_ w.heap.size J (slots (putAll f l a0)) wx)->Q .normal (putAll f l a0) wx):(Code.region id l.toArray true).wp P Q a0 w :=
 region_tie2 (CM w ps) (fun i s wx=>(spAt L i).at_ w.heap.size J s wx) (RNM w.heap.size ps J) (fun i=>(spAt L i).rd) rk hm hB ⟨Below.drew (Below.refl _ _),AN.start h0⟩ (fun _ _ _ _ h hp=>Sp.same h hp) (fun i _ _ _ hC hR hp=>Sp.keep (hO.at_ i) hC hR hp) hst (fun f wx hC hp=>hQ f wx hC.1 hC.2 hp)
/-! What each kind of operation must do. -/
variable {w:World} {L:List Sp} {ps:List Nat} {J:Nat->Array Value}
abbrev PhiN(w:World)(L:List Sp)(J:Nat->Array Value):Nat->(Nat->Value)->World->Prop:=fun i s wx=>(spAt L i).at_ w.heap.size J s wx
theorem ps_other{ps:List Nat}{a:Act}{d:Nat}{v:Value}(h:ps.all (· != d)=true):∀ p∈ps,slots (a.put (some d) v) p=slots a p:=fun p hp=>slots_other a d p v (by
 have:=List.all_eq_true.1 h p hp;have h2:p≠d:=by simpa using this
 exact fun e=>h2 e.symm)
theorem mm_val{k d:Nat}{o:Oper}{a:Act}{wx:World}(v:Value)(hd:o.dst=some d)(hw:Region.wanted o (yielded ops a.tmps)=true)(hr:(execOp a.eval o).run P wx=.ok (.value v) wx)(hC:CM w ps (slots a) wx)(hps:ps.all (· != d)=true)(hsz:d<a.tmps.size)(hv:spAt L k=.val d v):StepU P ops Q (CM w ps) (PhiN w L J) (RNM w.heap.size ps J) k o a wx :=
 uu_val v hw hr (by rw[hd];exact⟨hC.1,hC.2.put (ps_other hps) (Nat.le_refl _)⟩) (by rw[hd];show(spAt L k).at_ w.heap.size J _ _;rw[hv];exact slots_put _ _ _ hsz) (RNM.same _)
theorem mm_sem{k d:Nat}{o:Oper}{a:Act}{wx:World}(s:Sem Value)(v:Value)(hd:o.dst=some d)(hw:Region.wanted o (yielded ops a.tmps)=true)(ho:execOp a.eval o=(do let x <- s;pure (.value x)))(hr:s.run P wx=.ok v wx)(hC:CM w ps (slots a) wx)(hps:ps.all (· != d)=true)(hsz:d<a.tmps.size)(hv:spAt L k=.val d v):StepU P ops Q (CM w ps) (PhiN w L J) (RNM w.heap.size ps J) k o a wx :=
 mm_val v hd hw (by rw[ho];simp only[Sem.run_bind,hr,Result.andThen_ok,Sem.run_pure]) hC hps hsz hv
theorem mm_load{k d:Nat}{o:Oper}{a:Act}{wx:World}(T:TypeId)(x:Operand)(p v:Value)(hd:o.dst=some d)(ho:o.op=.load T x)(hw:Region.wanted o (yielded ops a.tmps)=true)(hp:a.eval x=p)
  (hr:(Instr.loadAt T p).run P wx=.ok v wx) (hC:CM w ps (slots a) wx) (hps:ps.all (· != d)=true) (hsz:d<a.tmps.size) (hv:spAt L k=.val d v):StepU P ops Q (CM w ps) (PhiN w L J) (RNM w.heap.size ps J) k o a wx :=
 mm_val v hd hw (by
  unfold execOp;rw[ho];simp only[hp,Sem.run_bind,hr,Result.andThen_ok,Sem.run_pure]) hC hps hsz hv
theorem mm_bin{k d:Nat}{o:Oper}{a:Act}{wx:World}(op:BinOp)(T:TypeId)(x y:Operand)(t:TypeId)(u v r:Value)(hd:o.dst=some d)(ho:o.op=.binOp op T x y t)(hw:Region.wanted o (yielded ops a.tmps)=true)(hx:a.eval x=u)(hy:a.eval y=v)
  (hg:(eqGuard op T x y u v).run P wx=.ok () wx) (hb:(binOp op T u v).run P wx=.ok r wx) (hC:CM w ps (slots a) wx) (hps:ps.all (· != d)=true) (hsz:d<a.tmps.size) (hv:spAt L k=.val d r):StepU P ops Q (CM w ps) (PhiN w L J) (RNM w.heap.size ps J) k o a wx :=
 mm_val r hd hw (by
  unfold execOp;rw[ho];simp only[hx,hy,Sem.run_bind,hg,hb,Result.andThen_ok,Sem.run_pure]) hC hps hsz hv
theorem mm_call{k d:Nat}{o:Oper}{a:Act}{wx:World}(f:FuncId)(args:Array Value)(v:Value)(hd:o.dst=some d)(hw:Region.wanted o (yielded ops a.tmps)=true)(he:(execOp a.eval o).run P wx=.ok (.enter f args) wx)
  (hc:Calls P f args wx fun e w'=>e=.returned v/\Below wx.heap.size wx w') (hC:CM w ps (slots a) wx) (hps:ps.all (· != d)=true) (hsz:d<a.tmps.size) (hv:spAt L k=.val d v):StepU P ops Q (CM w ps) (PhiN w L J) (RNM w.heap.size ps J) k o a wx :=
 uu_call f args hw he (hc.mono fun e w' hh=>⟨v,hh.1,by rw[hd];exact⟨hC.1.trans (hh.2.mono hC.1.size),hC.2.put (ps_other hps) hh.2.size⟩,by rw[hd];show(spAt L k).at_ w.heap.size J _ _;rw[hv];exact slots_put _ _ _ hsz,.inl hh.2⟩)
theorem mm_callx{k d:Nat}{o:Oper}{a:Act}{wx:World}(f:FuncId)(args:Array Value)(g:Value->World->Prop)(hd:o.dst=some d)(hw:Region.wanted o (yielded ops a.tmps)=true)(he:(execOp a.eval o).run P wx=.ok (.enter f args) wx)
  (hc:Calls P f args wx fun e w'=>∃ v,e=.returned v/\g v w'/\Below wx.heap.size wx w') (hC:CM w ps (slots a) wx) (hps:ps.all (· != d)=true) (hsz:d<a.tmps.size) (hv:spAt L k=.own d g):StepU P ops Q (CM w ps) (PhiN w L J) (RNM w.heap.size ps J) k o a wx :=
 uu_call f args hw he (hc.mono fun e w' ⟨v,h1,h2,h3⟩=>⟨v,h1,by rw[hd];exact⟨hC.1.trans (h3.mono hC.1.size),hC.2.put (ps_other hps) h3.size⟩,by rw[hd];show(spAt L k).at_ w.heap.size J _ _;rw[hv];show g _ _;rw[slots_put _ _ _ hsz];exact h2,.inl h3⟩)
theorem mm_new{k d:Nat}{o:Oper}{a:Act}{wx:World}(T:TypeId)(z:Array Value)(hd:o.dst=some d)(hw:Region.wanted o (yielded ops a.tmps)=true)(hr:(execOp a.eval o).run P wx=.ok (.value (.pointer (some ⟨wx.heap.size,0,none⟩))) (wx.alloc (.cells z T)))(hC:CM w ps (slots a) wx)(hz:z.size=(J d).size)(hsz:d<a.tmps.size)(hv:spAt L k=.blk d T):StepU P ops Q (CM w ps) (PhiN w L J) (RNM w.heap.size ps J) k o a wx:=by
 have hb:Below wx.heap.size wx (wx.alloc (.cells z T)):=(Below.refl _ _).alloc (Nat.le_refl _) _;refine uu_new (.pointer (some ⟨wx.heap.size,0,none⟩)) hw hr ?_ ?_ (.inl hb)
 ·rw[hd]
  exact⟨hC.1.trans (hb.mono hC.1.size),hC.2.new (slots_put _ _ _ hsz) (fun p _ hne=>slots_other _ _ _ _ (Ne.symm hne)) (by simp)⟩
 ·rw[hd]
  show(spAt L k).at_ w.heap.size J _ _;rw[hv];exact⟨_,slots_put _ _ _ hsz,hC.1.size,z,heap_alloc_new _ _,hz⟩
theorem mm_store{k p:Nat}{o:Oper}{a:Act}{wx:World}(T:TypeId)(x y:Operand)(v:Value)(hd:o.dst=none)(ho:o.op=.store T x y)(hw:Region.wanted o (yielded ops a.tmps)=true)(hx:a.eval x=slots a p)(hy:a.eval y=v)(hp:p∈ps)
  (hk:(Sp.blk p T).at_ w.heap.size J (slots a) wx) (hr:∀ D cs,wx.heap[D]?=some (.cells cs T (0,0))->cs.size=(J p).size->(Instr.storeAt T (.pointer (some ⟨D,0,none⟩)) v).run P wx=.ok () (wx.setRow D (J p))) (hC:CM w ps (slots a) wx) (hv:spAt L k=.laid p T):StepU P ops Q (CM w ps) (PhiN w L J) (RNM w.heap.size ps J) k o a wx:=by
 obtain⟨D,h1,hh,cs,h2,h3⟩:=hk;refine uu_store (w':=wx.setRow D (J p)) hw hd ?_ ⟨below_setRow hC.1 hh _,hC.2.put (fun _ _=>rfl) (by simp)⟩ ?_ (.inr ⟨p,hp,D,h1,hh,rfl⟩)
 ·unfold execOp
  rw[ho];simp only[hx,h1,hy,Sem.run_bind,hr D cs h2 h3,Result.andThen_ok,Sem.run_pure]
 ·show(spAt L k).at_ w.heap.size J _ _
  rw[hv];exact⟨D,h1,hh,setRow_heap _ _ _ _ _ _ h2⟩
end
end Go.Proofs.YthnckclbeecnmaaGreat
