/- What math/bits.Div64 comes to for a divisor that has its highest bit: the plain reckoning of one half. (Cut to what is reached, written closely: FTimes · FCl · FScl · Div64.) -/
import Derived.Test.YtadfjjfklihaaaaGreatP7
import Derived.WalkKit
set_option linter.all false
set_option maxRecDepth 100000
set_option maxHeartbeats 8000000
namespace Go.Proofs.YtadfjjfklihaaaaGreat
open Go.RowKit
theorem idx_pw(x k:Nat)(hk:k<4)(w:World):(Instr.index 24 (.agg (pw x)) (.int .i64 (k:Nat))).run Tryz.prog w=.ok (.int .u64 (pN x k:Nat)) w:=by
 rw[pw_ar];exact index_ar w Tryz.underlying24 (by kernel_rfl) (by kernel_rfl) hk
theorem slice8(S k:Nat)(h:k<=4)(w:World):(Instr.sliceAt 106 (.pointer (some ⟨S,0,none⟩)) (some (.int .i64 (k:Nat))) none none).run Tryz.prog w=.ok (.slice (some ⟨S,k,none⟩) (8 - k) (8 - k)) w:=by
 have hlen:Tryz.prog.arrayLen 106=8:=by kernel_rfl
 have hsz:(sizeOf (Tryz.prog.elem 106)).run Tryz.prog w=.ok 1 w:=by kernel_rfl
 rw[run_sliceAt_array_l w 106 ⟨S,0,none⟩ (by kernel_rfl) .i64 _ (by omega) (by rw[hlen];omega),hsz,hlen];simp only[Result.andThen,slicedAt,Addr.add];rw[Int.toNat_natCast,if_neg (by omega)];simp;omega
theorem arr8(S k:Nat)(h:k<=4)(w:World):(Instr.arrayAt 24 (.slice (some ⟨S,k,none⟩) (8 - k) (8 - k))).run Tryz.prog w=.ok (.pointer (some ⟨S,k,none⟩)) w :=
 run_arrayAt _ 24 22 4 _ _ _ Tryz.underlying24 (by omega)
theorem at8f(V j:Nat)(hj:j<8)(w:World):(Instr.indexAt 106 (.pointer (some ⟨V,0,none⟩)) (.int .i64 (j:Nat))).run Tryz.prog w=.ok (.pointer (some ⟨V,j,none⟩)) w:=by
 have h0:(0:Int)<=j:=by omega
 have h1:(j:Int)<8:=by omega
 go_simp
theorem mul_u(a b q:Nat)(h:a*b%18446744073709551616=q)(w:World):(binOp BinOp.mul 22 (.int .u64 (a:Nat)) (.int .u64 (b:Nat))).run Tryz.prog w=.ok (.int .u64 (q:Nat)) w:=by
 have e:(a:Int)*(b:Int)=((a*b:Nat):Int):=by simp
 have e2:IntKind.u64.wrap ((a:Int)*(b:Int))=(q:Int):=by rw[e,IntKind.wrap_u64];omega
 clear h e
 go_simp
theorem heap4f(w:World)(A B C D:Obj):((((w.alloc A).alloc B).alloc C).alloc D).heap[w.heap.size]?=some A/\((((w.alloc A).alloc B).alloc C).alloc D).heap[w.heap.size+1]?=some B/\((((w.alloc A).alloc B).alloc C).alloc D).heap[w.heap.size+1+1]?=some C/\((((w.alloc A).alloc B).alloc C).alloc D).heap[w.heap.size+1+1+1]?=some D:=by
 have h:=heap3 w A B C;have hs:(((w.alloc A).alloc B).alloc C).heap.size=w.heap.size+1+1+1:=by simp
 refine⟨(heap_alloc_old _ _ (by omega)).trans h.1,(heap_alloc_old _ _ (by omega)).trans h.2.1,(heap_alloc_old _ _ (by omega)).trans h.2.2,?_⟩;rw[<- hs];exact heap_alloc_new _ _
structure CT3 (w:World) (F m x y:Nat) (s:Nat->Nat) (wx:World):Prop where
 old:Below w.heap.size w wx
 fld:FldAt wx F m
 r0:wx.heap[w.heap.size]?=some (.cells (pw x) 24 (0,0))
 r1:wx.heap[w.heap.size+1]?=some (.cells (pw y) 24 (0,0))
 r2:wx.heap[w.heap.size+1+1]?=some (.cells #[.int .u64 0,.int .u64 0,.int .u64 0,.int .u64 0] 24 (0,0))
 rS:wx.heap[w.heap.size+1+1+1]?=some (.cells (ar .u64 8 fun j=>((s j:Nat):Int)) 106 (0,0))
 hF:F<w.heap.size
theorem CT3.high{w wx:World}{F m x y:Nat}{s:Nat->Nat}(c:CT3 w F m x y s wx):w.heap.size+1+1+1+1<=wx.heap.size:=(Array.getElem?_eq_some_iff.1 c.rS).1
theorem CT3.below{w wx w':World}{F m x y:Nat}{s:Nat->Nat}(c:CT3 w F m x y s wx)(hb:Below wx.heap.size wx w'):CT3 w F m x y s w':=by
 have l:=c.high;exact⟨c.old.trans (hb.mono (by omega)),c.fld.below hb,(hb.block _ (by omega)).trans c.r0,(hb.block _ (by omega)).trans c.r1,(hb.block _ (by omega)).trans c.r2,(hb.block _ (by omega)).trans c.rS,c.hF⟩
theorem CT3.drew{w wx:World}{F m x y:Nat}{s:Nat->Nat}(c:CT3 w F m x y s wx):CT3 w F m x y s wx.drew:=c.below (Below.drew (Below.refl _ _))
theorem CT3.after{w wx w':World}{F m x y:Nat}{s s':Nat->Nat}(c:CT3 w F m x y s wx)(hb:Bt (w.heap.size+1+1+1) wx w')(hr:w'.heap[w.heap.size+1+1+1]?=some (.cells (ar .u64 8 fun j=>((s' j:Nat):Int)) 106 (0,0))):CT3 w F m x y s' w':=by
 have l:=c.high;have l2:=c.hF;exact⟨hb.below c.old (by omega) (by omega),⟨(hb.block _ (by omega) (by omega)).trans c.fld.row,c.fld.odd,c.fld.big,c.fld.lt⟩,(hb.block _ (by omega) (by omega)).trans c.r0,(hb.block _ (by omega) (by omega)).trans c.r1,(hb.block _ (by omega) (by omega)).trans c.r2,hr,c.hF⟩
theorem CT3.set{w wx:World}{F m x y:Nat}{s:Nat->Nat}(c:CT3 w F m x y s wx)(p z:Nat)(hp:p<8):CT3 w F m x y (updN s p z) (wx.setCell ⟨w.heap.size+1+1+1,p,none⟩ (.int .u64 (z:Nat))) :=
 c.after ((Bt.refl _ _).set _) ((heap_setCell_same _ _ _ _ _ _ c.rS).trans (by rw[ar_set _ _ _ _ _ hp,updI_N]))
theorem CT3.at_{w wx:World}{F m x y:Nat}{s:Nat->Nat}(c:CT3 w F m x y s wx)(j:Nat)(hj:j<8):wx.cell? ⟨w.heap.size+1+1+1,j,none⟩=some (.int .u64 (s j:Nat)):=(cell_of_row _ _ j _ _ _ c.rS).trans (ar_at _ _ _ _ hj)
theorem CT3.at_y{w wx:World}{F m x y:Nat}{s:Nat->Nat}(c:CT3 w F m x y s wx)(j:Nat)(hj:j<4):wx.cell? ⟨w.heap.size+1,0+j,none⟩=some (.int .u64 (pN y j:Nat)):=by
 rw[Nat.zero_add,cell_of_row _ _ j _ _ _ c.r1,pw_ar];exact ar_at _ _ _ _ hj
theorem CT3.at_m{w wx:World}{F m x y:Nat}{s:Nat->Nat}(c:CT3 w F m x y s wx)(j:Nat)(hj:j<4):wx.cell? ⟨F,0+j,none⟩=some (.int .u64 (pN m j:Nat)):=by
 rw[Nat.zero_add,c.fld.cell j (by omega)];unfold frw;rw[if_pos hj]
theorem pN_lt(x j:Nat):pN x j<18446744073709551616:=pN_le x j
theorem ld_top{w wx:World}{F m x y:Nat}{s:Nat->Nat}(c:CT3 w F m x y s wx)(hs:∀ t,s t<18446744073709551616):(Instr.loadAt 24 (.pointer (some ⟨w.heap.size+1+1+1,4,none⟩))).run Tryz.prog wx=.ok (.agg (pw (val (fun j=>s (4+j)) 4))) wx:=by
 rw[pw_ar];have e:∀ j,j<4->pN (val (fun j=>s (4+j)) 4) j=s (4+j):=fun j hj=>by
  have a0:=hs 4;have a1:=hs 5;have a2:=hs 6;have a3:=hs 7;have h:j=0\/j=1\/j=2\/j=3:=by omega
  rw[val_four];unfold pN;show(s 4+18446744073709551616*(s 5+18446744073709551616*(s 6+18446744073709551616*s 7)))%_ / _%_=_;rcases h with rfl | rfl | rfl | rfl
  ·simp;omega
  ·simp;omega
  ·simp;omega
  ·simp;omega
 simp only[Instr.loadAt,Instr.sureAddr,Sem.run_bind,Sem.run_pure,Result.andThen_ok,run_loadVar_part wx (w.heap.size+1+1+1) 4 4 24 .u64 (fun j=>((pN (val (fun j=>s (4+j)) 4) j:Nat):Int)) _ (fun j hj=>by
  show _=some (Value.int .u64 ((pN (val (fun j=>s (4+j)) 4) j:Nat):Int));rw[c.at_ (4+j) (by omega),e j hj]) Tryz.underlying24 rfl infoW4]
-- WHAT times COMES TO.
theorem times_any(F m x y:Nat)(hx:x<2^256)(hy:y<2^256)(hxy:x*y<2^256*m)(w:World)(hF:FldAt w F m):Calls Tryz.prog 108 #[.pointer (some ⟨F,0,none⟩),.agg (pw x),.agg (pw y)] w fun e w'=>e=.returned (.agg (pw (mnt m x y)))/\Below w.heap.size w w':=by
 have H4:=Lib.hid (heap4f w (.cells (pw x) 24) (.cells (pw y) 24) (.cells #[.int .u64 0,.int .u64 0,.int .u64 0,.int .u64 0] 24) (.cells #[.int .u64 0,.int .u64 0,.int .u64 0,.int .u64 0,.int .u64 0,.int .u64 0,.int .u64 0,.int .u64 0] 106));have H0:=Lib.hid (show CT3 w F m x y (fun _=>0) ((((w.alloc (.cells (pw x) 24)).alloc (.cells (pw y) 24)).alloc (.cells #[.int .u64 0,.int .u64 0,.int .u64 0,.int .u64 0] 24)).alloc (.cells #[.int .u64 0,.int .u64 0,.int .u64 0,.int .u64 0,.int .u64 0,.int .u64 0,.int .u64 0,.int .u64 0] 106)) from
  ⟨by go_grown,⟨(show Below w.heap.size w ((((w.alloc (.cells (pw x) 24)).alloc (.cells (pw y) 24)).alloc (.cells #[.int .u64 0,.int .u64 0,.int .u64 0,.int .u64 0] 24)).alloc (.cells #[.int .u64 0,.int .u64 0,.int .u64 0,.int .u64 0,.int .u64 0,.int .u64 0,.int .u64 0,.int .u64 0] 106)) from by go_grown).block _ hF.less |>.trans hF.row,hF.odd,hF.big,hF.lt⟩,H4.out.1,H4.out.2.1,H4.out.2.2.1,H4.out.2.2.2,hF.less⟩)
 have HI:=Lib.hid (show T1 x y 0 (fun _=>0) from⟨fun _=>by show 0<18446744073709551616;omega,fun _ _=>rfl,by simp only[val];simp⟩);have HB:=Lib.hid (And.intro hx (And.intro hy hxy));clear H4 hF hx hy hxy;go_enter Tryz.func108,Tryz.ntmps108
 go_wp2_with (refine wpList_ld rfl 24 _ rfl (.pointer (some ⟨w.heap.size,0,none⟩)) (.agg (pw x)) rfl (ld_pw H0.out.r0) ?_)
 go_loopw [14] (fun iv wr=>∃(k:Nat) (s:Nat->Nat),k<=4/\iv=.int .i64 k/\Hid (T1 x y k s/\CT3 w F m x y s wr)) (fun iv _=>4 - (intOf iv).toNat)
 case atStart=>exact⟨0,fun _=>0,by omega,rfl,Lib.hid ⟨HI.out,H0.out⟩⟩
 case round =>
  obtain⟨k,s,hk,rfl,H⟩:=hrel;clear HI H0;have hk0:(0:Int)<=k:=by omega
  by_cases hlt:k<4
  ·have hlt':(k:Int)<4:=by omega
   have hix:=idx_pw x k hlt;obtain⟨z,hz⟩:∃ z,pN x k=z:=⟨_,rfl⟩
   rw[hz]at hix;have hsl:=slice8 (w.heap.size+1+1+1) k (by omega);have har:=arr8 (w.heap.size+1+1+1) k (by omega);obtain⟨L,hL⟩:∃ L,8 - k=L:=⟨_,rfl⟩
   rw[hL]at hsl har;obtain⟨p,hp⟩:∃ p:Nat,(k:Int)+4=(p:Int):=⟨k+4,by omega⟩
   have hp0:(0:Int)<=p:=by omega
   have hp8:(p:Int)<8:=by omega
   have hwp:IntKind.i64.wrap (p:Int)=(p:Int):=by rw[IntKind.wrap_i64];omega
   have HP:=Lib.hid (And.intro hlt (show k+4=p by omega));have HZ:=Lib.hid hz;clear hz hL
   go_wp2_with fail
   refine(addTimes_any (w.heap.size+1+1+1) (w.heap.size+1) 0 k z (pN y) s (by omega) (by rw[<- HZ.out];exact pN_lt _ _) (pN_lt y) H.out.1.lt (by omega) wr H.out.2.rS (fun j hj=>H.out.2.at_y j hj)).mono ?_;rintro e w5 ⟨c,s1,rfl,hI,hCA⟩;have HC:=Lib.hid (H.out.2.after hCA.bt hCA.row);have HT:=Lib.hid (show T1 x y (k+1) (updN s1 p c) from by
    rw[<- HZ.out]at hI;have:=H.out.1.next HP.out.1 hI;rwa [HP.out.2]at this)
   have co:=HC.out.at_ p (by omega);have fo:=frozen_of_row w5 (w.heap.size+1+1+1) p _ _ HC.out.rS;clear hI hCA H
   go_wp2_with fail
   go_roundw
   case rel=>exact⟨k+1,updN s1 p c,by have:=HP.out.1;omega,by go_num,Lib.hid ⟨HT.out,HC.out.set p c (by omega)⟩⟩
   case measure=>simp[intOf];omega
  ·obtain rfl:k=4:=by omega
   have hlt':¬((4:Nat):Int)<4:=by omega
   have H2:=Lib.hid (show T2 m (x*y) 0 0 s/\CT3 w F m x y s wr from by
    refine⟨⟨H.out.1.lt,by omega,fun t ht=>by omega,0,by simp,?_⟩,H.out.2⟩;rw[H.out.1.sum,val_pN,val_pN,Nat.mod_eq_of_lt HB.out.1,Nat.mod_eq_of_lt HB.out.2.1];simp)
   clear H hlt hlt' hk0 hk;simp only[Int.cast_ofNat_Int]
   go_wp2_with fail
   go_loopw [10,27] (fun bv iv wr=>∃(k be:Nat) (s:Nat->Nat),k<=4/\be<=1/\bv=.int .u64 be/\iv=.int .i64 k/\Hid (T2 m (x*y) k be s/\CT3 w F m x y s wr)) (fun _ iv _=>4 - (intOf iv).toNat)
   case atStart=>exact⟨0,0,s,by omega,by omega,rfl,rfl,H2⟩
   case round =>
    obtain⟨k,be,s,hk,hbe,rfl,rfl,H⟩:=hrel;clear H2;have hk0:(0:Int)<=k:=by omega
    by_cases hlt:k<4
    ·have hlt':(k:Int)<4:=by omega
     obtain⟨p,hp⟩:∃ p:Nat,(k:Int)+4=(p:Int):=⟨k+4,by omega⟩
     have hp0:(0:Int)<=p:=by omega
     have hp8:(p:Int)<8:=by omega
     have hwp:IntKind.i64.wrap (p:Int)=(p:Int):=by rw[IntKind.wrap_i64];omega
     obtain⟨q,hq⟩:∃ q,s k*nin m%18446744073709551616=q:=⟨_,rfl⟩
     have HP:=Lib.hid (And.intro hlt (And.intro (show k+4=p by omega) (And.intro hq hbe)));obtain⟨L,hL⟩:∃ L,8 - k=L:=⟨_,rfl⟩
     have HL:=Lib.hid hL;clear hq hL
     go_wp2_with fail
     refine region_quiet_tail 14 (CT3 w F m x y s) (by kernel_rfl) (by kernel_rfl) (H.out.2.drew) ?_;simp only[List.take_succ_cons,List.take_zero,List.drop_succ_cons,List.drop_zero]
     with_reducible refine q_val (.int .i64 (k:Nat)) (by kernel_rfl) (fun _ _=>by kernel_rfl) ?_
     with_reducible refine q_sem2 (Instr.sliceAt 106 (.pointer (some ⟨w.heap.size+1+1+1,0,none⟩)) (some (.int .i64 (k:Nat))) none none) (.slice (some ⟨w.heap.size+1+1+1,k,none⟩) L L) (by kernel_rfl) (by kernel_rfl) (fun w' _=>by rw[<- HL.out];exact slice8 _ k (by have:=HP.out.1;omega) w') ?_
     with_reducible refine q_sem2 (Instr.arrayAt 24 (.slice (some ⟨w.heap.size+1+1+1,k,none⟩) L L)) (.pointer (some ⟨w.heap.size+1+1+1,k,none⟩)) (by kernel_rfl) (by kernel_rfl) (fun w' _=>by rw[<- HL.out];exact arr8 _ k (by have:=HP.out.1;omega) w') ?_
     with_reducible refine q_val (.pointer (some ⟨F,0,none⟩)) (by kernel_rfl) (fun _ _=>by kernel_rfl) ?_
     with_reducible refine q_val (.pointer (some ⟨F,0,none⟩)) (by kernel_rfl) (fun _ _=>run_nil (.tmp 33) _ rfl (by kernel_rfl)) ?_
     with_reducible refine q_sem2 (Instr.fieldAt 145 (.pointer (some ⟨F,0,none⟩)) 0) (.pointer (some ⟨F,0,none⟩)) (by kernel_rfl) (by kernel_rfl) (fun w' _=>fld_at F w') ?_
     with_reducible refine q_val (.int .i64 (k:Nat)) (by kernel_rfl) (fun _ _=>by kernel_rfl) ?_
     with_reducible refine q_sem2 (Instr.indexAt 106 (.pointer (some ⟨w.heap.size+1+1+1,0,none⟩)) (.int .i64 (k:Nat))) (.pointer (some ⟨w.heap.size+1+1+1,k,none⟩)) (by kernel_rfl) (by kernel_rfl) (fun w' _=>at8f _ k (by have:=HP.out.1;omega) w') ?_
     with_reducible refine q_load 22 (.tmp 37) (.pointer (some ⟨w.heap.size+1+1+1,k,none⟩)) (.int .u64 (s k:Nat)) rfl (by kernel_rfl) (by kernel_rfl) (fun _ c=>load_u64 _ _ _ _ (c.at_ k (by have:=HP.out.1;omega))) ?_
     with_reducible refine q_val (.pointer (some ⟨F,0,none⟩)) (by kernel_rfl) (fun _ _=>by kernel_rfl) ?_
     with_reducible refine q_val (.pointer (some ⟨F,0,none⟩)) (by kernel_rfl) (fun _ _=>run_nil (.tmp 39) _ rfl (by kernel_rfl)) ?_
     with_reducible refine q_sem2 (Instr.fieldAt 145 (.pointer (some ⟨F,0,none⟩)) 1) (.pointer (some ⟨F,4,none⟩)) (by kernel_rfl) (by kernel_rfl) (fun w' _=>fld_inv F w') ?_
     with_reducible refine q_load 22 (.tmp 41) (.pointer (some ⟨F,4,none⟩)) (.int .u64 (nin m:Nat)) rfl (by kernel_rfl) (by kernel_rfl) (fun _ c=>ld_inv c.fld) ?_
     with_reducible refine q_bin .mul 22 _ _ 22 (.int .u64 (s k:Nat)) (.int .u64 (nin m:Nat)) (.int .u64 (q:Nat)) rfl (by kernel_rfl) (by kernel_rfl) (by kernel_rfl) (fun _=>by kernel_rfl) (fun w'=>mul_u _ _ _ HP.out.2.2.1 w') ?_
     with_reducible refine wpQuiet_nil ?_
     intro wx hC;have HC:=Lib.hid hC;clear hC;simp only[Act.put,List.setIfInBounds_toArray,List.set_cons_succ,List.set_cons_zero]
     go_wp2_with fail
     refine(addTimes_any (w.heap.size+1+1+1) F 0 k q (pN m) s (by have:=HP.out.1;omega) (by rw[<- HP.out.2.2.1];exact Nat.mod_lt _ (by omega)) (pN_lt m) H.out.1.lt (by have:=HC.out.hF;omega) wx HC.out.rS (fun j hj=>HC.out.at_m j hj)).mono ?_;rintro e w5 ⟨c,s1,rfl,hI,hCA⟩;have HC5:=Lib.hid (HC.out.after hCA.bt hCA.row);obtain⟨d,be',hbe',hd,he,hA⟩:=add64_ex (s1 p) c be (hI.lt p) hI.clt HP.out.2.2.2;have HT:=Lib.hid (show T2 m (x*y) (k+1) be' (updN s1 p d) from by
      rw[<- HP.out.2.2.1]at hI;rw[<- HP.out.2.1]at he |-
      exact H.out.1.next HC.out.fld.odd HC.out.fld.lt HP.out.1 hI hd hbe' he)
     have co:=HC5.out.at_ p (by omega);have fo:=frozen_of_row w5 (w.heap.size+1+1+1) p _ _ HC5.out.rS;obtain⟨z,hz⟩:∃ z,s1 p=z:=⟨_,rfl⟩
     rw[hz]at hA co;have HBE:=Lib.hid hbe';clear hI hCA H HC he hd hz hbe'
     go_wp2_with fail
     go_roundw
     case rel=>exact⟨k+1,be',updN s1 p d,by have:=HP.out.1;omega,HBE.out,rfl,by go_num,Lib.hid ⟨HT.out,HC5.out.set p d (by omega)⟩⟩
     case measure=>simp[intOf];omega
    ·obtain rfl:k=4:=by omega
     have hlt':¬((4:Nat):Int)<4:=by omega
     have hsl:=slice8 (w.heap.size+1+1+1) 4 (by omega);have har:=arr8 (w.heap.size+1+1+1) 4 (by omega);have HD:=Lib.hid (H.out.1.done H.out.2.fld.odd H.out.2.fld.big H.out.2.fld.lt HB.out.2.2);have HLD:=Lib.hid (ld_top H.out.2 H.out.1.lt);obtain⟨u,hu⟩:∃ u,val (fun j=>s (4+j)) 4=u:=⟨_,rfl⟩
     rw[hu]at HD HLD;clear hu;have hbq:((be:Int) == 1)=decide (be=1):=by
      by_cases e:be=1
      ·subst e;rfl
      ·have:¬(be:Int)=1:=by omega
       simp[e,this]
     obtain⟨B,hB⟩:∃ B,decide (be=1)=B:=⟨_,rfl⟩
     rw[hB]at HD hbq;clear hB
     go_wp2_with (refine wpList_ld rfl 24 _ rfl (.pointer (some ⟨w.heap.size+1+1+1,4,none⟩)) (.agg (pw u)) rfl HLD.out ?_)
     refine(lessOnce_any F m u B _ H.out.2.fld).mono ?_;rintro e w6 ⟨rfl,hb6⟩;have H6:=Lib.hid (H.out.2.below hb6);clear hb6 HLD
     go_wp2_with (refine wpList_store_row rfl 24 _ _ rfl (w.heap.size+1+1) (pw (lessV m u B)) rfl rfl 24 #[.int .u64 0,.int .u64 0,.int .u64 0,.int .u64 0] (by exact H6.out.r2) (by rw[pw_size];exact infoW4) (by rw[pw_size];rfl) (pw_one _) ?_)
     (try simp only[Act.put])
     refine bodyPost_ret (v:=.agg (pw (lessV m u B))) (results_cell_row (p:=6) rfl _ _ (w.heap.size+1+1) 24 (pw (lessV m u B)) (0,0) _ rfl (setRow_heap _ _ _ _ _ _ H6.out.r2) Tryz.underlying24 rfl (by rw[pw_size];exact infoW4)) rfl ⟨?_,below_setRow H6.out.old (by omega) _⟩;exact congrArg Ending.returned HD.out
open Go.RowKit
structure CW (w:World) (F m:Nat) (L:List (Nat × Array Value)) (wx:World):Prop where
 old:Below w.heap.size w wx
 fld:FldAt wx F m
 hF:F<w.heap.size
 rows:∀ p∈L,wx.heap[p.1]?=some (.cells p.2 24 (0,0))
theorem CW.is{w wx:World}{F m:Nat}{L:List (Nat × Array Value)}(c:CW w F m L wx)(g:Nat)(cs:Array Value)(hm:(g,cs)∈L):wx.heap[g]?=some (.cells cs 24 (0,0)):=c.rows _ hm
theorem CW.below{w wx w':World}{F m:Nat}{L:List (Nat × Array Value)}(c:CW w F m L wx)(hb:Below wx.heap.size wx w'):CW w F m L w' :=
 ⟨c.old.trans (hb.mono c.old.size),c.fld.below hb,c.hF,fun p hp=>(hb.block _ (Array.getElem?_eq_some_iff.1 (c.rows p hp)).1).trans (c.rows p hp)⟩
theorem CW.drew{w wx:World}{F m:Nat}{L:List (Nat × Array Value)}(c:CW w F m L wx):CW w F m L wx.drew:=c.below (Below.drew (Below.refl _ _))
theorem CW.new{w wx:World}{F m:Nat}{L:List (Nat × Array Value)}(c:CW w F m L wx)(cs:Array Value):CW w F m ((wx.heap.size,cs)::L) (wx.alloc (.cells cs 24)):=by
 have h:=c.below ((Below.refl _ _).alloc (Nat.le_refl _) (.cells cs 24));refine⟨h.old,h.fld,h.hF,fun p hp=>?_⟩;rcases List.mem_cons.1 hp with rfl | hp
 ·exact heap_alloc_new _ _
 ·exact h.rows p hp
theorem CW.put{w wx:World}{F m:Nat}{L:List (Nat × Array Value)}(c:CW w F m L wx)(g:Nat)(c0 cs:Array Value)(L':List (Nat × Array Value))(hg:w.heap.size<=g)(hm:(g,c0)∈L)(hs:∀ p∈L',p∈L/\p.1≠g):CW w F m ((g,cs)::L') (wx.setRow g cs):=by
 have h2:=c.hF;refine⟨below_setRow c.old hg _,⟨(setRow_other _ _ _ _ (by omega)).trans c.fld.row,c.fld.odd,c.fld.big,c.fld.lt⟩,c.hF,fun p hp=>?_⟩;rcases List.mem_cons.1 hp with rfl | hp
 ·exact setRow_heap _ _ _ _ _ _ (c.rows _ hm)
 ·exact(setRow_other _ _ _ _ (hs p hp).2).trans (c.rows p (hs p hp).1)
theorem CW.start{w:World}{F m:Nat}(h:FldAt w F m):CW w F m [] w:=⟨Below.refl _ _,h,h.less,fun p hp=>by cases hp⟩
theorem CW.one{w:World}{F m:Nat}(h:FldAt w F m)(a:Nat):CW w F m [(w.heap.size+1,#[.int .u64 0,.int .u64 0,.int .u64 0,.int .u64 0]),(w.heap.size,pw a)] ((w.alloc (.cells (pw a) 24)).alloc (.cells #[.int .u64 0,.int .u64 0,.int .u64 0,.int .u64 0] 24)):=by
 have:=((CW.start h).new (pw a)).new #[.int .u64 0,.int .u64 0,.int .u64 0,.int .u64 0];rwa [World.size_alloc]at this
theorem CW.two{w:World}{F m:Nat}(h:FldAt w F m)(a b:Nat):CW w F m [(w.heap.size+1+1,#[.int .u64 0,.int .u64 0,.int .u64 0,.int .u64 0]),(w.heap.size+1,pw b),(w.heap.size,pw a)] (((w.alloc (.cells (pw a) 24)).alloc (.cells (pw b) 24)).alloc (.cells #[.int .u64 0,.int .u64 0,.int .u64 0,.int .u64 0] 24)):=by
 have:=(((CW.start h).new (pw a)).new (pw b)).new #[.int .u64 0,.int .u64 0,.int .u64 0,.int .u64 0];rwa [World.size_alloc,World.size_alloc]at this
theorem CW.calls{w:World}{F m:Nat}{L:List (Nat × Array Value)}{f:FuncId}{args:Array Value}{v:Value}(h:∀ wx,FldAt wx F m->Calls Tryz.prog f args wx fun e w'=>e=.returned v/\Below wx.heap.size wx w'):∀ wx,CW w F m L wx->Calls Tryz.prog f args wx fun e w'=>e=.returned v/\CW w F m L w' :=
 fun wx c=>(h wx c.fld).mono fun _ _ hh=>⟨hh.1,c.below hh.2⟩
theorem prod_lt{a b c m:Nat}(ha:a<c)(hb:b<m):a*b<c*m:=by
 have h1:a*b<=c*b:=Nat.mul_le_mul_right b (Nat.le_of_lt ha);have h2:c*b<c*m:=Nat.mul_lt_mul_of_pos_left hb (by omega);omega
open Go.RowKit
theorem sqr_lt{m:Nat}(h:1<m):sqr m<m:=Nat.mod_lt _ (by omega)
-- WHAT scaled COMES TO.
theorem scaled_any(F m a:Nat)(ha:a<2^256)(w:World)(hF:FldAt w F m):Calls Tryz.prog 109 #[.pointer (some ⟨F,0,none⟩),.agg (pw a)] w fun e w'=>e=.returned (.agg (pw (a*2^256%m)))/\Below w.heap.size w w':=by
 have H0:=Lib.hid (CW.one hF a);have HT:=Lib.hid (CW.calls (w:=w) (F:=F) (m:=m) (L:=[(w.heap.size+1,#[.int .u64 0,.int .u64 0,.int .u64 0,.int .u64 0]),(w.heap.size,pw a)]) (fun wx hf=>times_any F m a (sqr m) ha (Nat.lt_trans (sqr_lt hf.big) hf.lt) (prod_lt ha (sqr_lt hf.big)) wx hf));have HQ:=Lib.hid (show mnt m a (sqr m)=a*2^256%m from mnt_scaled hF.odd hF.big a);clear hF ha;rw[HQ.out]at HT;obtain⟨y,hy⟩:∃ y,a*2^256%m=y:=⟨_,rfl⟩
 rw[hy]at HT |-
 clear hy HQ;go_enter Tryz.func109,Tryz.ntmps109
 go_wp2_with fail
 refine region_quiet_tail 7 (CW w F m [(w.heap.size+1,#[.int .u64 0,.int .u64 0,.int .u64 0,.int .u64 0]),(w.heap.size,pw a)]) (by kernel_rfl) (by kernel_rfl) (H0.out.drew) ?_;simp only[List.take_succ_cons,List.take_zero,List.drop_succ_cons,List.drop_zero]
 with_reducible refine q_val (.pointer (some ⟨F,0,none⟩)) (by kernel_rfl) (fun _ _=>by kernel_rfl) ?_
 with_reducible refine q_load 24 (.tmp 3) (.pointer (some ⟨w.heap.size,0,none⟩)) (.agg (pw a)) rfl (by kernel_rfl) (by kernel_rfl) (fun _ c=>ld_pw (c.is _ _ (by simp))) ?_
 with_reducible refine q_val (.pointer (some ⟨F,0,none⟩)) (by kernel_rfl) (fun _ _=>by kernel_rfl) ?_
 with_reducible refine q_val (.pointer (some ⟨F,0,none⟩)) (by kernel_rfl) (fun _ _=>run_nil (.tmp 7) _ rfl (by kernel_rfl)) ?_
 with_reducible refine q_sem2 (Instr.fieldAt 145 (.pointer (some ⟨F,0,none⟩)) 2) (.pointer (some ⟨F,5,none⟩)) (by kernel_rfl) (by kernel_rfl) (fun w' _=>fld_sq F w') ?_
 with_reducible refine q_load 24 (.tmp 9) (.pointer (some ⟨F,5,none⟩)) (.agg (pw (sqr m))) rfl (by kernel_rfl) (by kernel_rfl) (fun _ c=>ld_sq c.fld) ?_
 with_reducible refine q_call 108 #[.pointer (some ⟨F,0,none⟩),.agg (pw a),.agg (pw (sqr m))] (.agg (pw y)) (by kernel_rfl) (fun _=>by kernel_rfl) (HT.out) ?_
 with_reducible refine wpQuiet_nil ?_
 intro wx hC;have HC:=Lib.hid hC;clear hC H0 HT;simp only[Act.put,List.setIfInBounds_toArray,List.set_cons_succ,List.set_cons_zero]
 go_wp2_with (refine wpList_store_row rfl 24 _ _ rfl (w.heap.size+1) (pw y) rfl rfl 24 (#[.int .u64 0,.int .u64 0,.int .u64 0,.int .u64 0]) (by exact HC.out.is _ _ (by simp)) (by rw[pw_size];exact infoW4) (by first | rfl | (rw[pw_size];rfl) | (rw[pw_size,pw_size])) (pw_one _) ?_)
 (try simp only[Act.put])
 refine bodyPost_ret (v:=.agg (pw y)) (results_cell_row (p:=4) rfl _ _ (w.heap.size+1) 24 (pw y) (0,0) _ rfl (setRow_heap _ _ _ _ _ _ (by exact HC.out.is _ (#[.int .u64 0,.int .u64 0,.int .u64 0,.int .u64 0]) (by simp))) Tryz.underlying24 rfl (by rw[pw_size];exact infoW4)) rfl ⟨rfl,below_setRow HC.out.old (by omega) _⟩
-- WHAT Mul COMES TO.
theorem fmul_any(F m a b:Nat)(ha:a<2^256)(hb:b<2^256)(w:World)(hF:FldAt w F m):Calls Tryz.prog 67 #[.pointer (some ⟨F,0,none⟩),.agg (pw a),.agg (pw b)] w fun e w'=>e=.returned (.agg (pw (a*b%m)))/\Below w.heap.size w w':=by
 have H0:=Lib.hid (CW.two hF a b);have HSC:=Lib.hid (CW.calls (w:=w) (F:=F) (m:=m) (L:=[(w.heap.size+1+1,#[.int .u64 0,.int .u64 0,.int .u64 0,.int .u64 0]),(w.heap.size+1,pw b),(w.heap.size,pw a)]) (fun wx hf=>scaled_any F m a ha wx hf));have hlt:a*2^256%m<m:=Nat.mod_lt _ (by have:=hF.big;omega);have HT:=Lib.hid (CW.calls (w:=w) (F:=F) (m:=m) (L:=[(w.heap.size+1+1,#[.int .u64 0,.int .u64 0,.int .u64 0,.int .u64 0]),(w.heap.size+1,pw b),(w.heap.size,pw a)]) (fun wx hf=>times_any F m (a*2^256%m) b (Nat.lt_trans hlt hf.lt) hb (by rw[Nat.mul_comm];exact prod_lt hb hlt) wx hf));rw[mnt_back hF.odd hF.big a b]at HT;obtain⟨y,hy⟩:∃ y,a*b%m=y:=⟨_,rfl⟩
 obtain⟨z,hz⟩:∃ z,a*2^256%m=z:=⟨_,rfl⟩
 rw[hy]at HT |-
 rw[hz]at HT HSC;clear hF ha hb hlt hy hz;go_enter Tryz.func67,Tryz.ntmps67
 go_wp2_with fail
 refine region_quiet_tail 6 (CW w F m [(w.heap.size+1+1,#[.int .u64 0,.int .u64 0,.int .u64 0,.int .u64 0]),(w.heap.size+1,pw b),(w.heap.size,pw a)]) (by kernel_rfl) (by kernel_rfl) (H0.out.drew) ?_;simp only[List.take_succ_cons,List.take_zero,List.drop_succ_cons,List.drop_zero]
 with_reducible refine q_val (.pointer (some ⟨F,0,none⟩)) (by kernel_rfl) (fun _ _=>by kernel_rfl) ?_
 with_reducible refine q_val (.pointer (some ⟨F,0,none⟩)) (by kernel_rfl) (fun _ _=>by kernel_rfl) ?_
 with_reducible refine q_load 24 (.tmp 4) (.pointer (some ⟨w.heap.size,0,none⟩)) (.agg (pw a)) rfl (by kernel_rfl) (by kernel_rfl) (fun _ c=>ld_pw (c.is _ _ (by simp))) ?_
 with_reducible refine q_call 109 #[.pointer (some ⟨F,0,none⟩),.agg (pw a)] (.agg (pw z)) (by kernel_rfl) (fun _=>by kernel_rfl) (HSC.out) ?_
 with_reducible refine q_load 24 (.tmp 5) (.pointer (some ⟨w.heap.size+1,0,none⟩)) (.agg (pw b)) rfl (by kernel_rfl) (by kernel_rfl) (fun _ c=>ld_pw (c.is _ _ (by simp))) ?_
 with_reducible refine q_call 108 #[.pointer (some ⟨F,0,none⟩),.agg (pw z),.agg (pw b)] (.agg (pw y)) (by kernel_rfl) (fun _=>by kernel_rfl) (HT.out) ?_
 with_reducible refine wpQuiet_nil ?_
 intro wx hC;have HC:=Lib.hid hC;clear hC H0 HT HSC;simp only[Act.put,List.setIfInBounds_toArray,List.set_cons_succ,List.set_cons_zero]
 go_wp2_with (refine wpList_store_row rfl 24 _ _ rfl (w.heap.size+1+1) (pw y) rfl rfl 24 (#[.int .u64 0,.int .u64 0,.int .u64 0,.int .u64 0]) (by exact HC.out.is _ _ (by simp)) (by rw[pw_size];exact infoW4) (by first | rfl | (rw[pw_size];rfl) | (rw[pw_size,pw_size])) (pw_one _) ?_)
 (try simp only[Act.put])
 refine bodyPost_ret (v:=.agg (pw y)) (results_cell_row (p:=6) rfl _ _ (w.heap.size+1+1) 24 (pw y) (0,0) _ rfl (setRow_heap _ _ _ _ _ _ (by exact HC.out.is _ (#[.int .u64 0,.int .u64 0,.int .u64 0,.int .u64 0]) (by simp))) Tryz.underlying24 rfl (by rw[pw_size];exact infoW4)) rfl ⟨rfl,below_setRow HC.out.old (by omega) _⟩
open Go.RowKit
theorem quot_of{A y q:Nat}(hy:0<y)(h1:q*y<=A)(h2:A / y<=q):q=A / y :=
 Nat.le_antisymm ((Nat.le_div_iff_mul_le hy).2 h1) h2
structure Half (y1 y0 v u q r:Nat):Prop where
 split:q*y1+r=v
 least:(v*4294967296+u) / (4294967296*y1+y0)<=q
 most:q<=4294967297
 rest:r<4294967296
section
variable {y1 y0 v u q r:Nat} (h31:2147483648<=y1) (h32:y1<4294967296) (hy0:y0<4294967296) (hu:u<4294967296)
include h31 h32 hy0 hu
theorem Half.start(hv:v<4294967296*y1+y0):Half y1 y0 v u (v / y1) (v%y1):=by
 have hpos:0<y1:=by omega
 have hd:=Nat.div_add_mod v y1;have hm:=Nat.mod_lt v hpos;refine⟨by rw[Nat.mul_comm];exact hd,?_,?_,by omega⟩
 ·have hlt:v*4294967296+u<(v / y1+1)*(4294967296*y1+y0):=by
   have h1:v+1<=(v / y1+1)*y1:=by rw[Nat.add_mul,Nat.one_mul,Nat.mul_comm];omega
   have h2:(v+1)*4294967296<=(v / y1+1)*y1*4294967296:=Nat.mul_le_mul_right _ h1;have h3:(v / y1+1)*(4294967296*y1+y0)=(v / y1+1)*y1*4294967296+(v / y1+1)*y0:=by grind
   omega
  have:(v*4294967296+u) / (4294967296*y1+y0)<v / y1+1:=by rw[Nat.div_lt_iff_lt_mul (by omega)];exact hlt
  omega
 ·have:v / y1<4294967298:=by rw[Nat.div_lt_iff_lt_mul hpos];omega
  omega
omit hu in
theorem Half.fits(h:Half y1 y0 v u q r)(h2:q*y0<=4294967296*r+u):q=(v*4294967296+u) / (4294967296*y1+y0):=by
 refine quot_of (by omega) ?_ h.least;have h3:q*(4294967296*y1+y0)=(q*y1)*4294967296+q*y0:=by grind
 have h4:=h.split;omega
omit h31 h32 hy0 in
theorem Half.less(h:Half y1 y0 v u q r)(hv:v<4294967296*y1+y0)(ht:4294967296<=q\/4294967296*r+u<q*y0):(v*4294967296+u) / (4294967296*y1+y0)<q:=by
 rcases ht with ht | ht
 ·refine Nat.lt_of_lt_of_le ?_ ht
  rw[Nat.div_lt_iff_lt_mul (by omega)];omega
 ·rw[Nat.div_lt_iff_lt_mul (by omega)]
  have h3:q*(4294967296*y1+y0)=(q*y1)*4294967296+q*y0:=by grind
  have h4:=h.split;omega
omit h31 h32 hy0 in
theorem Half.down{p:Nat}(h:Half y1 y0 v u (p+1) r)(hv:v<4294967296*y1+y0)(ht:4294967296<=p+1\/4294967296*r+u<(p+1)*y0)(hr:r+y1<4294967296):Half y1 y0 v u p (r+y1):=by
 have hl:=h.less hu hv ht;have h4:=h.split;have h5:=h.most;exact⟨by rw[Nat.add_mul]at h4;omega,by omega,by omega,hr⟩
omit h31 h32 in
theorem Half.ends{p:Nat}(h:Half y1 y0 v u (p+1) r)(hv:v<4294967296*y1+y0)(ht:4294967296<=p+1\/4294967296*r+u<(p+1)*y0)(hr:4294967296<=r+y1):p=(v*4294967296+u) / (4294967296*y1+y0):=by
 have hl:=h.less hu hv ht;have h4:=h.split;have h5:=h.most;refine quot_of (by omega) ?_ (by omega);have h3:p*(4294967296*y1+y0)=(p*y1)*4294967296+p*y0:=by grind
 have h6:p*y0<=4294967296*4294967295:=Nat.mul_le_mul (by omega) (by omega);rw[Nat.add_mul]at h4;omega
omit h31 h32 hy0 in
theorem Half.pos(h:Half y1 y0 v u q r)(hv:v<4294967296*y1+y0)(ht:4294967296<=q\/4294967296*r+u<q*y0):0<q:=by
 exact Nat.lt_of_le_of_lt (Nat.zero_le _) (h.less hu hv ht)
end
theorem halves{y hi u1 u0:Nat}(hy:0<y) :
  (hi*4294967296+u1) / y*4294967296+((hi*4294967296+u1)%y*4294967296+u0) / y=(hi*18446744073709551616+(u1*4294967296+u0)) / y:=by
 have hd:=Nat.div_add_mod (hi*4294967296+u1) y;have e:hi*18446744073709551616+(u1*4294967296+u0)=(hi*4294967296+u1)*4294967296+u0:=by omega
 rw[e];have e2:(hi*4294967296+u1)*4294967296+u0=y*((hi*4294967296+u1) / y*4294967296)+((hi*4294967296+u1)%y*4294967296+u0):=by
  have:(hi*4294967296+u1)*4294967296=(y*((hi*4294967296+u1) / y)+(hi*4294967296+u1)%y)*4294967296:=by rw[hd]
  rw[this]
  grind
 rw[e2,Nat.mul_add_div hy]
end Go.Proofs.YtadfjjfklihaaaaGreat
