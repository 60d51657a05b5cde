/- bailiwicklaw07.FieldInverses: the statement about it: whatever the input: true; the input reads as it did. CONDITIONS: none. (With it, merged: FInvs · FieldInverses.) -/
import Derived.Test.YtfgefifplmhopaaM8
namespace Go.Proofs.Ytfgefifplmhopaa
open Go.RowKit
set_option maxRecDepth 100000 in
set_option maxHeartbeats 4000000 in
theorem finverses_any (a b : Nat) (ha : a < 115792089237316195423570985008687907853269984665640564039457584007913129639936) (hb : b < 115792089237316195423570985008687907853269984665640564039457584007913129639936) (w : World) : Calls Try.prog 7 #[.agg (pw a), .agg (pw b)] w fun e w' => e = .returned (.bool true) ∧ Below w.heap.size w w' := by
  have HAB := Lib.hid (And.intro ha hb)
  clear ha hb
  go_enter Try.func7, Try.ntmps7
  go_wp2_with fail
  refine (fields_any _).mono ?_
  rintro e w1 ⟨l, f, g, h, rfl, hfd, hb1⟩
  have H1 := Lib.hid (show CF w l f g h [(w.heap.size + 1, pw b), (w.heap.size, pw a)] w1 from by
    have hb0 : Below w.heap.size w (w.alloc (.cells (pw a) 24)) := (Below.refl _ _).alloc (Nat.le_refl _) _
    have hb2 : Below (w.heap.size + 1) (w.alloc (.cells (pw a) 24)) ((w.alloc (.cells (pw a) 24)).alloc (.cells (pw b) 24)) := (Below.refl _ _).alloc (by simp) _
    have hs : ((w.alloc (.cells (pw a) 24)).alloc (.cells (pw b) 24)).heap.size = w.heap.size + 1 + 1 := by simp
    have hr := heap_alloc_new (w.alloc (.cells (pw a) 24)) (.cells (pw b) 24)
    rw [World.size_alloc] at hr
    refine ⟨(hb0.trans (hb2.mono (by omega))).trans (hb1.mono (by omega)), hfd, fun p hp => ?_⟩
    simp only [List.mem_cons, List.not_mem_nil, or_false] at hp
    rcases hp with rfl | rfl
    · exact (hb1.block _ (by show w.heap.size + 1 < _; omega)).trans hr
    · exact (hb1.block _ (by show w.heap.size < _; omega)).trans ((hb2.block _ (by omega)).trans (heap_alloc_new _ _)))
  clear hfd hb1
  go_wp2_with fail
  go_loopw [6] (fun iv wr => ∃ k : Nat, k ≤ 3 ∧ iv = .int .i64 k ∧ Hid (CF w l f g h [(w.heap.size + 1, pw b), (w.heap.size, pw a)] wr)) (fun iv _ => 3 - (intOf iv).toNat)
  case atStart => exact ⟨0, by omega, rfl, H1⟩
  case round =>
    obtain ⟨k, hk, rfl, H⟩ := hrel
    clear H1
    have hk0 : (0 : Int) ≤ k := by omega
    by_cases hlt : k < 3
    · have hlt' : (k : Int) < 3 := by omega
      obtain ⟨F, m, hp, hat⟩ := Fds.one (l := l) (f := f) (g := g) (h := h) k hlt
      have cp := (hat wr H.out.fds).1
      have HP := Lib.hid hp
      have HAT := Lib.hid (fun wx (c : Fds wx l f g h) => (hat wx c).2)
      have HA := Lib.hid (fun wx (hf : FldAt wx F m) => finv_prime hp HAB.out.1 wx hf)
      have HB := Lib.hid (fun wx (hf : FldAt wx F m) => finv_prime hp HAB.out.2 wx hf)
      obtain ⟨x, hx⟩ : ∃ x, (if m ∣ a then 0 else invN m a) = x := ⟨_, rfl⟩
      obtain ⟨y, hy⟩ : ∃ y, (if m ∣ b then 0 else invN m b) = y := ⟨_, rfl⟩
      obtain ⟨pa, hpa⟩ : ∃ pa, decide (¬ m ∣ a) = pa := ⟨_, rfl⟩
      obtain ⟨pb, hpb⟩ : ∃ pb, decide (¬ m ∣ b) = pb := ⟨_, rfl⟩
      rw [hx, hpa] at HA
      rw [hy, hpb] at HB
      have HX := Lib.hid (And.intro hx (And.intro hpa (And.intro hy hpb)))
      have HK := Lib.hid hlt
      clear hx hy hpa hpb hp hat hlt hk
      go_wp2_with (refine wpList_ld rfl 24 _ rfl (.pointer (some ⟨w.heap.size, 0, none⟩)) (.agg (pw a)) rfl (ld_pw (by exact H.out.is _ _ (by simp))) ?_)
      refine (HA.out _ (HAT.out _ H.out.fds)).mono ?_
      rintro e w2 ⟨rfl, hb2⟩
      have H2 := Lib.hid ((H.out.below hb2).lay (pw x))
      have G2 := Lib.hid (heap_alloc_new w2 (.cells (#[.int .u64 0, .int .u64 0, .int .u64 0, .int .u64 0]) 24))
      clear hb2 H cp
      go_upto_region 9 with (refine wpList_store_row rfl 24 _ _ rfl w2.heap.size (pw x) rfl rfl 24 (#[.int .u64 0, .int .u64 0, .int .u64 0, .int .u64 0]) (by exact G2.out) (by rw [pw_size]; exact infoW4) (by rw [pw_size]; rfl) (pw_one _) ?_)
      obtain ⟨w3, hw3⟩ : ∃ w3, (w2.alloc (.cells (#[.int .u64 0, .int .u64 0, .int .u64 0, .int .u64 0]) 24)).setRow w2.heap.size (pw x) = w3 := ⟨_, rfl⟩
      obtain ⟨g8, hg8⟩ : ∃ g8, w2.heap.size = g8 := ⟨_, rfl⟩
      rw [hw3, hg8] at H2
      rw [hw3, hg8]
      clear hw3 hg8 G2
      go_wp2_with (refine wpList_ld rfl 24 _ rfl (.pointer (some ⟨w.heap.size + 1, 0, none⟩)) (.agg (pw b)) rfl (ld_pw (by exact H2.out.is _ _ (by simp))) ?_)
      refine (HB.out _ (HAT.out _ H2.out.fds)).mono ?_
      rintro e w4 ⟨rfl, hb4⟩
      have H4 := Lib.hid ((H2.out.below hb4).lay (pw y))
      have G4 := Lib.hid (heap_alloc_new w4 (.cells (#[.int .u64 0, .int .u64 0, .int .u64 0, .int .u64 0]) 24))
      clear hb4 H2
      go_upto_region 10 with (refine wpList_store_row rfl 24 _ _ rfl w4.heap.size (pw y) rfl rfl 24 (#[.int .u64 0, .int .u64 0, .int .u64 0, .int .u64 0]) (by exact G4.out) (by rw [pw_size]; exact infoW4) (by rw [pw_size]; rfl) (pw_one _) ?_)
      obtain ⟨w5, hw5⟩ : ∃ w5, (w4.alloc (.cells (#[.int .u64 0, .int .u64 0, .int .u64 0, .int .u64 0]) 24)).setRow w4.heap.size (pw y) = w5 := ⟨_, rfl⟩
      obtain ⟨g10, hg10⟩ : ∃ g10, w4.heap.size = g10 := ⟨_, rfl⟩
      rw [hw5, hg10] at H4
      rw [hw5, hg10]
      clear hw5 hg10 G4
      cases pa with
      | false =>
        go_wp2_with fail
        go_roundw
        case rel => exact ⟨k + 1, by have := HK.out; omega, by go_num, Lib.hid (H4.out.less _ (fun p hp => List.mem_cons_of_mem _ (List.mem_cons_of_mem _ hp)))⟩
        case measure => have := HK.out; simp [intOf]; omega
      | true =>
        cases pb with
        | false =>
          go_wp2_with fail
          go_roundw
          case rel => exact ⟨k + 1, by have := HK.out; omega, by go_num, Lib.hid (H4.out.less _ (fun p hp => List.mem_cons_of_mem _ (List.mem_cons_of_mem _ hp)))⟩
          case measure => have := HK.out; simp [intOf]; omega
        | true =>
          have na : ¬ m ∣ a := of_decide_eq_true HX.out.2.1
          have nb : ¬ m ∣ b := of_decide_eq_true HX.out.2.2.2
          have ex : invN m a = x := by have := HX.out.1; rwa [if_neg na] at this
          have ey : invN m b = y := by have := HX.out.2.2.1; rwa [if_neg nb] at this
          have hml : ∀ wx, FldAt wx F m → m < 115792089237316195423570985008687907853269984665640564039457584007913129639936 := fun _ hf => hf.lt
          have hm := hml _ (HAT.out _ H4.out.fds)
          have hm0 : 0 < m := by have := HP.out.1; omega
          have hxl : x < 115792089237316195423570985008687907853269984665640564039457584007913129639936 := by rw [← ex]; exact Nat.lt_trans (invN_lt HP.out a) hm
          have hyl : y < 115792089237316195423570985008687907853269984665640564039457584007913129639936 := by rw [← ey]; exact Nat.lt_trans (invN_lt HP.out b) hm
          have hzl : a * b % m < 115792089237316195423570985008687907853269984665640564039457584007913129639936 := Nat.lt_trans (Nat.mod_lt _ hm0) hm
          have nz : ¬ m ∣ a * b % m := fun hd => by
            have h1 : m ∣ a * b := by rw [← Nat.mod_add_div (a * b) m]; exact Nat.dvd_add hd (Nat.dvd_mul_right _ _)
            rcases HP.out.dvd_mul h1 with h2 | h2
            · exact na h2
            · exact nb h2
          have HIX := Lib.hid (fun wx (hf : FldAt wx F m) => finv_prime HP.out hxl wx hf)
          rw [if_neg (show ¬ m ∣ x from by rw [← ex]; exact invN_nd HP.out na), decide_eq_true (show ¬ m ∣ x from by rw [← ex]; exact invN_nd HP.out na), show invN m x = a % m from by rw [← ex]; exact invN_back HP.out na] at HIX
          have HMZ := Lib.hid (fun wx (hf : FldAt wx F m) => fmul_any F m a b HAB.out.1 HAB.out.2 wx hf)
          have HIZ := Lib.hid (fun wx (hf : FldAt wx F m) => finv_prime HP.out hzl wx hf)
          rw [if_neg nz, decide_eq_true nz, invN_mul, ex, ey] at HIZ
          have HMQ := Lib.hid (fun wx (hf : FldAt wx F m) => fmul_any F m x y hxl hyl wx hf)
          have HOA := Lib.hid (fun wx (hf : FldAt wx F m) => fof_any F m a HAB.out.1 wx hf)
          obtain ⟨z, hz⟩ : ∃ z, a * b % m = z := ⟨_, rfl⟩
          obtain ⟨q, hq⟩ : ∃ q, x * y % m = q := ⟨_, rfl⟩
          obtain ⟨r, hr⟩ : ∃ r, a % m = r := ⟨_, rfl⟩
          have hql : q < 115792089237316195423570985008687907853269984665640564039457584007913129639936 := by rw [← hq]; exact Nat.lt_trans (Nat.mod_lt _ hm0) hm
          have hrl : r < 115792089237316195423570985008687907853269984665640564039457584007913129639936 := by rw [← hr]; exact Nat.lt_trans (Nat.mod_lt _ hm0) hm
          rw [hz] at HMZ HIZ
          rw [hq] at HIZ HMQ
          rw [hr] at HIX HOA
          have HNR := Lib.hid (show ∀ wx, (binOp BinOp.neq 24 (.agg (pw r)) (.agg (pw r))).run Try.prog wx = .ok (.bool false) wx from fun wx => by simpa using new_run r r hrl hrl wx)
          have HNQ := Lib.hid (show ∀ wx, (binOp BinOp.neq 24 (.agg (pw q)) (.agg (pw q))).run Try.prog wx = .ok (.bool false) wx from fun wx => by simpa using new_run q q hql hql wx)
          clear na nb ex ey hml hm hm0 hxl hyl hzl nz hz hq hr hql hrl
          go_wp2_with (refine wpList_ld rfl 24 _ rfl (.pointer (some ⟨g8, 0, none⟩)) (.agg (pw x)) rfl (ld_pw (by exact H4.out.is _ _ (by simp))) ?_)
          refine (HIX.out _ (HAT.out _ H4.out.fds)).mono ?_
          rintro e w6 ⟨rfl, hb6⟩
          have H6 := Lib.hid ((H4.out.below hb6).lay (pw r))
          have G6 := Lib.hid (heap_alloc_new w6 (.cells (#[.int .u64 0, .int .u64 0, .int .u64 0, .int .u64 0]) 24))
          clear hb6 H4
          go_upto_region 12 with (refine wpList_store_row rfl 24 _ _ rfl w6.heap.size (pw r) rfl rfl 24 (#[.int .u64 0, .int .u64 0, .int .u64 0, .int .u64 0]) (by exact G6.out) (by rw [pw_size]; exact infoW4) (by rw [pw_size]; rfl) (pw_one _) ?_)
          obtain ⟨w7, hw7⟩ : ∃ w7, (w6.alloc (.cells (#[.int .u64 0, .int .u64 0, .int .u64 0, .int .u64 0]) 24)).setRow w6.heap.size (pw r) = w7 := ⟨_, rfl⟩
          obtain ⟨g12, hg12⟩ : ∃ g12, w6.heap.size = g12 := ⟨_, rfl⟩
          rw [hw7, hg12] at H6
          rw [hw7, hg12]
          clear hw7 hg12 G6
          go_wp2_with (first | (refine wpList_ld rfl 24 _ rfl (.pointer (some ⟨w.heap.size, 0, none⟩)) (.agg (pw a)) rfl (ld_pw (by exact H6.out.is _ _ (by simp))) ?_) | (refine wpList_ld rfl 24 _ rfl (.pointer (some ⟨w.heap.size + 1, 0, none⟩)) (.agg (pw b)) rfl (ld_pw (by exact H6.out.is _ _ (by simp))) ?_))
          refine (HMZ.out _ (HAT.out _ H6.out.fds)).mono ?_
          rintro e w8 ⟨rfl, hb8⟩
          have H8 := Lib.hid (H6.out.below hb8)
          clear hb8 H6
          go_wp2_with fail
          refine (HIZ.out _ (HAT.out _ H8.out.fds)).mono ?_
          rintro e w9 ⟨rfl, hb9⟩
          have H9 := Lib.hid ((H8.out.below hb9).lay (pw q))
          have G9 := Lib.hid (heap_alloc_new w9 (.cells (#[.int .u64 0, .int .u64 0, .int .u64 0, .int .u64 0]) 24))
          clear hb9 H8
          go_upto_region 13 with (refine wpList_store_row rfl 24 _ _ rfl w9.heap.size (pw q) rfl rfl 24 (#[.int .u64 0, .int .u64 0, .int .u64 0, .int .u64 0]) (by exact G9.out) (by rw [pw_size]; exact infoW4) (by rw [pw_size]; rfl) (pw_one _) ?_)
          obtain ⟨w10, hw10⟩ : ∃ w10, (w9.alloc (.cells (#[.int .u64 0, .int .u64 0, .int .u64 0, .int .u64 0]) 24)).setRow w9.heap.size (pw q) = w10 := ⟨_, rfl⟩
          obtain ⟨g14, hg14⟩ : ∃ g14, w9.heap.size = g14 := ⟨_, rfl⟩
          rw [hw10, hg14] at H9
          rw [hw10, hg14]
          clear hw10 hg14 G9
          refine wp_region_quiet (C := CF w l f g h ((g14, pw q) :: (g12, pw r) :: (g10, pw y) :: (g8, pw x) :: [(w.heap.size + 1, pw b), (w.heap.size, pw a)])) (by kernel_rfl) (by kernel_rfl) (H9.out.drew) ?_
          simp only
          with_reducible refine q_load 24 (.tmp 12) (.pointer (some ⟨g12, 0, none⟩)) (.agg (pw r)) rfl (by kernel_rfl) (by kernel_rfl) (fun _ c => ld_pw (c.is _ _ (by simp))) ?_
          with_reducible refine q_val (.pointer (some ⟨F, 0, none⟩)) (by kernel_rfl) (fun _ _ => by kernel_rfl) ?_
          with_reducible refine q_load 24 (.tmp 2) (.pointer (some ⟨w.heap.size, 0, none⟩)) (.agg (pw a)) rfl (by kernel_rfl) (by kernel_rfl) (fun _ c => ld_pw (c.is _ _ (by simp))) ?_
          with_reducible refine q_call 13 #[.pointer (some ⟨F, 0, none⟩), .agg (pw a)] (.agg (pw r)) (by kernel_rfl) (fun _ => by kernel_rfl) (CF.calls HAT.out HOA.out) ?_
          with_reducible refine q_bin .neq 24 _ _ 24 (.agg (pw r)) (.agg (pw r)) (.bool false) rfl (by kernel_rfl) (by kernel_rfl) (by kernel_rfl) (fun _ => by kernel_rfl) (fun w' => HNR.out w') ?_
          with_reducible refine q_val (.bool false) (by kernel_rfl) (fun _ _ => by kernel_rfl) ?_
          with_reducible refine q_load 24 (.tmp 14) (.pointer (some ⟨g14, 0, none⟩)) (.agg (pw q)) rfl (by kernel_rfl) (by kernel_rfl) (fun _ c => ld_pw (c.is _ _ (by simp))) ?_
          with_reducible refine q_val (.pointer (some ⟨F, 0, none⟩)) (by kernel_rfl) (fun _ _ => by kernel_rfl) ?_
          with_reducible refine q_load 24 (.tmp 8) (.pointer (some ⟨g8, 0, none⟩)) (.agg (pw x)) rfl (by kernel_rfl) (by kernel_rfl) (fun _ c => ld_pw (c.is _ _ (by simp))) ?_
          with_reducible refine q_load 24 (.tmp 10) (.pointer (some ⟨g10, 0, none⟩)) (.agg (pw y)) rfl (by kernel_rfl) (by kernel_rfl) (fun _ c => ld_pw (c.is _ _ (by simp))) ?_
          with_reducible refine q_call 15 #[.pointer (some ⟨F, 0, none⟩), .agg (pw x), .agg (pw y)] (.agg (pw q)) (by kernel_rfl) (fun _ => by kernel_rfl) (CF.calls HAT.out HMQ.out) ?_
          with_reducible refine q_bin .neq 24 _ _ 24 (.agg (pw q)) (.agg (pw q)) (.bool false) rfl (by kernel_rfl) (by kernel_rfl) (by kernel_rfl) (fun _ => by kernel_rfl) (fun w' => HNQ.out w') ?_
          with_reducible refine q_val (.bool false) (by kernel_rfl) (fun _ _ => by kernel_rfl) ?_
          with_reducible refine q_val (.bool false) (by kernel_rfl) (fun _ _ => by kernel_rfl) ?_
          with_reducible refine q_val (.bool true) (by kernel_rfl) (fun _ _ => by kernel_rfl) ?_
          with_reducible refine q_un4 .not 4 (.tmp 75) (.bool true) (.bool false) rfl (by kernel_rfl) (by kernel_rfl) (fun w' => by kernel_rfl) ?_
          with_reducible refine q_val (.bool false) (by kernel_rfl) (fun _ _ => by kernel_rfl) ?_
          with_reducible refine wpQuiet_nil ?_
          intro wx hC
          have HC := Lib.hid hC
          clear hC H9
          simp only [Act.put, List.setIfInBounds_toArray, List.set_cons_succ, List.set_cons_zero]
          go_wp2_with fail
          go_roundw
          case rel => exact ⟨k + 1, by have := HK.out; omega, by go_num, Lib.hid (HC.out.less _ (fun p hp => List.mem_cons_of_mem _ (List.mem_cons_of_mem _ (List.mem_cons_of_mem _ (List.mem_cons_of_mem _ hp)))))⟩
          case measure => have := HK.out; simp [intOf]; omega
    · obtain rfl : k = 3 := by omega
      have hlt' : ¬ ((3 : Nat) : Int) < 3 := by omega
      simp only [Int.cast_ofNat_Int]
      go_wp2_with fail
      refine (flives_any _).mono ?_
      rintro e w9 ⟨rfl, hb9⟩
      have H9 := Lib.hid (H.out.old.trans (hb9.mono H.out.old.size))
      clear hb9
      go_wp2_with fail
      go_ret
      exact ⟨rfl, H9.out⟩
end Go.Proofs.Ytfgefifplmhopaa
namespace Go.Proofs.Ytfgefifplmhopaa.fieldInverses
open Go.ChangeShapes Go.WideShapes Go.ChangeAt Go.RowKit

set_option maxRecDepth 100000 in
theorem contract (H : Type) (enc : TypeId × Value → H) (W : World) (base : Nat) (args : Array Value) (ds gs : List (DataW H)) (before : List MemPlace)
    (hval : ∀ (j : Nat) t v, Try.f7.params[j]? = some t → args[j]? = some v → Value.okWide Try.prog W .any base t v)
    (hW : DataW.Whole enc Try.prog Try.f7.params.toList Rows.fieldInversesSpec.vars false W args.toList ds gs before) :
    Calls Try.prog 7 args W fun e W' => ∃ v, e = .returned v ∧ Rows.fieldInversesSpec.post enc Try.prog Try.f7 false true false false W args v W' := by
  have hW' := hW
  obtain ⟨p, q, hA0, hV, rfl, hfz, hnd⟩ := hW
  have hA : DataW.TrodAll enc Try.prog W 0 (fun _ => true) true Try.f7.params.toList args.toList ds p := hA0
  rw [Try.params7] at hA hval
  obtain ⟨v0, vs0, d0, ds0, p0, q0, hargs, rfl, rfl, h0, r0⟩ := trodAll_cons hA
  obtain ⟨v1, vs1, d1, ds1, p1, q1, rfl, rfl, rfl, h1, r1⟩ := trodAll_cons r0
  obtain ⟨rfl, rfl, rfl⟩ := trodAll_nil r1
  obtain rfl : args = #[v0, v1] := by cases args; simp_all
  obtain ⟨rfl, rfl⟩ := trodVars_none hV
  obtain ⟨x0, rfl, X0⟩ := open_pw (hval 0 24 v0 rfl rfl) h0
  obtain ⟨x1, rfl, X1⟩ := open_pw (hval 1 24 v1 rfl rfl) h1
  clear hA0
  refine (finverses_any x0 x1 X0 X1 W).mono fun e W' ⟨he, hb⟩ => ?_
  subst he
  refine ⟨_, rfl, _, _, _, [], p0 ++ (p1 ++ []), [], hW', trodAll_cons_mk (shut_bool Try.underlying4 _) trodAll_mk0, trodAll_cons_mk (Below.trod laidOutF (by kernel_rfl) (of_decide_eq_true (by kernel_rfl)) h0 hb (fun x hx => hW'.lt x (by simp [hx]))) (trodAll_cons_mk (Below.trod laidOutF (by kernel_rfl) (of_decide_eq_true (by kernel_rfl)) h1 hb (fun x hx => hW'.lt x (by simp [hx]))) trodAll_mk0), rfl, hb.frame _, fun h => by cases h⟩

theorem laid_met (os : Os) : laidMet Try.prog Rows.fieldInversesRow.laid ((bareWorld os).forCall (fun _ _ => 0) ⟨#[], #[.agg #[.int .u64 0, .int .u64 0, .int .u64 0, .int .u64 0], .agg #[.int .u64 0, .int .u64 0, .int .u64 0, .int .u64 0]], []⟩).memory :=
  laidMet_of_run' 80 (by kernel_rfl) (by kernel_rfl)
theorem reads (os : Os) {H : Type} (enc : TypeId × Value → H) : ∃ places, DataW.whole enc Try.prog ((bareWorld os).forCall (fun _ _ => 0) ⟨#[], #[.agg #[.int .u64 0, .int .u64 0, .int .u64 0, .int .u64 0], .agg #[.int .u64 0, .int .u64 0, .int .u64 0, .int .u64 0]], []⟩).memory Try.f7.params.toList Rows.fieldInversesSpec.vars false (#[.agg #[.int .u64 0, .int .u64 0, .int .u64 0, .int .u64 0], .agg #[.int .u64 0, .int .u64 0, .int .u64 0, .int .u64 0]] : Array Value).toList 80 = some ([.agg [.lit (.int .u64 0), .lit (.int .u64 0), .lit (.int .u64 0), .lit (.int .u64 0)], .agg [.lit (.int .u64 0), .lit (.int .u64 0), .lit (.int .u64 0), .lit (.int .u64 0)]], [], places) :=
  ⟨[], by kernel_rfl⟩

set_option maxRecDepth 100000 in
theorem lifted (os : Os) (started : os.Started) (H : Type) (enc : TypeId × Value → H) (F : Stop.Interp) :
    ReturnsInHanded {} Try.checked os 7 .any ((OpenSpec.ofChange Rows.fieldInversesSpec).preRow enc Try.prog Try.f7 Rows.fieldInversesRow.domain false Rows.fieldInversesRow.laid) (((OpenSpec.ofChange Rows.fieldInversesSpec).at F).post enc Try.prog Try.f7 false true false false) := by
  obtain ⟨places, hx⟩ := reads os enc
  refine returnsInHanded_of_row (C := Try.checked) (s := OpenSpec.ofChange Rows.fieldInversesSpec) ownF started (by kernel_rfl) Try.func7
    (witness_row_at (enc := enc) (C := Try.checked) false (bareWorld os) #[.agg #[.int .u64 0, .int .u64 0, .int .u64 0, .int .u64 0], .agg #[.int .u64 0, .int .u64 0, .int .u64 0, .int .u64 0]] rfl (by kernel_rfl) (by kernel_rfl) (by kernel_rfl)
      (OpenSpec.preRow_of_cond 80 hx (by kernel_rfl) (fun k hk => by cases hk) (by kernel_rfl) (laid_met os))) ?_
  intro W base args ds gs before hval hW _ _ _ _ _ _
  exact contract H enc W base args ds gs before hval hW

theorem said : Rows.FieldInversesSaid :=
  OpenClaim.holds_of_cond 7 Try.f7 rfl rfl rfl rfl rfl rfl rfl ⟨rfl, rfl, rfl, rfl, rfl⟩ rfl rfl rfl rfl rfl (by kernel_rfl) Try.func7 (by kernel_rfl)
    (of_decide_eq_true (by kernel_rfl)) (by unfold Func.isWrapper; rw [if_neg (of_decide_eq_false (by kernel_rfl))]; exact ⟨rfl, rfl⟩)
    (fun os started H enc _ F => by rw [OpenClaim.pre_eq_preRow]; exact lifted os started H enc F)
end Go.Proofs.Ytfgefifplmhopaa.fieldInverses
