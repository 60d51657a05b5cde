/- bailiwicklaw02.NatShifts: whatever the list and the number: true. -/
import Derived.Test.YtgegkffigjogcaaNRing
import Derived.Test.YtgegkffigjogcaaNDivMod
import Derived.Test.YtgegkffigjogcaaNRPlain
import Derived.Test.YtgegkffigjogcaaInv
namespace Go.Proofs.Ytgegkffigjogcaa
open Go.RowKit

/-- A list, so many parts higher. -/
def zsh (g : Nat → Nat) (L : Nat) : Nat → Nat := fun j => if j < L then 0 else g (j - L)
theorem pl_higher (g : Nat → Nat) (L n : Nat) : pl (fun _ => 0) L ++ pl g n = pl (zsh g L) (L + n) := by
  apply List.ext_getElem?
  intro j
  by_cases h : j < L
  · rw [List.getElem?_append_left (by rw [pl_len]; exact h), pl_at _ _ _ h, pl_at _ _ _ (by omega)]
    unfold zsh
    rw [if_pos h]
  · rw [List.getElem?_append_right (by rw [pl_len]; omega), pl_len]
    by_cases h2 : j < L + n
    · rw [pl_at _ _ _ (by omega), pl_at _ _ _ h2]
      unfold zsh
      rw [if_neg h]
    · rw [List.getElem?_eq_none (by rw [pl_len]; omega), List.getElem?_eq_none (by rw [pl_len]; omega)]
theorem zsh_vb (P : Nat) (g : Nat → Nat) (L n : Nat) : vb P (zsh g L) (L + n) = P ^ L * vb P g n := by
  rw [vb_split, vb_zero (fun j hj => by unfold zsh; rw [if_pos hj]), Nat.zero_add]
  congr 1
  refine vb_congr (fun j _ => ?_)
  unfold zsh
  rw [if_neg (by omega), Nat.add_sub_cancel_left]
theorem zsh_lt {g : Nat → Nat} {L n : Nat} (h : ∀ j, j < n → g j < 4294967296) : ∀ j, j < L + n → zsh g L j < 4294967296 := fun j hj => by
  unfold zsh
  by_cases e : j < L
  · rw [if_pos e]; omega
  · rw [if_neg e]; exact h _ (by omega)
theorem own_nn {w : World} {base n : Nat} {v : Value} {f : Nat → Nat} (h : w.ownsRow base 32 1 v n (pl f n)) (hn : 0 < n) (hb : (n : Int) ≤ 35184372088832) (hf : ∀ j, j < n → f j < 4294967296) : NN (vb 4294967296 f n) v w := by
  obtain ⟨g, cap, rfl, hc, hg, hW⟩ := own_wr h hn
  exact ⟨_, n, cap, f, rfl, ⟨hc, hW.rd, fun q hq => by cases hq; exact hW.1, hf, hb⟩, rfl⟩
theorem made_wr {w w0 : World} {L : Nat} (h : w0.ownsRow w.heap.size 32 1 (.slice (some ⟨w.heap.size, 0, none⟩) L L) L (madeCells (Value.int .u32 0).cells (L * 1)).toList) (hg : w.grownBy w0 none) : Wr w0 w.heap.size 0 L (fun _ => 0) ∧ Below w.heap.size w w0 :=
  ⟨⟨(h.lt _ rfl).2, fun j hj => ⟨by rw [Nat.zero_add]; exact (h.cellAt j (by omega)).trans (madeCells32_at L j hj), by rw [Nat.zero_add]; exact h.frozenAt j⟩⟩, (Below.refl _ _).grown hg (Nat.le_refl _) (fun k hk => by cases hk)⟩
def Mk2 (k : Nat) (v : Value) (w : World) : Prop := ∃ S, v = .slice (some ⟨S, 0, none⟩) k k ∧ Wr w S 0 k (fun _ => 0)
theorem Mk2.below {k : Nat} {v : Value} {w w' : World} (h : Mk2 k v w) (hb : Below w.heap.size w w') : Mk2 k v w' := by
  obtain ⟨S, h1, h2⟩ := h
  exact ⟨S, h1, h2.below hb⟩
section
variable {P : Program} {ops : Array Oper} {Q : Exit → Act → World → Prop} {C : World → Prop} {φ : Nat → Value → World → Prop} {R : World → World → Prop}
theorem st_run {k : Nat} {o : Oper} {a : Act} {w w' : World} (v : Value) (hw : Region.wanted o (yielded ops a.tmps) = true) (hd : ∃ d, o.dst = some d) (hr : (execOp a.eval o).run P w = .ok (.value v) w') (hC : C w') (hv : φ k v w') (hR : R w w') : Step P ops Q C φ R k o a w := by
  unfold Step
  rw [if_pos hw]
  unfold Oper.wp
  rw [hr]
  exact ⟨v, rfl, hC, hv, hR, fun h => by obtain ⟨d, hd⟩ := hd; rw [hd] at h; cases h⟩
end
theorem same_below {w w' : World} {m : Nat} (h : w' = w.drewN m) : Below w.heap.size w w' := by rw [h]; exact below_drewN (Below.refl _ _) _
theorem pv_none {v : Value} {w : World} (h : PV 0 v w) : ∃ a c, v = .slice a 0 c := by
  obtain ⟨a, n, c, f, rfl, hn, hv, ht⟩ := h
  rcases Nat.eq_zero_or_pos n with h0 | h0
  · subst h0; exact ⟨a, c, rfl⟩
  · exfalso
    have h1 : n ≤ 0 := (plain_len (P := 4294967296) (m := 0) (by omega) hn.lt ht).1 (by rw [hv]; exact Nat.pow_pos (by omega))
    omega
set_option maxRecDepth 100000 in
set_option maxHeartbeats 4000000 in
theorem shifts_any {w : World} {v0 : Value} {n0 : Nat} {f0 : Nat → Nat} (h0 : ArgN w v0 n0 f0) (l0 : ∀ j, j < n0 → f0 j < 4294967296) (k : Nat) (hk : k < 256) :
    Calls Try.prog 11 #[v0, .int .u8 (k : Nat)] w fun e w' => e = .returned (.bool true) ∧ Below w.heap.size w w' := by
  have F0 := Lib.hid (few_any h0 200 (by omega))
  obtain ⟨m0, e0⟩ : ∃ m, min n0 200 = m := ⟨_, rfl⟩
  rw [e0] at F0
  have OW0 := Lib.hid (fun u w' (hu : ArgN w' u m0 f0) => own_any hu (by omega) (fun j hj => l0 j (by omega)))
  have RP := Lib.hid (fun u w' (hu : ArgN w' u m0 f0) => refplain_any hu (by omega) (fun j hj => l0 j (by omega)))
  have fa : vb 4294967296 f0 m0 < 4294967296 ^ 200 := fit_up (by omega) (by omega) (vb_lt (n := m0) (fun j hj => l0 j (by omega)))
  obtain ⟨A, eA⟩ : ∃ A, vb 4294967296 f0 m0 = A := ⟨_, rfl⟩
  rw [eA] at OW0 fa RP
  obtain ⟨B, eB⟩ : ∃ B, 4294967296 ^ k = B := ⟨_, rfl⟩
  have fb : B < 4294967296 ^ 256 := by
    rw [← eB]
    exact Nat.pow_lt_pow_right (by omega) hk
  have hB0 : 0 < B := by rw [← eB]; exact Nat.pow_pos (by omega)
  have MU := Lib.hid (fun x y w' (hx : NN A x w') (hy : NN B y w') => mul_fit (by omega) fa fb hx hy)
  have fab := fit_mul fa fb
  have ecd : cdD (A * B) B = 0 := by
    unfold cdD cd2
    rw [cd_fit (by omega) fab, if_pos rfl, cd_fit (by omega) fb, if_pos rfl, if_neg (by omega)]
  have DM := Lib.hid (fun x y w' (hx : NN (A * B) x w') (hy : NN B y w') => divmod_api hx hy)
  rw [ecd, Nat.mul_div_cancel _ hB0, Nat.mul_mod_left] at DM
  have FA := Lib.hid fa
  clear e0 eA h0 l0 fa fb fab ecd hB0
  have HEB := Lib.hid eB; clear eB
  have hk0 : (0 : Int) ≤ k := by omega
  have hk1 : (k : Int) < 256 := by omega
  obtain ⟨i0, hi, hz0, hz1, hz2⟩ := info_parts info32
  go_enter Try.func11, Try.ntmps11
  go_wp2_with fail
  refine F0.out.mono ?_
  rintro e w' ⟨u0, rfl, hu, rfl⟩
  have U0 := Lib.hid hu
  clear hu F0
  go_wp2_with (first
    | (at_make; refine wpList_make_full _ rfl _ _ 23 rfl w.heap.size 32 i0 (.int .u32 0) 1 Try.underlying23 hi hz0 hz1 .i64 .i64 _ _ k rfl rfl rfl rfl (by rw [hz2]; omega) (by unfold maxLen; omega) (Nat.le_refl _) ?_; intro w0 hown0 hgrow0; have HW0 := Lib.hid (made_wr hown0 hgrow0); clear hown0 hgrow0)
    | (at_builtin; refine wpList_append_grows _ rfl _ _ 23 rfl 32 i0 (.int .u32 0) 1 4 Try.underlying23 hi hz0 hz1 hz2 rfl (by decide) (some ⟨w.heap.size, 0, none⟩) k k (pl (fun _ => 0) k) rfl (fun h => by cases h) (by rw [pl_len, Nat.mul_one]) ?d1 ⟨w0.heap.size, 0, none⟩ 1 1 [.int .u32 1] rfl rfl ?d2 ?d3 (by omega) ?d4 ?d5 ?_))
  case d1 => exact rd_add (HW0.out.1.rd.below ((Below.refl _ _).alloc (Nat.le_refl _) _))
  case d2 => exact nought_at w0 _ _
  case d3 => intro u hu; simp only [List.mem_cons, List.not_mem_nil, or_false] at hu; subst hu; rfl
  case d4 => unfold maxLen; omega
  case d5 => omega
  intro v' w2 hown hgrow
  have hb2 : Below w0.heap.size w0 w2 := ((Below.refl _ _).alloc (Nat.le_refl _) _).grown hgrow (by simp) (fun k hk => by cases hk)
  rw [show pl (fun _ => 0) k ++ [.int .u32 1] = pl (zsh (fun _ => 1) k) (k + 1) from pl_higher (fun _ => 1) k 1] at hown
  have hnp := own_nn hown (by omega) (by omega) (zsh_lt (fun _ _ => by omega))
  rw [zsh_vb, HEB.out, show B * vb 4294967296 (fun _ => 1) 1 = B by simp [vb]] at hnp
  have HP := Lib.hid hnp
  have HW := Lib.hid (HW0.out.2.trans (hb2.mono HW0.out.2.size))
  replace U0 := Lib.hid (U0.out.below HW.out)
  clear hown hgrow hb2 hnp HW0
  go_wp2_with fail
  refine (OW0.out _ _ U0.out).mono ?_
  rintro e wn ⟨x3, rfl, hx, hb⟩
  replace U0 := Lib.hid (U0.out.below hb)
  replace HP := Lib.hid (HP.out.below hb)
  replace HW := Lib.hid (HW.out.trans (hb.mono HW.out.size))
  have HX := Lib.hid hx
  clear hx hb
  go_wp2_with fail
  refine (MU.out _ _ _ HX.out HP.out).mono ?_
  rintro e wn ⟨x4, rfl, hx', -, hb⟩
  replace U0 := Lib.hid (U0.out.below hb)
  replace HP := Lib.hid (HP.out.below hb)
  replace HW := Lib.hid (HW.out.trans (hb.mono HW.out.size))
  have P6 := Lib.hid (hx' rfl)
  clear hx' hb HX MU OW0
  rename_i w4
  obtain ⟨w5, hw5⟩ : ∃ w5, wn.alloc (.cells #[] 32) = w5 := ⟨_, rfl⟩
  have hb : Below wn.heap.size wn w5 := by rw [← hw5]; exact (Below.refl _ _).alloc (Nat.le_refl _) _
  have hsz : wn.heap.size < w5.heap.size := by rw [← hw5]; simp
  replace U0 := Lib.hid (U0.out.below hb)
  replace HP := Lib.hid (HP.out.below hb)
  replace P6 := Lib.hid (P6.out.below hb)
  replace HW := Lib.hid (HW.out.trans (hb.mono HW.out.size))
  have HSZ := Lib.hid hsz
  clear hb hsz
  obtain ⟨g5, hg5⟩ : ∃ g5, wn.heap.size = g5 := ⟨_, rfl⟩
  rw [hg5] at HSZ
  go_wp2_with fail
  clear hw5 hg5
  refine (RP.out _ _ U0.out).mono ?_
  rintro e w6 ⟨v6, rfl, hv6, hb⟩
  obtain ⟨a6, n6, c6, f6, rfl, ha6, hav6, hat6⟩ := hv6
  replace U0 := Lib.hid (U0.out.below hb)
  replace HP := Lib.hid (HP.out.below hb)
  replace P6 := Lib.hid (P6.out.below hb)
  replace HW := Lib.hid (HW.out.trans (hb.mono HW.out.size))
  replace HSZ := Lib.hid (Nat.lt_of_lt_of_le HSZ.out hb.size)
  clear hb
  rcases Nat.eq_zero_or_pos n6 with hn6 | hn6
  · subst hn6
    have hA : A = 0 := by rw [← hav6]; rfl
    have h8 : PV (A * B) (.slice (some ⟨g5, 0, none⟩) 0 0) w6 := by rw [hA, Nat.zero_mul]; exact ⟨_, 0, 0, fun _ => 0, rfl, ⟨Nat.le_refl _, .inl rfl, fun q hq => by cases hq; exact HSZ.out, fun j hj => by omega, by omega⟩, rfl, .inl rfl⟩
    have P8 := Lib.hid h8
    clear h8 hA hat6 hav6 ha6 HSZ
    go_wp2_with fail
    refine (DM.out _ _ _ P6.out.nn HP.out).mono ?_
    rintro e wn ⟨x9, x10, rfl, hx', -, hb⟩
    replace U0 := Lib.hid (U0.out.below hb)
    replace P6 := Lib.hid (P6.out.below hb)
    replace P8 := Lib.hid (P8.out.below hb)
    replace HW := Lib.hid (HW.out.trans (hb.mono HW.out.size))
    have P9 := Lib.hid (hx' rfl).1
    obtain ⟨a10, c10, rfl⟩ := pv_none (hx' rfl).2
    clear hx' hb DM HP
    go_wp2_with fail
    refine (same_any P6.out P8.out).mono ?_
    rintro e wn ⟨rfl, mm, hm⟩
    have hb := same_below hm
    clear hm
    replace U0 := Lib.hid (U0.out.below hb)
    replace P9 := Lib.hid (P9.out.below hb)
    replace HW := Lib.hid (HW.out.trans (hb.mono HW.out.size))
    clear hb P6 P8
    go_wp2_with fail
    refine (RP.out _ _ U0.out).mono ?_
    rintro e wn ⟨x11, rfl, hx, hb⟩
    replace P9 := Lib.hid (P9.out.below hb)
    replace HW := Lib.hid (HW.out.trans (hb.mono HW.out.size))
    have P11 := Lib.hid hx
    clear hx hb U0 RP
    go_wp2_with fail
    refine (same_any P9.out P11.out).mono ?_
    rintro e wn ⟨rfl, mm, hm⟩
    have hb := same_below hm
    clear hm
    replace HW := Lib.hid (HW.out.trans (hb.mono HW.out.size))
    clear hb P9 P11
    go_wp2_with fail
    refine (lives_any _).mono ?_
    rintro e wn ⟨rfl, hb⟩
    replace HW := Lib.hid (HW.out.trans (hb.mono HW.out.size))
    clear hb
    go_wp2
    go_ret
    exact ⟨rfl, HW.out⟩
  · have hn60 : (0 : Int) < n6 := by omega
    clear HSZ
    have P7 := Lib.hid (And.intro hn6 (And.intro ha6 (And.intro hav6 hat6)))
    clear hn6 ha6 hav6 hat6
    have hA0 : A ≠ 0 := by
      intro h
      obtain ⟨h1, h2, h3, h4⟩ := P7.out
      have h5 : n6 ≤ 0 := (plain_len (P := 4294967296) (m := 0) (by omega) h2.lt h4).1 (by rw [h3, h]; exact Nat.pow_pos (by omega))
      omega
    have HA0 := Lib.hid hA0
    clear hA0 P7
    go_wp2_with fail
    refine region_inv (P := Try.prog) (fun wx => Below w6.heap.size w6 wx) (fun i v wx => match i with | 0 => v = .int .u8 (k : Nat) | 1 => v = .int .i64 (k : Nat) | 2 => Mk2 k v wx | 3 => v = u0 | 4 => PV A v wx | 5 => PV (A * B) v wx | 6 => PV (A * B) v wx | _ => True) (fun wa wb => Below wa.heap.size wa wb) (by kernel_rfl) (by kernel_rfl) ?_ ?_ ?_ ?_
    · exact (Below.refl _ _).drew
    · intro i v wa wb hR h
      match i, h with
      | 0, h => exact h
      | 1, h => exact h
      | 2, h => exact Mk2.below h hR
      | 3, h => exact h
      | 4, h => exact PV.below h hR
      | 5, h => exact PV.below h hR
      | 6, h => exact PV.below h hR
      | _ + 7, _ => trivial
    · refine ⟨fun a wx hC hK => ?_, fun a wx hC hK => ?_, fun a wx hC hK => ?_, fun a wx hC hK => ?_, fun a wx hC hK => ?_, fun a wx hC hK => ?_, fun a wx hC hK => ?_, trivial⟩
      · exact st_val (a.tmps.getD 1 undef) (by kernel_rfl) (fun h => by cases h) rfl hC (hK.1 1 (by kernel_rfl)) (Below.refl _ _)
      · have h0 : a.tmps.getD 33 undef = .int .u8 (k : Nat) := hK.2 ⟨0, .data⟩ (by simp) rfl _ rfl
        refine st_val (.int .i64 (k : Nat)) (by kernel_rfl) (fun h => by cases h) ?_ hC rfl (Below.refl _ _)
        show (do let v ← convert 5 3 (a.tmps.getD 33 undef); pure (Next.value v) : Sem Next).run Try.prog wx = _
        rw [h0]
        have hwk : IntKind.i64.wrap ((k : Nat) : Int) = ((k : Nat) : Int) := by
          rw [IntKind.wrap_i64]; omega
        go_simp
      · have h0 : a.tmps.getD 34 undef = .int .i64 (k : Nat) := hK.2 ⟨1, .data⟩ (by simp) rfl _ rfl
        obtain ⟨w', hrun, hown, hgrow⟩ := run_make_full (P := Try.prog) wx wx.heap.size 23 32 i0 (.int .u32 0) 1 Try.underlying23 hi hz0 hz1 .i64 .i64 k (by rw [hz2]; omega) (by unfold maxLen; omega) (Nat.le_refl _)
        have hmw := made_wr hown hgrow
        refine st_run _ (by kernel_rfl) ⟨_, rfl⟩ ?_ (hC.trans (hmw.2.mono hC.size)) ⟨_, rfl, hmw.1⟩ hmw.2
        show (do let v ← Instr.makeSlice 23 (a.tmps.getD 34 undef) (a.tmps.getD 34 undef); pure (Next.value v) : Sem Next).run Try.prog wx = _
        rw [h0]
        simp only [Sem.run_bind, hrun, Result.andThen_ok, Sem.run_pure]
      · exact st_val (a.tmps.getD 0 undef) (by kernel_rfl) (fun h => by cases h) rfl hC (hK.1 0 (by kernel_rfl)) (Below.refl _ _)
      · have h0 : a.tmps.getD 36 undef = u0 := hK.2 ⟨3, .data⟩ (by simp) rfl _ rfl
        refine st_call 25 #[a.tmps.getD 36 undef] (by kernel_rfl) ⟨_, rfl⟩ (by kernel_rfl) ?_
        rw [h0]
        refine (RP.out _ wx (U0.out.below hC)).mono ?_
        rintro e w' ⟨v, rfl, hv, hb⟩
        exact ⟨v, rfl, hC.trans (hb.mono hC.size), hv, hb⟩
      · obtain ⟨S, h0, hWS⟩ : Mk2 k (a.tmps.getD 35 undef) wx := hK.2 ⟨2, .data⟩ (by simp) rfl _ rfl
        obtain ⟨b, n, c, f, h1, hn, hv, ht⟩ : PV A (a.tmps.getD 37 undef) wx := hK.2 ⟨4, .data⟩ (by simp) rfl _ rfl
        have hn2 : n ≤ 200 := (plain_len (by omega) hn.lt ht).1 (by rw [hv]; exact FA.out)
        have hn0 : n ≠ 0 := fun h => HA0.out (by rw [← hv, h]; rfl)
        obtain ⟨bb, oo, rfl, hpt⟩ := hn.rd.resolve_left hn0
        obtain ⟨v', w', hrun, hown, hgrow⟩ := run_append_arg_grows (P := Try.prog) wx 23 23 32 i0 (.int .u32 0) 1 4 Try.underlying23 hi hz0 hz1 hz2 rfl (by decide) ⟨S, 0, none⟩ k k (pl (fun _ => 0) k) (by rw [pl_len, Nat.mul_one]) (rd_add hWS.rd _ rfl) ⟨bb, oo, none⟩ n c (pl f n) (by rw [pl_len, Nat.mul_one]) (rd_add hn.rd _ rfl) (by omega) (by unfold maxLen; omega) (by omega)
        rw [pl_higher] at hown
        have hb : Below wx.heap.size wx w' := (Below.refl _ _).grown hgrow (Nat.le_refl _) (fun k hk => by cases hk)
        obtain ⟨g, cap, rfl, hcap, -, hWg⟩ := own_wr hown (by omega)
        refine st_run _ (by kernel_rfl) ⟨_, rfl⟩ ?_ (hC.trans (hb.mono hC.size)) ⟨_, k + n, cap, zsh f k, rfl, ⟨hcap, hWg.rd, fun q hq => by cases hq; exact hWg.1, zsh_lt hn.lt, by omega⟩, by rw [zsh_vb, HEB.out, hv, Nat.mul_comm], .inr ?_⟩ hb
        · have hs : a.eval (.tmp 35) = .slice (some ⟨S, 0, none⟩) k k := h0
          have hx : a.eval (.tmp 37) = .slice (some ⟨bb, oo, none⟩) n c := h1
          simp [execOp, resolve, invoke, builtin, hs, hx, hrun, Result.andThen]
        · unfold zsh
          rw [if_neg (by omega), show k + n - 1 - k = n - 1 by omega]
          exact ht.resolve_left hn0
      · exact st_val (a.tmps.getD 38 undef) (by kernel_rfl) (fun h => by cases h) rfl hC (hK.2 ⟨5, .data⟩ (by simp) rfl _ rfl) (Below.refl _ _)
    · intro fv wx hC h
      have hb : Below w6.heap.size w6 wx := hC
      have h8 := h 6 _ rfl
      replace U0 := Lib.hid (U0.out.below hb)
      replace HP := Lib.hid (HP.out.below hb)
      replace P6 := Lib.hid (P6.out.below hb)
      replace HW := Lib.hid (HW.out.trans (hb.mono HW.out.size))
      clear h hC hb FA HA0
      revert h8
      simp only [putAll, Act.put, List.setIfInBounds_toArray, List.set_cons_succ, List.set_cons_zero]
      generalize fv _ = y1
      generalize fv _ = y2
      generalize fv _ = y3
      generalize fv _ = y4
      generalize fv _ = y5
      generalize fv _ = y6
      generalize fv _ = y7
      intro h8
      have P8 : Hid (PV (A * B) _ wx) := Lib.hid h8
      clear h8
      try simp only [Exit.then]
      go_wp2_with fail
      refine (DM.out _ _ _ P6.out.nn HP.out).mono ?_
      rintro e wn ⟨x9, x10, rfl, hx', -, hb⟩
      replace U0 := Lib.hid (U0.out.below hb)
      replace P6 := Lib.hid (P6.out.below hb)
      replace P8 := Lib.hid (P8.out.below hb)
      replace HW := Lib.hid (HW.out.trans (hb.mono HW.out.size))
      have P9 := Lib.hid (hx' rfl).1
      obtain ⟨a10, c10, rfl⟩ := pv_none (hx' rfl).2
      clear hx' hb DM HP
      go_wp2_with fail
      refine (same_any P6.out P8.out).mono ?_
      rintro e wn ⟨rfl, mm, hm⟩
      have hb := same_below hm
      clear hm
      replace U0 := Lib.hid (U0.out.below hb)
      replace P9 := Lib.hid (P9.out.below hb)
      replace HW := Lib.hid (HW.out.trans (hb.mono HW.out.size))
      clear hb P6 P8
      go_wp2_with fail
      refine (RP.out _ _ U0.out).mono ?_
      rintro e wn ⟨x11, rfl, hx, hb⟩
      replace P9 := Lib.hid (P9.out.below hb)
      replace HW := Lib.hid (HW.out.trans (hb.mono HW.out.size))
      have P11 := Lib.hid hx
      clear hx hb U0 RP
      go_wp2_with fail
      refine (same_any P9.out P11.out).mono ?_
      rintro e wn ⟨rfl, mm, hm⟩
      have hb := same_below hm
      clear hm
      replace HW := Lib.hid (HW.out.trans (hb.mono HW.out.size))
      clear hb P9 P11
      go_wp2_with fail
      refine (lives_any _).mono ?_
      rintro e wn ⟨rfl, hb⟩
      replace HW := Lib.hid (HW.out.trans (hb.mono HW.out.size))
      clear hb
      go_wp2
      go_ret
      exact ⟨rfl, HW.out⟩
end Go.Proofs.Ytgegkffigjogcaa
