/- What nat.divideStep comes to. -/
import Derived.Test.YtgegkffigjogcaaNGuess
import Derived.Test.YtgegkffigjogcaaNTimes
namespace Go.Proofs.Ytgegkffigjogcaa
open Go.RowKit

theorem hi_two (B : Nat) (f : Nat → Nat) (k : Nat) : B * B * vb B f (k + 2) = (f (k + 1) * B + f k) * B ^ (k + 2) + B * B * vb B f k := by
  simp only [vb, Nat.pow_succ]
  generalize B ^ k = Q
  generalize vb B f k = V
  grind
theorem hi_one (B : Nat) (f : Nat → Nat) : B * B * vb B f 1 = f 0 * B * B ^ 1 + 0 := by
  simp only [vb, Nat.pow_one, Nat.pow_zero, Nat.one_mul, Nat.zero_add, Nat.add_zero]
  grind
theorem hi_lt (B : Nat) (hB : 0 < B) (f : Nat → Nat) (k : Nat) (h : vb B f k < B ^ k) : B * B * vb B f k < B ^ (k + 2) := by
  rw [show B ^ (k + 2) = B * B * B ^ k by simp only [Nat.pow_succ]; grind]
  exact Nat.mul_lt_mul_of_pos_left h (Nat.mul_pos hB hB)
theorem hi_split {f : Nat → Nat} : ∀ {n : Nat}, 0 < n → (∀ j, j < n → f j < 4294967296) → ∃ l, 4294967296 * 4294967296 * vb 4294967296 f n = hiN f n * 4294967296 ^ n + l ∧ l < 4294967296 ^ n
  | 0, h, _ => by omega
  | 1, _, _ => ⟨0, hi_one 4294967296 f, Nat.pow_pos (by omega)⟩
  | k + 2, _, h => ⟨4294967296 * 4294967296 * vb 4294967296 f k, hi_two 4294967296 f k, hi_lt 4294967296 (by omega) f k (vb_lt (fun j hj => h j (by omega)))⟩
theorem hi_rest (B W V x H l : Nat) (h : B * B * V = H * W + l) : B * B * (V + W * x) = (x * (B * B) + H) * W + l := by
  rw [Nat.mul_add, h]; grind
theorem gs_bound {r d : Nat → Nat} {k : Nat} (hr : ∀ j, j < k + 2 → r j < 4294967296) (hd : ∀ j, j < k + 1 → d j < 4294967296) (hdk : 2147483648 ≤ d k) (hlt : vb 4294967296 r (k + 2) < 4294967296 * vb 4294967296 d (k + 1)) :
    vb 4294967296 r (k + 2) / vb 4294967296 d (k + 1) ≤ gsN r d (k + 1) ∧ gsN r d (k + 1) ≤ vb 4294967296 r (k + 2) / vb 4294967296 d (k + 1) + 1 := by
  obtain ⟨l, hX, hl⟩ := hi_split (n := k + 1) (by omega) hd
  obtain ⟨l', hY', hl'⟩ := hi_split (f := r) (n := k + 1) (by omega) (fun j hj => hr j (by omega))
  have hY : 4294967296 * 4294967296 * vb 4294967296 r (k + 2) = (r (k + 1) * (4294967296 * 4294967296) + hiN r (k + 1)) * 4294967296 ^ (k + 1) + l' := hi_rest _ _ _ _ _ _ hY'
  have hH := hiN_ge (f := d) hdk
  have h := guess_bound hX hl hY hl' (B := 4294967296) (by omega) (by omega) (by omega) (by rw [Nat.mul_left_comm]; exact Nat.mul_lt_mul_of_pos_left hlt (by omega))
  rw [Nat.mul_div_mul_left _ _ (by omega)] at h
  exact h
/-- What divideStep leaves. -/
def StepPost (S o k : Nat) (r d : Nat → Nat) (w : World) (e : Ending) (w' : World) : Prop :=
  ∃ ns : Nat → Nat, e = .returned (.int .u32 ((vb 4294967296 r (k + 2) / vb 4294967296 d (k + 1) : Nat) : Int)) ∧ (∀ j, j < k + 2 → ns j < 4294967296) ∧ vb 4294967296 ns (k + 2) = vb 4294967296 r (k + 2) % vb 4294967296 d (k + 1) ∧ ns (k + 1) = 0 ∧ HoldsN S o (k + 2) ns w w'
theorem HoldsN.then_ {S o k n : Nat} {n1 n2 : Nat → Nat} {w wr w' : World} (h : HoldsN S o k n1 w wr) (h' : HoldsN S o n n2 wr w') (hk : k ≤ n) : HoldsN S o n n2 w w' := by
  refine ⟨h.1.trans h'.1, fun j => ?_⟩
  rw [h'.2 j]
  by_cases hj : o ≤ j ∧ j < o + n
  · rw [if_pos hj, if_pos hj]
  · rw [if_neg hj, if_neg hj, h.2 j, if_neg (by omega)]
theorem But.drawn' {S : Nat} {w w' : World} (n : Nat) (h : But S (w.drewN n) w') : But S w w' := ⟨h.os, h.tape, h.output, h.size, h.block, h.frozen⟩
theorem HoldsN.drawn' {S o k : Nat} {ns : Nat → Nat} {w w' : World} (n : Nat) (h : HoldsN S o k ns (w.drewN n) w') : HoldsN S o k ns w w' := ⟨h.1.drawn' n, h.2⟩
theorem HoldsN.snoc {S o k y : Nat} {ns : Nat → Nat} {w w' : World} (h : HoldsN S o k ns w w') (hc : (w'.cell? ⟨S, o + k, none⟩).isSome = true) : HoldsN S o (k + 1) (upd ns k y) w (w'.setCell ⟨S, o + k, none⟩ (.int .u32 (y : Nat))) := by
  refine ⟨h.1.set _ _, fun j => ?_⟩
  by_cases hj : j = o + k
  · subst hj
    obtain ⟨v, hv⟩ := Option.isSome_iff_exists.1 hc
    rw [if_pos (by omega), World.cell?_setCell_same _ _ _ hv]
    simp [upd]
  · rw [World.cell?_setCell_other _ _ _ _ (by intro e; apply hj; injection e with _ e2; exact e2.symm), h.2 j]
    by_cases h1 : o ≤ j ∧ j < o + k
    · rw [if_pos h1, if_pos (by omega)]; unfold upd; rw [if_neg (by omega)]
    · rw [if_neg h1, if_neg (by omega)]
theorem step_post {S o k : Nat} {r d ns : Nat → Nat} {w w' : World} (hns : ∀ j, j < k + 1 → ns j < 4294967296) (hv : vb 4294967296 ns (k + 1) + vb 4294967296 r (k + 2) / vb 4294967296 d (k + 1) * vb 4294967296 d (k + 1) = vb 4294967296 r (k + 2))
    (h : HoldsN S o (k + 2) (upd ns (k + 1) 0) w w') (q : Int) (hq : q = ((vb 4294967296 r (k + 2) / vb 4294967296 d (k + 1) : Nat) : Int)) : StepPost S o k r d w (.returned (.int .u32 q)) w' := by
  refine ⟨upd ns (k + 1) 0, by rw [hq], upd_ltP hns (by omega), ?_, by simp [upd], h⟩
  rw [vb_upd, Nat.mul_zero, Nat.add_zero]
  have := Nat.div_add_mod' (vb 4294967296 r (k + 2)) (vb 4294967296 d (k + 1))
  omega

theorem HoldsN.over {S o k : Nat} {n1 : Nat → Nat} {w w' : World} (h : HoldsN S o (k + 1) n1 w w') (y : Nat) (hc : (w'.cell? ⟨S, o + k, none⟩).isSome = true) : HoldsN S o (k + 1) (upd n1 k y) w (w'.setCell ⟨S, o + k, none⟩ (.int .u32 (y : Nat))) := h.set k y (by omega) hc
theorem upd_twice {S o m k : Nat} {n2 : Nat → Nat} {u v : Nat} {w w' : World} (h : HoldsN S o m (upd (upd n2 k u) k v) w w') : HoldsN S o m (upd n2 k v) w w' := by
  have e : upd (upd n2 k u) k v = upd n2 k v := funext fun j => by unfold upd; split <;> rfl
  rwa [e] at h
theorem carry_one {W Lr x q D N N2 c : Nat} (hq1 : q * D ≤ Lr + W * x) (h1 : N + q * D + D = Lr + W * x + W) (h2 : N2 + W * c = N + D) (hc : c ≤ 1) (hN : N2 < W) : c = 1 ∧ N2 + q * D = Lr + W * x := by
  have e : c = 1 := by
    rcases Nat.lt_or_ge c 1 with h | h
    · obtain rfl : c = 0 := by omega
      rw [Nat.mul_zero] at h2
      omega
    · omega
  subst e
  rw [Nat.mul_one] at h2
  exact ⟨rfl, by omega⟩
theorem HoldsN.then_' {S o k : Nat} {n1 n2 : Nat → Nat} {w wr w' : World} (h : HoldsN S o (k + 1) n1 w wr) (h' : HoldsN S o k n2 wr.drew w') : HoldsN S o (k + 1) (upd n2 k (n1 k)) w w' := by
  refine ⟨h.1.trans (h'.1.drawn' 1), fun j => ?_⟩
  rw [h'.2 j]
  by_cases hj : o ≤ j ∧ j < o + k
  · rw [if_pos hj, if_pos (by omega)]; unfold upd; rw [if_neg (by omega)]
  · rw [if_neg hj]
    show wr.cell? _ = _
    rw [h.2 j]
    by_cases e : j = o + k
    · rw [if_pos (by omega), if_pos (by omega)]; unfold upd; rw [if_pos (by omega)]; congr 3; congr 1; omega
    · rw [if_neg (by omega), if_neg (by omega)]

set_option maxRecDepth 100000 in
set_option maxHeartbeats 1000000 in
theorem step_any (S o capS : Nat) (a : Option Addr) (k capD : Nat) (r d : Nat → Nat) (hn : (k : Int) ≤ 17000000000) (hc : k + 2 ≤ capS) (hr : ∀ j, j < k + 2 → r j < 4294967296) (hd : ∀ j, j < k + 1 → d j < 4294967296) (hdk : 2147483648 ≤ d k) (hlt : vb 4294967296 r (k + 2) < 4294967296 * vb 4294967296 d (k + 1)) (hO : Off S a) (w : World) (hW : Wr w S o (k + 2) r) (hR : RdA w a (k + 1) d) :
    Calls Try.prog 68 #[.slice (some ⟨S, o, none⟩) ((k + 2 : Nat)) capS, .slice a ((k + 1 : Nat)) capD] w (StepPost S o k r d w) := by
  have hk0 : (0 : Int) ≤ k := by omega
  have hg := guess_any S o capS a k capD r d (by omega) (by omega) hr hd hdk w hW.pt hR
  obtain ⟨b1, b2⟩ := gs_bound hr hd hdk hlt
  have hgl : gsN r d (k + 1) < 4294967296 := by unfold gsN; omega
  obtain ⟨g, hgg⟩ : ∃ g, gsN r d (k + 1) = g := ⟨_, rfl⟩
  rw [hgg] at hg b1 b2 hgl
  clear hgg
  have hD0 : 0 < vb 4294967296 d (k + 1) := by
    rcases Nat.eq_zero_or_pos (vb 4294967296 d (k + 1)) with h | h
    · rw [h] at hlt; omega
    · exact h
  have hDW := vb_lt hd
  obtain ⟨x, hx⟩ : ∃ x, r (k + 1) = x := ⟨_, rfl⟩
  have hVr : vb 4294967296 r (k + 2) = vb 4294967296 r (k + 1) + 4294967296 ^ (k + 1) * x := by rw [← hx]; rfl
  have hx1 : x < 4294967296 := by rw [← hx]; exact hr _ (by omega)
  have ht := fun m : Nat => takeTimes_any S o (k + 1) capS a (k + 1) capD g r d (by omega) (by omega) (Nat.le_refl _) hgl (fun j hj => hr j (by omega)) hd hO (w.drewN m) (hW.less (k + 1) (by omega)) hR
  have hsl' := slice_nat (some ⟨S, o, none⟩) (k + 2) capS (k + 1) (by omega)
  have hsl : ∀ w, (Instr.slice 23 (.slice (some ⟨S, o, none⟩) (k + 2) capS) none (some (.int .i64 ((k : Int) + 1))) none).run Try.prog w = .ok (.slice (some ⟨S, o, none⟩) (k + 1) capS) w := hsl'
  clear hsl'
  have cx : w.cell? ⟨S, o + (k + 1), none⟩ = some (.int .u32 (x : Nat)) ∧ w.frozen? ⟨S, o + (k + 1), none⟩ = false := by have := hW.2 (k + 1) (by omega); rwa [hx] at this
  obtain ⟨q, hq⟩ : ∃ q, vb 4294967296 r (k + 2) / vb 4294967296 d (k + 1) = q := ⟨_, rfl⟩
  have hq1 : q * vb 4294967296 d (k + 1) ≤ vb 4294967296 r (k + 1) + 4294967296 ^ (k + 1) * x := by rw [← hVr, ← hq]; exact Nat.div_mul_le_self _ _
  have hq2 : vb 4294967296 r (k + 1) + 4294967296 ^ (k + 1) * x < q * vb 4294967296 d (k + 1) + vb 4294967296 d (k + 1) := by
    rw [← hVr, ← hq]
    exact Nat.lt_div_mul_add (a := vb 4294967296 r (k + 2)) hD0
  rw [hq] at b1 b2
  have HG := Lib.hid hg; clear hg
  have HT := Lib.hid ht; clear ht
  have HCX := Lib.hid cx; clear cx
  have HQ := Lib.hid hq; clear hq
  have HQ1 := Lib.hid hq1; clear hq1
  have HQ2 := Lib.hid hq2; clear hq2
  have HDW := Lib.hid hDW; clear hDW
  have HD0 := Lib.hid hD0; clear hD0
  have HVR := Lib.hid hVr; clear hVr
  have HR := Lib.hid hr; clear hr
  have HD := Lib.hid hd; clear hd
  have HO := Lib.hid hO; clear hO
  have HW := Lib.hid hW; clear hW
  have HRD := Lib.hid hR; clear hR
  clear hx hlt
  have hx0 : (0 : Int) ≤ x := by omega
  have hx2 : (x : Int) < 4294967296 := by omega
  by_cases hge : g = q
  · have HGE := Lib.hid hge; clear hge
    clear b1 b2 hgl
    go_enter Try.func68, Try.ntmps68
    go_wp2_with fail
    refine HG.out.mono ?_
    rintro e w' ⟨rfl, m, rfl⟩
    go_wp2_with fail
    refine (HT.out m).mono ?_
    rintro e w1 ⟨ns, c, rfl, hc1, hns, hv, hh⟩
    obtain ⟨rfl, hv2⟩ := step_right HQ1.out HQ2.out (Nat.le_of_lt HDW.out) (vb_lt hns) (by rw [HGE.out] at hv; exact hv)
    have c1 : w1.cell? ⟨S, o + (k + 1), none⟩ = some (.int .u32 (c : Nat)) := by rw [hh.2, if_neg (by omega)]; exact HCX.out.1
    have f1 : w1.frozen? ⟨S, o + (k + 1), none⟩ = false := (hh.1.frozen _).trans HCX.out.2
    have HH := Lib.hid (And.intro hns (And.intro hv2 (hh.drawn' m))); clear hns hv hh hv2
    have ez : (c : Int) - (c : Int) = 0 := by omega
    have hnlt : ¬ (c : Int) < c := by omega
    go_wp2
    go_ret
    refine step_post HH.out.1 (by rw [HQ.out, HVR.out]; exact HH.out.2.1) ?_ _ (by rw [HQ.out, HGE.out])
    exact HH.out.2.2.snoc (by rw [c1]; rfl)
  · have hge2 : g = q + 1 := by omega
    have HGE := Lib.hid hge2; clear hge2 hge
    have hg1 : IntKind.u32.wrap ((g : Int) - 1) = (q : Int) := by rw [IntKind.wrap_u32]; have := HGE.out; omega
    have hg2 : ((g : Int) - 1) % 4294967296 = (q : Int) := by have := HGE.out; omega
    have HG1 := Lib.hid hg1; clear hg1
    have HG2 := Lib.hid hg2; clear hg2
    clear b1 b2 hgl
    go_enter Try.func68, Try.ntmps68
    go_wp2_with fail
    refine HG.out.mono ?_
    rintro e w' ⟨rfl, m, rfl⟩
    go_wp2_with fail
    refine (HT.out m).mono ?_
    rintro e w1 ⟨ns, c, rfl, hc1, hns, hv, hh⟩
    obtain ⟨hcx, hv2⟩ := step_over HQ1.out HQ2.out (Nat.le_of_lt HDW.out) (vb_lt hns) (by rw [HGE.out] at hv; exact hv)
    have c1 : w1.cell? ⟨S, o + (k + 1), none⟩ = some (.int .u32 (x : Nat)) := by rw [hh.2, if_neg (by omega)]; exact HCX.out.1
    have f1 : w1.frozen? ⟨S, o + (k + 1), none⟩ = false := (hh.1.frozen _).trans HCX.out.2
    have hlt : (x : Int) < c := by omega
    have hsub : ((x : Int) - (c : Int)) % 4294967296 = 4294967295 := by omega
    have HH := Lib.hid (And.intro hns (And.intro hv2 (hh.drawn' m))); clear hns hv hh hv2 hcx
    go_wp2_with fail
    obtain ⟨y, hy⟩ : ∃ y : Nat, y = 4294967295 := ⟨_, rfl⟩
    rw [show (4294967295 : Int) = ((y : Nat) : Int) by rw [hy]; rfl]
    obtain ⟨w2, hw2⟩ : ∃ w2, w1.setCell ⟨S, o + (k + 1), none⟩ (.int .u32 (y : Nat)) = w2 := ⟨_, rfl⟩
    rw [hw2]
    have h2 : HoldsN S o (k + 2) (upd ns (k + 1) y) w w2 := by rw [← hw2]; exact HH.out.2.2.snoc (y := y) (by rw [c1]; rfl)
    clear hw2 c1 f1 hsub hlt
    have hwr : Wr w2 S o (k + 2) (upd ns (k + 1) y) := h2.wr HW.out
    have hwr1 : Wr w2.drew S o (k + 1) ns := ⟨hwr.1, fun j hj => by have := hwr.2 j (by omega); rwa [show upd ns (k + 1) y j = ns j by simp [upd]; omega] at this⟩
    have c2 : w2.cell? ⟨S, o + (k + 1), none⟩ = some (.int .u32 (y : Nat)) := by have := (hwr.2 (k + 1) (by omega)).1; simpa [upd] using this
    have f2 : w2.frozen? ⟨S, o + (k + 1), none⟩ = false := (hwr.2 (k + 1) (by omega)).2
    have hrd : RdA w2.drew a (k + 1) d := (HRD.out.but HO.out h2.1.drew)
    have HADD := Lib.hid (addTo_any S o (k + 1) capS a (k + 1) capD ns d (by omega) (Nat.le_refl _) HH.out.1 HD.out HO.out w2.drew hwr1 hrd)
    have H2 := Lib.hid h2; clear h2
    clear hwr hwr1 hrd
    have hm1 : IntKind.u32.wrap ((y : Int) + 1) = 0 := by rw [hy]; rfl
    have hm2 : ((y : Int) + 1) % 4294967296 = 0 := by rw [hy]; rfl
    clear hy
    have hadd2 : Calls Try.prog 42 #[.slice (some ⟨S, o, none⟩) (k + 1) capS, .slice a (k + 1) capD] w2.drew fun e w4 => e = .returned (.int .u32 1) ∧ w4.cell? ⟨S, o + (k + 1), none⟩ = some (.int .u32 (y : Nat)) ∧ w4.frozen? ⟨S, o + (k + 1), none⟩ = false ∧
        Hid (∃ n2, (∀ j, j < k + 1 → n2 j < 4294967296) ∧ vb 4294967296 n2 (k + 1) + q * vb 4294967296 d (k + 1) = vb 4294967296 r (k + 1) + 4294967296 ^ (k + 1) * x ∧ HoldsN S o (k + 2) (upd n2 (k + 1) (upd ns (k + 1) y (k + 1))) w w4) := HADD.out.mono (by
      rintro e w4 ⟨n2, c3, rfl, hc3, hl3, hv3, hh3⟩
      obtain ⟨rfl, hv4⟩ := carry_one HQ1.out HH.out.2.1 hv3 hc3 (vb_lt hl3)
      exact ⟨rfl, by rw [hh3.2, if_neg (by omega)]; exact c2, (hh3.1.frozen _).trans f2, Lib.hid ⟨n2, hl3, hv4, H2.out.then_' hh3⟩⟩)
    have HADD2 := Lib.hid hadd2; clear hadd2
    have hg1 := HG1.out
    have hg2 := HG2.out
    clear hx1 hx2 hx0 hdk hc1 hn hc
    go_region_with (go_at_call 42; (with_reducible refine HADD2.out.mono ?_); rintro e w4 ⟨rfl, c4, f4, HF4⟩)
    all_goals
      go_wp2
      go_ret
      obtain ⟨n2, HA, HB, HC⟩ := HF4.out
      refine step_post HA (by rw [HQ.out, HVR.out]; exact HB) ?_ _ (by rw [HQ.out])
      exact upd_twice (HC.over _ (by rw [c4]; rfl))
end Go.Proofs.Ytgegkffigjogcaa
