/- What nat.timesModulo comes to, called with two numbers without noughts behind and a list whose highest bit is set. (With it, merged: NStep · NDivide · NTake · NApi · NMod · NPow.) -/
import Derived.Test.YtgegkffigjogcaaM2
import Derived.Test.YtgegkffigjogcaaM1
import Derived.Deep.DeepCutAuto
import Derived.Laws.CopyOwn
import Derived.ArgAppend
namespace Go.Proofs.Ytgegkffigjogcaa
open Go.RowKit

theorem hi_two (B : Nat) (f : Nat → Nat) (k : Nat) : B * B * vb B f (k + 2) = (f (k + 1) * B + f k) * B ^ (k + 2) + B * B * vb B f k := by
  simp only [vb, Nat.pow_succ]
  generalize B ^ k = Q
  generalize vb B f k = V
  grind
theorem hi_one (B : Nat) (f : Nat → Nat) : B * B * vb B f 1 = f 0 * B * B ^ 1 + 0 := by
  simp only [vb, Nat.pow_one, Nat.pow_zero, Nat.one_mul, Nat.zero_add, Nat.add_zero]
  grind
theorem hi_lt (B : Nat) (hB : 0 < B) (f : Nat → Nat) (k : Nat) (h : vb B f k < B ^ k) : B * B * vb B f k < B ^ (k + 2) := by
  rw [show B ^ (k + 2) = B * B * B ^ k by simp only [Nat.pow_succ]; grind]
  exact Nat.mul_lt_mul_of_pos_left h (Nat.mul_pos hB hB)
theorem hi_split {f : Nat → Nat} : ∀ {n : Nat}, 0 < n → (∀ j, j < n → f j < 4294967296) → ∃ l, 4294967296 * 4294967296 * vb 4294967296 f n = hiN f n * 4294967296 ^ n + l ∧ l < 4294967296 ^ n
  | 0, h, _ => by omega
  | 1, _, _ => ⟨0, hi_one 4294967296 f, Nat.pow_pos (by omega)⟩
  | k + 2, _, h => ⟨4294967296 * 4294967296 * vb 4294967296 f k, hi_two 4294967296 f k, hi_lt 4294967296 (by omega) f k (vb_lt (fun j hj => h j (by omega)))⟩
theorem hi_rest (B W V x H l : Nat) (h : B * B * V = H * W + l) : B * B * (V + W * x) = (x * (B * B) + H) * W + l := by
  rw [Nat.mul_add, h]; grind
theorem gs_bound {r d : Nat → Nat} {k : Nat} (hr : ∀ j, j < k + 2 → r j < 4294967296) (hd : ∀ j, j < k + 1 → d j < 4294967296) (hdk : 2147483648 ≤ d k) (hlt : vb 4294967296 r (k + 2) < 4294967296 * vb 4294967296 d (k + 1)) :
    vb 4294967296 r (k + 2) / vb 4294967296 d (k + 1) ≤ gsN r d (k + 1) ∧ gsN r d (k + 1) ≤ vb 4294967296 r (k + 2) / vb 4294967296 d (k + 1) + 1 := by
  obtain ⟨l, hX, hl⟩ := hi_split (n := k + 1) (by omega) hd
  obtain ⟨l', hY', hl'⟩ := hi_split (f := r) (n := k + 1) (by omega) (fun j hj => hr j (by omega))
  have hY : 4294967296 * 4294967296 * vb 4294967296 r (k + 2) = (r (k + 1) * (4294967296 * 4294967296) + hiN r (k + 1)) * 4294967296 ^ (k + 1) + l' := hi_rest _ _ _ _ _ _ hY'
  have hH := hiN_ge (f := d) hdk
  have h := guess_bound hX hl hY hl' (B := 4294967296) (by omega) (by omega) (by omega) (by rw [Nat.mul_left_comm]; exact Nat.mul_lt_mul_of_pos_left hlt (by omega))
  rw [Nat.mul_div_mul_left _ _ (by omega)] at h
  exact h
/-- What divideStep leaves. -/
def StepPost (S o k : Nat) (r d : Nat → Nat) (w : World) (e : Ending) (w' : World) : Prop :=
  ∃ ns : Nat → Nat, e = .returned (.int .u32 ((vb 4294967296 r (k + 2) / vb 4294967296 d (k + 1) : Nat) : Int)) ∧ (∀ j, j < k + 2 → ns j < 4294967296) ∧ vb 4294967296 ns (k + 2) = vb 4294967296 r (k + 2) % vb 4294967296 d (k + 1) ∧ ns (k + 1) = 0 ∧ HoldsN S o (k + 2) ns w w'
theorem HoldsN.then_ {S o k n : Nat} {n1 n2 : Nat → Nat} {w wr w' : World} (h : HoldsN S o k n1 w wr) (h' : HoldsN S o n n2 wr w') (hk : k ≤ n) : HoldsN S o n n2 w w' := by
  refine ⟨h.1.trans h'.1, fun j => ?_⟩
  rw [h'.2 j]
  by_cases hj : o ≤ j ∧ j < o + n
  · rw [if_pos hj, if_pos hj]
  · rw [if_neg hj, if_neg hj, h.2 j, if_neg (by omega)]
theorem But.drawn' {S : Nat} {w w' : World} (n : Nat) (h : But S (w.drewN n) w') : But S w w' := ⟨h.os, h.tape, h.output, h.size, h.block, h.frozen⟩
theorem HoldsN.drawn' {S o k : Nat} {ns : Nat → Nat} {w w' : World} (n : Nat) (h : HoldsN S o k ns (w.drewN n) w') : HoldsN S o k ns w w' := ⟨h.1.drawn' n, h.2⟩
theorem HoldsN.snoc {S o k y : Nat} {ns : Nat → Nat} {w w' : World} (h : HoldsN S o k ns w w') (hc : (w'.cell? ⟨S, o + k, none⟩).isSome = true) : HoldsN S o (k + 1) (upd ns k y) w (w'.setCell ⟨S, o + k, none⟩ (.int .u32 (y : Nat))) := by
  refine ⟨h.1.set _ _, fun j => ?_⟩
  by_cases hj : j = o + k
  · subst hj
    obtain ⟨v, hv⟩ := Option.isSome_iff_exists.1 hc
    rw [if_pos (by omega), World.cell?_setCell_same _ _ _ hv]
    simp [upd]
  · rw [World.cell?_setCell_other _ _ _ _ (by intro e; apply hj; injection e with _ e2; exact e2.symm), h.2 j]
    by_cases h1 : o ≤ j ∧ j < o + k
    · rw [if_pos h1, if_pos (by omega)]; unfold upd; rw [if_neg (by omega)]
    · rw [if_neg h1, if_neg (by omega)]
theorem step_post {S o k : Nat} {r d ns : Nat → Nat} {w w' : World} (hns : ∀ j, j < k + 1 → ns j < 4294967296) (hv : vb 4294967296 ns (k + 1) + vb 4294967296 r (k + 2) / vb 4294967296 d (k + 1) * vb 4294967296 d (k + 1) = vb 4294967296 r (k + 2))
    (h : HoldsN S o (k + 2) (upd ns (k + 1) 0) w w') (q : Int) (hq : q = ((vb 4294967296 r (k + 2) / vb 4294967296 d (k + 1) : Nat) : Int)) : StepPost S o k r d w (.returned (.int .u32 q)) w' := by
  refine ⟨upd ns (k + 1) 0, by rw [hq], upd_ltP hns (by omega), ?_, by simp [upd], h⟩
  rw [vb_upd, Nat.mul_zero, Nat.add_zero]
  have := Nat.div_add_mod' (vb 4294967296 r (k + 2)) (vb 4294967296 d (k + 1))
  omega

theorem HoldsN.over {S o k : Nat} {n1 : Nat → Nat} {w w' : World} (h : HoldsN S o (k + 1) n1 w w') (y : Nat) (hc : (w'.cell? ⟨S, o + k, none⟩).isSome = true) : HoldsN S o (k + 1) (upd n1 k y) w (w'.setCell ⟨S, o + k, none⟩ (.int .u32 (y : Nat))) := h.set k y (by omega) hc
theorem upd_twice {S o m k : Nat} {n2 : Nat → Nat} {u v : Nat} {w w' : World} (h : HoldsN S o m (upd (upd n2 k u) k v) w w') : HoldsN S o m (upd n2 k v) w w' := by
  have e : upd (upd n2 k u) k v = upd n2 k v := funext fun j => by unfold upd; split <;> rfl
  rwa [e] at h
theorem carry_one {W Lr x q D N N2 c : Nat} (hq1 : q * D ≤ Lr + W * x) (h1 : N + q * D + D = Lr + W * x + W) (h2 : N2 + W * c = N + D) (hc : c ≤ 1) (hN : N2 < W) : c = 1 ∧ N2 + q * D = Lr + W * x := by
  have e : c = 1 := by
    rcases Nat.lt_or_ge c 1 with h | h
    · obtain rfl : c = 0 := by omega
      rw [Nat.mul_zero] at h2
      omega
    · omega
  subst e
  rw [Nat.mul_one] at h2
  exact ⟨rfl, by omega⟩
theorem HoldsN.then_' {S o k : Nat} {n1 n2 : Nat → Nat} {w wr w' : World} (h : HoldsN S o (k + 1) n1 w wr) (h' : HoldsN S o k n2 wr.drew w') : HoldsN S o (k + 1) (upd n2 k (n1 k)) w w' := by
  refine ⟨h.1.trans (h'.1.drawn' 1), fun j => ?_⟩
  rw [h'.2 j]
  by_cases hj : o ≤ j ∧ j < o + k
  · rw [if_pos hj, if_pos (by omega)]; unfold upd; rw [if_neg (by omega)]
  · rw [if_neg hj]
    show wr.cell? _ = _
    rw [h.2 j]
    by_cases e : j = o + k
    · rw [if_pos (by omega), if_pos (by omega)]; unfold upd; rw [if_pos (by omega)]; congr 3; congr 1; omega
    · rw [if_neg (by omega), if_neg (by omega)]

set_option maxRecDepth 100000 in
set_option maxHeartbeats 1000000 in
theorem step_any (S o capS : Nat) (a : Option Addr) (k capD : Nat) (r d : Nat → Nat) (hn : (k : Int) ≤ 17000000000) (hc : k + 2 ≤ capS) (hr : ∀ j, j < k + 2 → r j < 4294967296) (hd : ∀ j, j < k + 1 → d j < 4294967296) (hdk : 2147483648 ≤ d k) (hlt : vb 4294967296 r (k + 2) < 4294967296 * vb 4294967296 d (k + 1)) (hO : Off S a) (w : World) (hW : Wr w S o (k + 2) r) (hR : RdA w a (k + 1) d) :
    Calls Try.prog 68 #[.slice (some ⟨S, o, none⟩) ((k + 2 : Nat)) capS, .slice a ((k + 1 : Nat)) capD] w (StepPost S o k r d w) := by
  have hk0 : (0 : Int) ≤ k := by omega
  have hg := guess_any S o capS a k capD r d (by omega) (by omega) hr hd hdk w hW.pt hR
  obtain ⟨b1, b2⟩ := gs_bound hr hd hdk hlt
  have hgl : gsN r d (k + 1) < 4294967296 := by unfold gsN; omega
  obtain ⟨g, hgg⟩ : ∃ g, gsN r d (k + 1) = g := ⟨_, rfl⟩
  rw [hgg] at hg b1 b2 hgl
  clear hgg
  have hD0 : 0 < vb 4294967296 d (k + 1) := by
    rcases Nat.eq_zero_or_pos (vb 4294967296 d (k + 1)) with h | h
    · rw [h] at hlt; omega
    · exact h
  have hDW := vb_lt hd
  obtain ⟨x, hx⟩ : ∃ x, r (k + 1) = x := ⟨_, rfl⟩
  have hVr : vb 4294967296 r (k + 2) = vb 4294967296 r (k + 1) + 4294967296 ^ (k + 1) * x := by rw [← hx]; rfl
  have hx1 : x < 4294967296 := by rw [← hx]; exact hr _ (by omega)
  have ht := fun m : Nat => takeTimes_any S o (k + 1) capS a (k + 1) capD g r d (by omega) (by omega) (Nat.le_refl _) hgl (fun j hj => hr j (by omega)) hd hO (w.drewN m) (hW.less (k + 1) (by omega)) hR
  have hsl' := slice_nat (some ⟨S, o, none⟩) (k + 2) capS (k + 1) (by omega)
  have hsl : ∀ w, (Instr.slice 23 (.slice (some ⟨S, o, none⟩) (k + 2) capS) none (some (.int .i64 ((k : Int) + 1))) none).run Try.prog w = .ok (.slice (some ⟨S, o, none⟩) (k + 1) capS) w := hsl'
  clear hsl'
  have cx : w.cell? ⟨S, o + (k + 1), none⟩ = some (.int .u32 (x : Nat)) ∧ w.frozen? ⟨S, o + (k + 1), none⟩ = false := by have := hW.2 (k + 1) (by omega); rwa [hx] at this
  obtain ⟨q, hq⟩ : ∃ q, vb 4294967296 r (k + 2) / vb 4294967296 d (k + 1) = q := ⟨_, rfl⟩
  have hq1 : q * vb 4294967296 d (k + 1) ≤ vb 4294967296 r (k + 1) + 4294967296 ^ (k + 1) * x := by rw [← hVr, ← hq]; exact Nat.div_mul_le_self _ _
  have hq2 : vb 4294967296 r (k + 1) + 4294967296 ^ (k + 1) * x < q * vb 4294967296 d (k + 1) + vb 4294967296 d (k + 1) := by
    rw [← hVr, ← hq]
    exact Nat.lt_div_mul_add (a := vb 4294967296 r (k + 2)) hD0
  rw [hq] at b1 b2
  have HG := Lib.hid hg; clear hg
  have HT := Lib.hid ht; clear ht
  have HCX := Lib.hid cx; clear cx
  have HQ := Lib.hid hq; clear hq
  have HQ1 := Lib.hid hq1; clear hq1
  have HQ2 := Lib.hid hq2; clear hq2
  have HDW := Lib.hid hDW; clear hDW
  have HD0 := Lib.hid hD0; clear hD0
  have HVR := Lib.hid hVr; clear hVr
  have HR := Lib.hid hr; clear hr
  have HD := Lib.hid hd; clear hd
  have HO := Lib.hid hO; clear hO
  have HW := Lib.hid hW; clear hW
  have HRD := Lib.hid hR; clear hR
  clear hx hlt
  have hx0 : (0 : Int) ≤ x := by omega
  have hx2 : (x : Int) < 4294967296 := by omega
  by_cases hge : g = q
  · have HGE := Lib.hid hge; clear hge
    clear b1 b2 hgl
    go_enter Try.func68, Try.ntmps68
    go_wp2_with fail
    refine HG.out.mono ?_
    rintro e w' ⟨rfl, m, rfl⟩
    go_wp2_with fail
    refine (HT.out m).mono ?_
    rintro e w1 ⟨ns, c, rfl, hc1, hns, hv, hh⟩
    obtain ⟨rfl, hv2⟩ := step_right HQ1.out HQ2.out (Nat.le_of_lt HDW.out) (vb_lt hns) (by rw [HGE.out] at hv; exact hv)
    have c1 : w1.cell? ⟨S, o + (k + 1), none⟩ = some (.int .u32 (c : Nat)) := by rw [hh.2, if_neg (by omega)]; exact HCX.out.1
    have f1 : w1.frozen? ⟨S, o + (k + 1), none⟩ = false := (hh.1.frozen _).trans HCX.out.2
    have HH := Lib.hid (And.intro hns (And.intro hv2 (hh.drawn' m))); clear hns hv hh hv2
    have ez : (c : Int) - (c : Int) = 0 := by omega
    have hnlt : ¬ (c : Int) < c := by omega
    go_wp2
    go_ret
    refine step_post HH.out.1 (by rw [HQ.out, HVR.out]; exact HH.out.2.1) ?_ _ (by rw [HQ.out, HGE.out])
    exact HH.out.2.2.snoc (by rw [c1]; rfl)
  · have hge2 : g = q + 1 := by omega
    have HGE := Lib.hid hge2; clear hge2 hge
    have hg1 : IntKind.u32.wrap ((g : Int) - 1) = (q : Int) := by rw [IntKind.wrap_u32]; have := HGE.out; omega
    have hg2 : ((g : Int) - 1) % 4294967296 = (q : Int) := by have := HGE.out; omega
    have HG1 := Lib.hid hg1; clear hg1
    have HG2 := Lib.hid hg2; clear hg2
    clear b1 b2 hgl
    go_enter Try.func68, Try.ntmps68
    go_wp2_with fail
    refine HG.out.mono ?_
    rintro e w' ⟨rfl, m, rfl⟩
    go_wp2_with fail
    refine (HT.out m).mono ?_
    rintro e w1 ⟨ns, c, rfl, hc1, hns, hv, hh⟩
    obtain ⟨hcx, hv2⟩ := step_over HQ1.out HQ2.out (Nat.le_of_lt HDW.out) (vb_lt hns) (by rw [HGE.out] at hv; exact hv)
    have c1 : w1.cell? ⟨S, o + (k + 1), none⟩ = some (.int .u32 (x : Nat)) := by rw [hh.2, if_neg (by omega)]; exact HCX.out.1
    have f1 : w1.frozen? ⟨S, o + (k + 1), none⟩ = false := (hh.1.frozen _).trans HCX.out.2
    have hlt : (x : Int) < c := by omega
    have hsub : ((x : Int) - (c : Int)) % 4294967296 = 4294967295 := by omega
    have HH := Lib.hid (And.intro hns (And.intro hv2 (hh.drawn' m))); clear hns hv hh hv2 hcx
    go_wp2_with fail
    obtain ⟨y, hy⟩ : ∃ y : Nat, y = 4294967295 := ⟨_, rfl⟩
    rw [show (4294967295 : Int) = ((y : Nat) : Int) by rw [hy]; rfl]
    obtain ⟨w2, hw2⟩ : ∃ w2, w1.setCell ⟨S, o + (k + 1), none⟩ (.int .u32 (y : Nat)) = w2 := ⟨_, rfl⟩
    rw [hw2]
    have h2 : HoldsN S o (k + 2) (upd ns (k + 1) y) w w2 := by rw [← hw2]; exact HH.out.2.2.snoc (y := y) (by rw [c1]; rfl)
    clear hw2 c1 f1 hsub hlt
    have hwr : Wr w2 S o (k + 2) (upd ns (k + 1) y) := h2.wr HW.out
    have hwr1 : Wr w2.drew S o (k + 1) ns := ⟨hwr.1, fun j hj => by have := hwr.2 j (by omega); rwa [show upd ns (k + 1) y j = ns j by simp [upd]; omega] at this⟩
    have c2 : w2.cell? ⟨S, o + (k + 1), none⟩ = some (.int .u32 (y : Nat)) := by have := (hwr.2 (k + 1) (by omega)).1; simpa [upd] using this
    have f2 : w2.frozen? ⟨S, o + (k + 1), none⟩ = false := (hwr.2 (k + 1) (by omega)).2
    have hrd : RdA w2.drew a (k + 1) d := (HRD.out.but HO.out h2.1.drew)
    have HADD := Lib.hid (addTo_any S o (k + 1) capS a (k + 1) capD ns d (by omega) (Nat.le_refl _) HH.out.1 HD.out HO.out w2.drew hwr1 hrd)
    have H2 := Lib.hid h2; clear h2
    clear hwr hwr1 hrd
    have hm1 : IntKind.u32.wrap ((y : Int) + 1) = 0 := by rw [hy]; rfl
    have hm2 : ((y : Int) + 1) % 4294967296 = 0 := by rw [hy]; rfl
    clear hy
    have hadd2 : Calls Try.prog 42 #[.slice (some ⟨S, o, none⟩) (k + 1) capS, .slice a (k + 1) capD] w2.drew fun e w4 => e = .returned (.int .u32 1) ∧ w4.cell? ⟨S, o + (k + 1), none⟩ = some (.int .u32 (y : Nat)) ∧ w4.frozen? ⟨S, o + (k + 1), none⟩ = false ∧
        Hid (∃ n2, (∀ j, j < k + 1 → n2 j < 4294967296) ∧ vb 4294967296 n2 (k + 1) + q * vb 4294967296 d (k + 1) = vb 4294967296 r (k + 1) + 4294967296 ^ (k + 1) * x ∧ HoldsN S o (k + 2) (upd n2 (k + 1) (upd ns (k + 1) y (k + 1))) w w4) := HADD.out.mono (by
      rintro e w4 ⟨n2, c3, rfl, hc3, hl3, hv3, hh3⟩
      obtain ⟨rfl, hv4⟩ := carry_one HQ1.out HH.out.2.1 hv3 hc3 (vb_lt hl3)
      exact ⟨rfl, by rw [hh3.2, if_neg (by omega)]; exact c2, (hh3.1.frozen _).trans f2, Lib.hid ⟨n2, hl3, hv4, H2.out.then_' hh3⟩⟩)
    have HADD2 := Lib.hid hadd2; clear hadd2
    have hg1 := HG1.out
    have hg2 := HG2.out
    clear hx1 hx2 hx0 hdk hc1 hn hc
    go_region_with (go_at_call 42; (with_reducible refine HADD2.out.mono ?_); rintro e w4 ⟨rfl, c4, f4, HF4⟩)
    all_goals
      go_wp2
      go_ret
      obtain ⟨n2, HA, HB, HC⟩ := HF4.out
      refine step_post HA (by rw [HQ.out, HVR.out]; exact HB) ?_ _ (by rw [HQ.out])
      exact upd_twice (HC.over _ (by rw [c4]; rfl))
end Go.Proofs.Ytgegkffigjogcaa
namespace Go.Proofs.Ytgegkffigjogcaa
open Go.RowKit

/-- What divide leaves. -/
def DivPostN (n A D : Nat) (w : World) (e : Ending) (w' : World) : Prop :=
  ∃ (Q nq cq R cr : Nat) (q r : Nat → Nat), e = .returned (.tuple #[.slice (some ⟨Q, 0, none⟩) nq cq, .slice (some ⟨R, 0, none⟩) ((n + 1 : Nat)) cr]) ∧ nq ≤ n ∧ nq ≤ cq ∧ n + 1 ≤ cr ∧ w.heap.size ≤ Q ∧ w.heap.size ≤ R ∧ Q ≠ R ∧ Wr w' Q 0 nq q ∧ Wr w' R 0 (n + 1) r ∧
    (∀ j, j < nq → q j < 4294967296) ∧ (∀ j, j < n + 1 → r j < 4294967296) ∧ vb 4294967296 q nq = A / D ∧ vb 4294967296 r (n + 1) = A % D ∧ Below w.heap.size w w'
/-- A divisor that is raised has its highest bit, and no part more. -/
theorem norm_bits {x s : Nat} (hx : x < 4294967296) (h0 : x ≠ 0) (hs : s = 32 - Lib.bitLen x) : s < 32 ∧ 2147483648 ≤ 2 ^ s * x ∧ 2 ^ s * (x + 1) ≤ 4294967296 := by
  obtain ⟨h1, h2, h3⟩ := bitLen_bounds x (by omega) h0
  have h4 := bitLen32 x hx
  have e1 : 2 ^ s * 2 ^ Lib.bitLen x = 4294967296 := by rw [← Nat.pow_add, hs, show 32 - Lib.bitLen x + Lib.bitLen x = 32 by omega]
  have e2 : 2 ^ s * 2 ^ (Lib.bitLen x - 1) = 2147483648 := by rw [← Nat.pow_add, hs, show 32 - Lib.bitLen x + (Lib.bitLen x - 1) = 31 by omega]
  refine ⟨by omega, ?_, ?_⟩
  · rw [← e2]; exact Nat.mul_le_mul_left _ h2
  · rw [← e1]; exact Nat.mul_le_mul_left _ h3
theorem norm_top {B : Nat} (hB : 0 < B) {g o : Nat → Nat} {m s : Nat} (hg : ∀ j, j < m → g j < B) (h1 : B / 2 * 1 ≤ 2 ^ s * g m) (h2 : 2 ^ s * (g m + 1) ≤ B) (ho : ∀ j, j < m + 2 → o j < B) (h : vb B o (m + 2) = 2 ^ s * vb B g (m + 1)) :
    o (m + 1) = 0 ∧ vb B o (m + 1) = 2 ^ s * vb B g (m + 1) ∧ B / 2 ≤ o m := by
  have hl := vb_lt hg
  have hp : 0 < B ^ m := Nat.pow_pos hB
  have hlt : 2 ^ s * vb B g (m + 1) < B ^ (m + 1) := by
    simp only [vb, Nat.pow_succ]
    have e1 : vb B g m + B ^ m * g m < B ^ m * (g m + 1) := by rw [Nat.mul_add, Nat.mul_one]; omega
    have e2 := Nat.mul_lt_mul_of_pos_left e1 (Nat.pow_pos (n := s) (show 0 < 2 by omega))
    have e3 : 2 ^ s * (B ^ m * (g m + 1)) = B ^ m * (2 ^ s * (g m + 1)) := by simp only [Nat.mul_left_comm]
    have e4 := Nat.mul_le_mul_left (B ^ m) h2
    omega
  have hz : o (m + 1) = 0 := by
    rcases Nat.eq_zero_or_pos (o (m + 1)) with h0 | h0
    · exact h0
    · exfalso
      have e : vb B o (m + 2) = vb B o (m + 1) + B ^ (m + 1) * o (m + 1) := rfl
      have := Nat.mul_le_mul_left (B ^ (m + 1)) h0
      omega
  have hv : vb B o (m + 1) = 2 ^ s * vb B g (m + 1) := by
    have e : vb B o (m + 2) = vb B o (m + 1) + B ^ (m + 1) * o (m + 1) := rfl
    rw [hz, Nat.mul_zero] at e
    omega
  refine ⟨hz, hv, ?_⟩
  have hd := vb_digit (f := o) (n := m + 1) (fun j hj => ho j (by omega)) m (by omega)
  rw [hv, Nat.mod_eq_of_lt (Nat.div_lt_of_lt_mul (by rw [← Nat.pow_succ]; exact hlt))] at hd
  suffices hk : B / 2 ≤ 2 ^ s * vb B g (m + 1) / B ^ m by rw [hd]; exact hk
  rw [Nat.le_div_iff_mul_le hp]
  simp only [vb, Nat.mul_add]
  have e3 : 2 ^ s * (B ^ m * g m) = B ^ m * (2 ^ s * g m) := by simp only [Nat.mul_left_comm]
  have e4 := Nat.mul_le_mul_left (B ^ m) h1
  rw [Nat.mul_one, Nat.mul_comm (B ^ m) (B / 2)] at e4
  omega
/-- The highest parts of what is divided are less than the divisor. -/
theorem top_less {B : Nat} {f : Nat → Nat} {D W : Nat} {i n : Nat} (h : vb B f (i + n) < W * B ^ i) (hW : W ≤ D) : vb B (fun j => f (i + j)) n < D := by
  rw [vb_split] at h
  have h1 : B ^ i * vb B (fun j => f (i + j)) n < B ^ i * W := by rw [Nat.mul_comm (B ^ i) W]; omega
  have := Nat.lt_of_mul_lt_mul_left h1
  omega
/-- The worlds of a division: rest, divisor and quotient lie in three blocks. -/
structure DivW (Q R V n m nq c : Nat) (q r d : Nat → Nat) (A D : Nat) (w wr : World) : Prop where
  quo : Wr wr Q 0 nq q
  rest : Wr wr R 0 (nq + (m + 1)) r
  dv : Pt wr V 0 (m + 1) d
  old : Below w.heap.size w wr
  inv : DivI 4294967296 (m + 1) nq c r q D A
theorem DivW.next {Q R V n m nq c p : Nat} {q r d ns : Nat → Nat} {A D : Nat} {w wr w1 : World} (h : DivW Q R V n m nq (c + 1) q r d A D w wr) (hc : c < nq) (hQ : w.heap.size ≤ Q) (hR : w.heap.size ≤ R) (hQR : Q ≠ R) (hVR : V ≠ R) (hVQ : V ≠ Q) (hp : p < 4294967296)
    (hns : ∀ j, j < m + 2 → ns j < 4294967296) (hv : vb 4294967296 ns (m + 2) + p * D = vb 4294967296 (fun j => r (c + j)) (m + 2)) (hl : vb 4294967296 ns (m + 1) < D) (ht : ns (m + 1) = 0) (hh : HoldsN R (0 + c) (m + 2) ns wr w1) :
    DivW Q R V n m nq c (spl q c 1 (fun _ => p)) (spl r c (m + 2) ns) d A D w (w1.setCell ⟨Q, c, none⟩ (.int .u32 (p : Nat))) := by
  have hb : But Q w1 (w1.setCell ⟨Q, c, none⟩ (.int .u32 (p : Nat))) := (But.refl Q w1).set c _
  have hq := (h.quo.but hh.1 hQR).set c p hc
  rw [Nat.zero_add] at hq
  have e : upd q c p = spl q c 1 (fun _ => p) := funext fun j => by
    unfold upd spl
    by_cases e : j = c
    · rw [if_pos e, if_pos (by omega)]
    · rw [if_neg e, if_neg (by omega)]
  rw [e] at hq
  refine ⟨hq, (hh.splice h.rest (by omega)).but hb (fun e => hQR e.symm), ?_, (But.below h.old hh.1 hR).setCell hQ _, h.inv.step hc hp hns hv hl ht⟩
  have h1 : Pt w1 V 0 (m + 1) d := ⟨by rw [hh.1.size]; exact h.dv.1, fun j hj => (hh.1.cell (p := ⟨V, 0 + j, none⟩) hVR).trans (h.dv.2 j hj)⟩
  exact ⟨by rw [hb.size]; exact h1.1, fun j hj => (hb.cell (p := ⟨V, 0 + j, none⟩) hVQ).trans (h1.2 j hj)⟩

/-- A division that is done but for the rest's shift back. -/
structure DivEnd (Q R n nq s : Nat) (q r : Nat → Nat) (A D : Nat) (w wr : World) : Prop where
  quo : Wr wr Q 0 nq q
  rest : Wr wr R 0 (n + 1) r
  qlt : ∀ j, j < nq → q j < 4294967296
  rlt : ∀ j, j < n + 1 → r j < 4294967296
  qv : vb 4294967296 q nq = A / D
  rv : vb 4294967296 r (n + 1) = 2 ^ s * (A % D)
  old : Below w.heap.size w wr
theorem DivEnd.post {Q R n nq s : Nat} {q r cur : Nat → Nat} {A D : Nat} {w wr w5 : World} (h : DivEnd Q R n nq s q r A D w wr) (hh : HoldsN R 0 (n + 1) cur wr w5) (hl : ∀ j, j < n + 1 → cur j < 4294967296) (hv : vb 4294967296 cur (n + 1) = vb 4294967296 r (n + 1) / 2 ^ s)
    (hn : nq ≤ n) (hQ : w.heap.size ≤ Q) (hR : w.heap.size ≤ R) (hQR : Q ≠ R) : DivPostN n A D w (.returned (.tuple #[.slice (some ⟨Q, 0, none⟩) nq nq, .slice (some ⟨R, 0, none⟩) ((n + 1 : Nat)) ((n + 1 : Nat))])) w5 :=
  ⟨Q, nq, nq, R, n + 1, q, cur, rfl, hn, Nat.le_refl _, Nat.le_refl _, hQ, hR, hQR, h.quo.but hh.1 hQR, hh.wr h.rest, h.qlt, hl, h.qv, by rw [hv, h.rv, Nat.mul_div_cancel_left _ (Nat.pow_pos (by omega))], But.below h.old hh.1 hR⟩
theorem below_undrew {w w' : World} (h : Below w.drew.heap.size w.drew w') : Below w.heap.size w w' := ⟨h.os, h.tape, h.output, h.size, h.block⟩

set_option maxRecDepth 100000 in
set_option maxHeartbeats 2000000 in
theorem divide_any (a : Option Addr) (n ca : Nat) (b : Option Addr) (m cb : Nat) (f g : Nat → Nat) (hn : (n : Int) ≤ 10000000000) (hm : (m : Int) ≤ 10000000000) (hf : ∀ j, j < n → f j < 4294967296) (hg : ∀ j, j < m + 1 → g j < 4294967296) (hgt : g m ≠ 0) (w : World) (hA : RdA w a n f) (hB : RdA w b (m + 1) g) :
    Calls Try.prog 54 #[.slice a n ca, .slice b ((m + 1 : Nat)) cb] w (DivPostN n (vb 4294967296 f n) (vb 4294967296 g (m + 1)) w) := by
  obtain ⟨s, hs⟩ : ∃ s, 32 - Lib.bitLen (g m) = s := ⟨_, rfl⟩
  obtain ⟨s32, sn1, sn2⟩ := norm_bits (hg m (by omega)) hgt hs.symm
  have hh := headroom_any b m cb g (hg m (by omega)) (by omega) w hB
  rw [hs] at hh
  clear hs
  have hra := fun wx (hx : Below w.heap.size w wx) => raise_any a n ca s f (by omega) s32 hf wx (hA.below hx)
  have hrb := fun wx (hx : Below w.heap.size w wx) => raise_any b (m + 1) cb s g (by omega) s32 hg wx (hB.below hx)
  have HH := Lib.hid hh; clear hh
  have HRA := Lib.hid hra; clear hra
  have HRB := Lib.hid hrb; clear hrb
  have HA := Lib.hid hA; clear hA
  have HB := Lib.hid hB; clear hB
  have HF := Lib.hid hf; clear hf
  have HG := Lib.hid hg; clear hg
  have HGT := Lib.hid hgt; clear hgt
  have SN := Lib.hid (And.intro sn1 sn2); clear sn1 sn2
  have hn0 : (0 : Int) ≤ n := by omega
  have hm0 : (0 : Int) ≤ m := by omega
  go_enter Try.func54, Try.ntmps54
  go_wp2_with fail
  refine HH.out.mono ?_
  rintro e w' ⟨rfl, rfl⟩
  go_upto_region 2 with fail
  go_cut [7, 8] (fun s7 s8 wx => ∃ R r V d, s7 = .slice (some ⟨R, 0, none⟩) ((n + 1 : Nat)) ((n + 1 : Nat)) ∧ s8 = .slice (some ⟨V, 0, none⟩) ((m + 1 : Nat)) ((m + 2 : Nat)) ∧ Hid (w.heap.size ≤ R ∧ w.heap.size ≤ V ∧ V ≠ R ∧ Wr wx R 0 (n + 1) r ∧ Pt wx V 0 (m + 2) d ∧ (∀ j, j < n + 1 → r j < 4294967296) ∧ (∀ j, j < m + 2 → d j < 4294967296) ∧ vb 4294967296 r (n + 1) = 2 ^ s * vb 4294967296 f n ∧ vb 4294967296 d (m + 2) = 2 ^ s * vb 4294967296 g (m + 1) ∧ Below w.heap.size w wx))
  case first =>
    go_region_with (first | (go_at_call 58; (with_reducible refine Calls.mono (HRA.out _ ?hb) ?_); (case hb => first | exact (Below.refl _ _).drew | exact HLB.out); rintro e wA ⟨R, r, rfl, hR1, hR2, hR3, hR4, hR5⟩; have HLA : Hid (Below w.heap.size w wA) := (Lib.hid (by first | exact (below_undrew hR3) | exact HLB.out.trans (hR3.mono HLB.out.size))); have HXA := (Lib.hid (And.intro hR1 (And.intro hR2 (And.intro hR3 (And.intro hR4 hR5))))); clear hR1 hR2 hR3 hR4 hR5) | (go_at_call 58; (with_reducible refine Calls.mono (HRB.out _ ?hb) ?_); (case hb => first | exact (Below.refl _ _).drew | exact HLA.out); rintro e wB ⟨V, d, rfl, hV1, hV2, hV3, hV4, hV5⟩; have HLB : Hid (Below w.heap.size w wB) := (Lib.hid (by first | exact (below_undrew hV3) | exact HLA.out.trans (hV3.mono HLA.out.size))); have HXB := (Lib.hid (And.intro hV1 (And.intro hV2 (And.intro hV3 (And.intro hV4 hV5))))); have hsl := slice_nat (some ⟨V, 0, none⟩) (m + 1 + 1) (m + 1 + 1) (m + 1) (by omega); clear hV1 hV2 hV3 hV4 hV5))
    all_goals
      go_wp2_with fail
      go_meet
      first
        | exact ⟨R, r, V, d, rfl, rfl, Lib.hid ⟨HXA.out.1, Nat.le_trans HLA.out.size HXB.out.1, Nat.ne_of_gt (Nat.lt_of_lt_of_le HXA.out.2.1.1 HXB.out.1), HXA.out.2.1.below HXB.out.2.2.1, HXB.out.2.1.pt, HXA.out.2.2.2.1, HXB.out.2.2.2.1, HXA.out.2.2.2.2, HXB.out.2.2.2.2, HLB.out⟩⟩
        | exact ⟨R, r, V, d, rfl, rfl, Lib.hid ⟨Nat.le_trans HLB.out.size HXA.out.1, HXB.out.1, Nat.ne_of_lt (Nat.lt_of_lt_of_le HXB.out.2.1.1 HXA.out.1), HXA.out.2.1, (HXB.out.2.1.below HXA.out.2.2.1).pt, HXA.out.2.2.2.1, HXB.out.2.2.2.1, HXA.out.2.2.2.2, HXB.out.2.2.2.2, HLA.out⟩⟩
  case rest =>
    obtain ⟨R, r, V, d, rfl, rfl, HC⟩ := hcut
    obtain ⟨hR, hV, hVR, hWR, hPV, hrl, hdl, hrn, hdn, hbel⟩ := HC.out
    obtain ⟨hz, hdn2, hdm⟩ := norm_top (B := 4294967296) (by omega) (fun j hj => HG.out j (by omega)) (by have := SN.out.1; omega) SN.out.2 hdl hdn
    have HDM : Hid (2147483648 ≤ d m) := Lib.hid (by omega)
    obtain ⟨nq, hnq⟩ : ∃ nq : Nat, max 0 ((n : Int) + 1 - ((m : Int) + 1)) = (nq : Int) := ⟨n - m, by omega⟩
    have hnqn : nq = n - m := by omega
    obtain ⟨i0, hi, hz0, hz1, hz2⟩ := info_parts info32
    have HNQ := Lib.hid hnqn; clear hnqn
    have hnq0 : (nq : Int) ≤ 10000000000 := by have := HNQ.out; omega
    clear hR hV hVR hWR hPV hrl hdl hrn hdn hbel hz hdm
    have HDN := Lib.hid hdn2; clear hdn2
    go_wp2_with (at_make; refine wpList_make_full _ rfl _ _ 23 rfl wc.heap.size 32 i0 (.int .u32 0) 1 Try.underlying23 hi hz0 hz1 .i64 .i64 _ _ nq rfl rfl rfl rfl (by rw [hz2]; omega) (by unfold maxLen; omega) (Nat.le_refl _) ?_; intro w0 hown0 hgrow0)
    have hout : Wr w0 wc.heap.size 0 nq (fun _ => 0) := ⟨(hown0.lt _ rfl).2, fun j hj => ⟨by rw [Nat.zero_add]; exact (hown0.cellAt j (by omega)).trans (madeCells32_at nq j hj), by rw [Nat.zero_add]; exact hown0.frozenAt j⟩⟩
    have hbel : Below wc.heap.size wc w0 := (Below.refl _ _).grown hgrow0 (Nat.le_refl _) (fun k hk => by cases hk)
    have HW := Lib.hid (And.intro hout hbel)
    clear hout hbel hown0 hgrow0
    by_cases hnm : n < m
    · have hz : nq = 0 := by have := HNQ.out; omega
      have hzi : (nq : Int) - 1 = -1 := by omega
      have hsum : vb 4294967296 f n < vb 4294967296 g (m + 1) := by
        have h1 := vb_lt HF.out
        have h2 : 4294967296 ^ n ≤ 4294967296 ^ m := Nat.pow_le_pow_right (by omega) (by omega)
        have h3 : 4294967296 ^ m * 1 ≤ 4294967296 ^ m * g m := Nat.mul_le_mul_left _ (by have := HGT.out; omega)
        simp only [vb]
        omega
      have HS := Lib.hid hsum
      have HZ := Lib.hid hz
      clear hsum hz
      have HE : Hid (DivEnd wc.heap.size R n nq s (fun _ => 0) r (vb 4294967296 f n) (vb 4294967296 g (m + 1)) w w0) := Lib.hid ⟨HW.out.1, HC.out.2.2.2.1.below HW.out.2, fun _ _ => (by show 0 < 4294967296; omega), HC.out.2.2.2.2.2.1, by rw [vb_zero (fun _ _ => rfl), Nat.div_eq_of_lt HS.out], by rw [Nat.mod_eq_of_lt HS.out]; exact HC.out.2.2.2.2.2.2.2.1, HC.out.2.2.2.2.2.2.2.2.2.trans (HW.out.2.mono HC.out.2.2.2.2.2.2.2.2.2.size)⟩
      go_wp2_with fail
      refine wp_loop_rounds 1 ?_
      rw [rounds_succ]
      go_wp2_with fail
      refine (lower_any R 0 (n + 1) (n + 1) s r (by omega) s32 HE.out.rlt w0 HE.out.rest).mono ?_
      rintro e w5 ⟨rfl, cur, hh, hl, hv⟩
      have HP := Lib.hid (HE.out.post hh hl hv (by have := HNQ.out; omega) HC.out.2.2.2.2.2.2.2.2.2.size HC.out.1 (Nat.ne_of_gt HC.out.2.2.2.1.1)); clear hh hl hv
      go_wp2
      go_ret2
      exact HP.out
    · have hsz : nq + (m + 1) = n + 1 := by have := HNQ.out; omega
      have HSZ := Lib.hid hsz; clear hsz
      have hstart : DivW wc.heap.size R V n m nq nq (fun _ => 0) r d (2 ^ s * vb 4294967296 f n) (2 ^ s * vb 4294967296 g (m + 1)) w w0 := by
        obtain ⟨hR, hV, hVR, hWR, hPV, hrl, hdl, hrn, hdn, hbel⟩ := HC.out
        refine ⟨HW.out.1, by rw [HSZ.out]; exact hWR.below HW.out.2, ⟨(hPV.below HW.out.2).1, fun j hj => (hPV.below HW.out.2).2 j (by omega)⟩, hbel.trans (HW.out.2.mono hbel.size), fun j hj => hrl j (by omega), fun j h1 h2 => by omega, ?_, fun _ _ => rfl, fun _ _ => (by show 0 < 4294967296; omega), by rw [HSZ.out, hrn, vb_zero (fun _ _ => rfl)]; omega⟩
        refine top_less (W := 2 ^ s * 4294967296 ^ m) ?_ ?_
        · rw [HSZ.out, hrn, Nat.mul_assoc, ← Nat.pow_add, show m + nq = n by have := HNQ.out; omega]
          exact Nat.mul_lt_mul_of_pos_left (vb_lt HF.out) (Nat.pow_pos (by omega))
        · refine Nat.mul_le_mul_left _ ?_
          have h3 : 4294967296 ^ m * 1 ≤ 4294967296 ^ m * g m := Nat.mul_le_mul_left _ (by have := HGT.out; omega)
          simp only [vb]
          omega
      have HST := Lib.hid hstart; clear hstart hnm
      go_wp2_with fail
      go_loopw [10] (fun iv wr => ∃ (z : Int) (c : Nat), c ≤ nq ∧ z = (c : Int) - 1 ∧ iv = .int .i64 z ∧ Hid (∃ q r, DivW wc.heap.size R V n m nq c q r d (2 ^ s * vb 4294967296 f n) (2 ^ s * vb 4294967296 g (m + 1)) w wr)) (fun iv _ => (intOf iv + 1).toNat)
      case atStart => exact ⟨(nq : Int) - 1, nq, Nat.le_refl _, rfl, rfl, Lib.hid ⟨_, _, HST.out⟩⟩
      case round =>
        obtain ⟨z, c, hc, hz, rfl, H⟩ := hrel
        cases c with
        | zero =>
          have hz1 : z < 0 := by omega
          have hzf : decide (0 ≤ z) = false := by rw [decide_eq_false_iff_not]; omega
          have HZ := Lib.hid hz; clear hz
          obtain ⟨q, r2, HO⟩ := H.out
          have hd := HO.inv.done
          have HE : Hid (DivEnd wc.heap.size R n nq s q r2 (vb 4294967296 f n) (vb 4294967296 g (m + 1)) w wr) := Lib.hid ⟨HO.quo, by have := HO.rest; rwa [HSZ.out] at this, HO.inv.qs, fun j hj => HO.inv.parts j (by have := HSZ.out; omega), by rw [hd.1, Nat.mul_div_mul_left _ _ (Nat.pow_pos (by omega))], by have := hd.2; rw [HSZ.out, Nat.mul_mod_mul_left] at this; exact this, HO.old⟩
          clear hd
          have HO := Lib.hid HO
          go_wp2_with fail
          refine (lower_any R 0 (n + 1) (n + 1) s r2 (by omega) s32 HE.out.rlt wr HE.out.rest).mono ?_
          rintro e w5 ⟨rfl, cur, hh, hl, hv⟩
          have HP := Lib.hid (HE.out.post hh hl hv (by have := HNQ.out; omega) HC.out.2.2.2.2.2.2.2.2.2.size HC.out.1 (Nat.ne_of_gt HC.out.2.2.2.1.1)); clear hh hl hv
          go_wp2
          go_ret2
          exact HP.out
        | succ i =>
          obtain rfl : z = (i : Int) := by omega
          have hi0 : (0 : Int) ≤ i := by omega
          have hin : (i : Int) < nq := by omega
          obtain ⟨q, r2, HO⟩ := H.out
          obtain ⟨t, ht⟩ : ∃ t : Nat, (i : Int) + ((m : Int) + 1) + 1 = (t : Int) := ⟨i + (m + 1) + 1, by omega⟩
          have htN : t = i + (m + 2) := by omega
          have hsl' := slice_mid R 0 (n + 1) (n + 1) i t (by omega) (by have := HSZ.out; omega) (by have := HSZ.out; omega)
          obtain ⟨c2, hc2⟩ : ∃ c2, n + 1 - i = c2 := ⟨_, rfl⟩
          rw [hc2, show t - i = m + 2 by omega, Nat.zero_add] at hsl'
          have hsl := hsl'
          clear hsl'
          have hlt := HO.inv.fits (by omega)
          rw [← HDN.out] at hlt
          have hstep := step_any R (0 + i) c2 (some ⟨V, 0, none⟩) m (m + 2) (fun j => r2 (i + j)) d (by omega) (by have := HSZ.out; omega) (fun j hj => HO.inv.parts (i + j) (by omega)) (fun j hj => HC.out.2.2.2.2.2.2.1 j (by omega)) HDM.out hlt (fun q hq => by cases hq; exact HC.out.2.2.1) wr (by have := HO.rest.sub i (m + 2) (by omega); exact this) HO.dv.rd
          rw [Nat.zero_add] at hstep
          have HSTEP := Lib.hid hstep; clear hstep
          have HLT := Lib.hid hlt; clear hlt hc2 htN
          have hz4 : wc.heap.size ≠ R := Nat.ne_of_gt HC.out.2.2.2.1.1
          have hz5 : V ≠ wc.heap.size := Nat.ne_of_lt HC.out.2.2.2.2.1.1
          have HO := Lib.hid HO
          have HZ4 := Lib.hid hz4; clear hz4
          have HZ5 := Lib.hid hz5; clear hz5 hz
          go_wp2_with fail
          refine HSTEP.out.mono ?_
          rintro e w5 ⟨ns, rfl, hnl, hnv, hnt, hh⟩
          obtain ⟨p, hp⟩ : ∃ p, vb 4294967296 (fun j => r2 (i + j)) (m + 2) / vb 4294967296 d (m + 1) = p := ⟨_, rfl⟩
          have hq5 := (HO.out.quo.but hh.1 HZ4.out).2 i (by omega)
          rw [Nat.zero_add] at hq5
          obtain ⟨cq, fq⟩ := hq5
          have hp1 : p < 4294967296 := by rw [← hp]; exact Nat.div_lt_of_lt_mul (by rw [Nat.mul_comm]; exact HLT.out)
          have hD0 : 0 < vb 4294967296 d (m + 1) := by
            rcases Nat.eq_zero_or_pos (vb 4294967296 d (m + 1)) with h | h
            · have := HLT.out; rw [h] at this; omega
            · exact h
          have hmod := Nat.mod_lt (vb 4294967296 (fun j => r2 (i + j)) (m + 2)) hD0
          have hvv : vb 4294967296 ns (m + 2) + p * (2 ^ s * vb 4294967296 g (m + 1)) = vb 4294967296 (fun j => r2 (i + j)) (m + 2) := by
            rw [← HDN.out, hnv, ← hp]
            exact Nat.mod_add_div' _ _
          have hll : vb 4294967296 ns (m + 1) < 2 ^ s * vb 4294967296 g (m + 1) := by
            have e : vb 4294967296 ns (m + 2) = vb 4294967296 ns (m + 1) + 4294967296 ^ (m + 1) * ns (m + 1) := rfl
            rw [hnt, Nat.mul_zero, hnv] at e
            rw [← HDN.out]
            omega
          have HN := Lib.hid (HO.out.next (show i < nq by omega) HC.out.2.2.2.2.2.2.2.2.2.size HC.out.1 HZ4.out HC.out.2.2.1 HZ5.out hp1 hnl hvv hll hnt (by rw [Nat.zero_add]; exact hh))
          rw [hp]
          clear hp hp1 hD0 hmod hvv hll hnl hnv hnt hh
          go_wp2
          go_roundw
          case rel => exact ⟨(i : Int) - 1, i, by omega, rfl, rfl, Lib.hid ⟨_, _, HN.out⟩⟩
          case measure => first | (simp [intOf]; done) | (simp [intOf]; omega)
end Go.Proofs.Ytgegkffigjogcaa
namespace Go.Proofs.Ytgegkffigjogcaa
open Go.RowKit

/-- What takeFrom leaves. -/
def TakeFromPost (S o n m : Nat) (f g : Nat → Nat) (w : World) (e : Ending) (w' : World) : Prop :=
  ∃ (ns : Nat → Nat) (c : Nat), e = .returned (.int .u32 c) ∧ c ≤ 1 ∧ (∀ j, j < n → ns j < 4294967296) ∧ vb 4294967296 ns n + vb 4294967296 g m = vb 4294967296 f n + 4294967296 ^ n * c ∧ HoldsN S o n ns w w'
def SubR (S o k m : Nat) (f g : Nat → Nat) (c : Nat) (w wr : World) : Prop := c ≤ 1 ∧ ∃ ns : Nat → Nat, HoldsN S o k ns w wr ∧ (∀ j, j < k → ns j < 4294967296) ∧ vb 4294967296 ns k + vb 4294967296 g m = vb 4294967296 f k + 4294967296 ^ k * c
theorem SubR.next {S o k m n : Nat} {f g : Nat → Nat} {c x : Nat} {w wr : World} (h : SubR S o k m f g c w wr) (hW : Wr w S o n f) (hk : k < n) (hx : x < 4294967296) (hf : f k < 4294967296)
    {g' : Nat → Nat} {m' : Nat} (hg : vb 4294967296 g' m' = vb 4294967296 g m + 4294967296 ^ k * x) : SubR S o (k + 1) m' f g' (if f k < x + c then 1 else 0) w (wr.setCell ⟨S, o + k, none⟩ (.int .u32 ((f k + 4294967296 + 4294967296 - x - c) % 4294967296 : Nat))) := by
  obtain ⟨hc, ns, hH, hn, hv⟩ := h
  refine ⟨by split <;> omega, upd ns k ((f k + 4294967296 + 4294967296 - x - c) % 4294967296), hH.next _ (by rw [(hW.2 k hk).1]; rfl), upd_ltP hn (by omega), ?_⟩
  rw [vb_upd, hg, Nat.pow_succ]
  exact sub_step hv (by split <;> omega)

set_option maxRecDepth 100000 in
set_option maxHeartbeats 1000000 in
theorem takeFrom_any (S o n capS : Nat) (a : Option Addr) (m capD : Nat) (f g : Nat → Nat) (hn : (n : Int) ≤ 34000000000) (hmn : m ≤ n) (hf : ∀ j, j < n → f j < 4294967296) (hg : ∀ j, j < m → g j < 4294967296) (hO : Off S a) (w : World) (hW : Wr w S o n f) (hR : RdA w a m g) :
    Calls Try.prog 48 #[.slice (some ⟨S, o, none⟩) n capS, .slice a m capD] w (TakeFromPost S o n m f g w) := by
  have HF := Lib.hid hf; clear hf
  have HG := Lib.hid hg; clear hg
  have HO := Lib.hid hO; clear hO
  have HW := Lib.hid hW; clear hW
  have HR := Lib.hid hR; clear hR
  go_enter Try.func48, Try.ntmps48
  go_wp2
  go_loopw [5, 11] (fun cv iv wr => ∃ k c : Nat, k ≤ m ∧ iv = .int .i64 k ∧ cv = .int .u32 c ∧ Hid (SubR S o k k f g c w wr)) (fun _ iv _ => m - (intOf iv).toNat)
  case atStart => exact ⟨0, 0, by omega, rfl, rfl, Lib.hid ⟨by omega, f, HoldsN.start _ _ _ _, by omega, rfl⟩⟩
  case round =>
    obtain ⟨k, c, hk, rfl, rfl, H⟩ := hrel
    have hk0 : (0 : Int) ≤ k := by omega
    by_cases hlt : k < m
    · have hkm : (k : Int) < m := by omega
      have hkn : (k : Int) < n := by omega
      obtain ⟨p, hx, hpb, ⟨q, haq, hqb⟩, cb⟩ := HR.out.at_ capD k hlt
      obtain ⟨cA, fA⟩ := H.out.2.choose_spec.1.cell HW.out (show k < n by omega)
      have cb' : wr.cell? p = some (.int .u32 (g k : Nat)) := (H.out.2.choose_spec.1.1.cell (p := p) (by rw [← hqb]; exact HO.out q haq)).trans cb
      clear cb hpb haq hqb
      have HA := Lib.hid (sub32_any (f k) (g k) c (HF.out k (by omega)) (HG.out k hlt) H.out.1 wr)
      have HN := Lib.hid (H.out.next HW.out (show k < n by omega) (HG.out k hlt) (HF.out k (by omega)) (g' := g) (m' := k + 1) rfl)
      obtain ⟨s, hs⟩ : ∃ s, (f k + 4294967296 + 4294967296 - g k - c) % 4294967296 = s := ⟨_, rfl⟩
      obtain ⟨c', hc'⟩ : ∃ c', (if f k < g k + c then 1 else 0 : Nat) = c' := ⟨_, rfl⟩
      unfold Sub32Post at HA
      rw [hs, hc'] at HA HN
      clear hs hc'
      go_wp2_with fail
      refine HA.out.mono ?_
      rintro e w' ⟨rfl, rfl⟩
      go_wp2
      go_roundw
      case rel => exact ⟨k + 1, c', by omega, by go_num, rfl, HN⟩
      case measure => simp [intOf]; omega
    · obtain rfl : k = m := by omega
      go_wp2
      go_loopw [5, 8] (fun cv iv wr => ∃ i c : Nat, k ≤ i ∧ i ≤ n ∧ iv = .int .i64 i ∧ cv = .int .u32 c ∧ Hid (SubR S o i k f g c w wr)) (fun _ iv _ => n - (intOf iv).toNat)
      case atStart => exact ⟨k, c, by omega, hmn, rfl, rfl, H⟩
      case round =>
        obtain ⟨i, c, hki, hi, rfl, rfl, H2⟩ := hrel
        have hi0 : (0 : Int) ≤ i := by omega
        by_cases hin : i < n
        · have hin' : (i : Int) < n := by omega
          by_cases hz : c = 0
          · have hz1 : (((c : Nat) : Int) != 0) = false := by simp [hz]
            have HZ := Lib.hid hz; clear hz
            go_wp2
            go_ret
            obtain ⟨h1, ns, h2, h3, h4⟩ := H2.out
            refine ⟨_, c, rfl, h1, fun j hj => ?_, ?_, h2.widen (by omega) HW.out⟩
            · by_cases hji : j < i
              · simp only [hji, if_true]; exact h3 j hji
              · simp only [hji, if_false]; exact HF.out j hj
            · have := vb_rest 4294967296 ns f i n (by omega)
              rw [HZ.out] at h4 ⊢
              omega
          · have hz1 : (((c : Nat) : Int) != 0) = true := by simp [hz]
            obtain ⟨cA, fA⟩ := H2.out.2.choose_spec.1.cell HW.out hin
            have HA := Lib.hid (sub32_any (f i) 0 c (HF.out i hin) (by omega) H2.out.1 wr)
            have HN := Lib.hid (H2.out.next HW.out hin (show 0 < 4294967296 by omega) (HF.out i hin) (g' := g) (m' := k) (by rw [Nat.mul_zero, Nat.add_zero]))
            obtain ⟨s, hs⟩ : ∃ s, (f i + 4294967296 + 4294967296 - 0 - c) % 4294967296 = s := ⟨_, rfl⟩
            obtain ⟨c', hc'⟩ : ∃ c', (if f i < 0 + c then 1 else 0 : Nat) = c' := ⟨_, rfl⟩
            unfold Sub32Post at HA
            rw [hs, hc'] at HA HN
            clear hs hc' hz
            go_wp2_with fail
            refine HA.out.mono ?_
            rintro e w' ⟨rfl, rfl⟩
            go_wp2
            go_roundw
            case rel => exact ⟨i + 1, c', by omega, by omega, by go_num, rfl, HN⟩
            case measure => simp [intOf]; omega
        · obtain rfl : i = n := by omega
          go_wp2
          go_ret
          obtain ⟨h1, ns, h2, h3, h4⟩ := H2.out
          exact ⟨ns, c, rfl, h1, h3, h4, h2⟩
end Go.Proofs.Ytgegkffigjogcaa
namespace Go.Proofs.Ytgegkffigjogcaa
open Go.RowKit

/-- A list, or none, of n parts. -/
structure NvA (w : World) (a : Option Addr) (n cap : Nat) (f : Nat → Nat) : Prop where
  cap : n ≤ cap
  rd : RdA w a n f
  blk : ∀ q, a = some q → q.block < w.heap.size
  lt : ∀ j, j < n → f j < 4294967296
  few : (n : Int) ≤ 35184372088832
theorem NvA.below {w w' : World} {a : Option Addr} {n cap : Nat} {f : Nat → Nat} (h : NvA w a n cap f) (hb : Below w.heap.size w w') : NvA w' a n cap f :=
  ⟨h.cap, h.rd.below hb, fun q hq => Nat.lt_of_lt_of_le (h.blk q hq) hb.size, h.lt, h.few⟩
theorem NvA.trim {w : World} {a : Option Addr} {n cap : Nat} {f : Nat → Nat} (h : NvA w a n cap f) : NvA w a (tn f n) cap f :=
  ⟨Nat.le_trans (tn_le f n) h.cap, h.rd.less _ (tn_le f n), h.blk, fun j hj => h.lt j (Nat.lt_of_lt_of_le hj (tn_le f n)), by have := tn_le f n; have := h.few; omega⟩
/-- A value that is the number V. -/
def NN (V : Nat) (v : Value) (w : World) : Prop := ∃ a n cap f, v = .slice a n cap ∧ NvA w a n cap f ∧ vb 4294967296 f n = V
/-- .. without noughts behind. -/
def PV (V : Nat) (v : Value) (w : World) : Prop := ∃ a n cap f, v = .slice a n cap ∧ NvA w a n cap f ∧ vb 4294967296 f n = V ∧ (n = 0 ∨ f (n - 1) ≠ 0)
theorem PV.nn {V : Nat} {v : Value} {w : World} (h : PV V v w) : NN V v w := by
  obtain ⟨a, n, cap, f, h1, h2, h3, -⟩ := h; exact ⟨a, n, cap, f, h1, h2, h3⟩
theorem NN.below {V : Nat} {v : Value} {w w' : World} (h : NN V v w) (hb : Below w.heap.size w w') : NN V v w' := by
  obtain ⟨a, n, cap, f, h1, h2, h3⟩ := h; exact ⟨a, n, cap, f, h1, h2.below hb, h3⟩
theorem PV.below {V : Nat} {v : Value} {w w' : World} (h : PV V v w) (hb : Below w.heap.size w w') : PV V v w' := by
  obtain ⟨a, n, cap, f, h1, h2, h3⟩ := h; exact ⟨a, n, cap, f, h1, h2.below hb, h3⟩
/-- The least number that has too many parts. -/
def LIM : Nat := 4294967296 ^ 1024
theorem lim_iff {n : Nat} {f : Nat → Nat} (hf : ∀ j, j < n → f j < 4294967296) : 1024 < tn f n ↔ LIM ≤ vb 4294967296 f n := by
  have h := plain_len (P := 4294967296) (by omega) (f := f) (n := tn f n) (m := 1024) (fun j hj => hf j (Nat.lt_of_lt_of_le hj (tn_le f n))) (tn_top f n)
  rw [vb_tn] at h
  unfold LIM
  constructor
  · intro h1
    exact Nat.le_of_not_lt (fun h2 => by have := h.1 h2; omega)
  · intro h1
    exact Nat.lt_of_not_le (fun h2 => absurd (h.2 h2) (Nat.not_lt.2 h1))
/-- What is wrong with a number. -/
def cdN (V : Nat) : Nat := if LIM ≤ V then 2 else 0
theorem check_nv {w : World} {a : Option Addr} {n cap : Nat} {f : Nat → Nat} (h : NvA w a n cap f) : Calls Try.prog 22 #[.slice a n cap] w fun e w' => e = .returned (.int .i64 ((cdN (vb 4294967296 f n) : Nat) : Int)) ∧ w = w' := by
  have hc := check_one a n cap f (by have := h.few; omega) h.cap w h.rd
  have e : (if 1024 < tn f n then 2 else 0 : Nat) = cdN (vb 4294967296 f n) := by
    unfold cdN
    by_cases h1 : 1024 < tn f n
    · rw [if_pos h1, if_pos ((lim_iff h.lt).1 h1)]
    · rw [if_neg h1, if_neg (fun h2 => h1 ((lim_iff h.lt).2 h2))]
  rw [e] at hc
  exact hc
theorem trim_nv {w : World} {a : Option Addr} {n cap : Nat} {f : Nat → Nat} (h : NvA w a n cap f) : Calls Try.prog 41 #[.slice a n cap] w fun e w' => e = .returned (.slice a (tn f n) cap) ∧ w = w' := trim_any a n cap f (by have := h.few; omega) h.cap w h.rd
/-- What a call leaves that makes a number without noughts behind. -/
def MkP (V : Nat) (w : World) (e : Ending) (w' : World) : Prop := ∃ v, e = .returned v ∧ PV V v w' ∧ Below w.heap.size w w'
theorem plain_nv {w : World} {a : Option Addr} {n cap : Nat} {f : Nat → Nat} (h : NvA w a n cap f) : Calls Try.prog 24 #[.slice a n cap] w (MkP (vb 4294967296 f n) w) := by
  refine (plain_any a n cap f (by have := h.few; omega) h.cap w h.rd).mono ?_
  rintro e w' ⟨a1, c1, rfl, h1, h2, h3, h4⟩
  exact ⟨_, rfl, ⟨a1, _, c1, f, rfl, ⟨h1, h2, fun q hq => (h3 q hq).2, h.trim.lt, h.trim.few⟩, vb_tn _ _ _, tn_top f n⟩, h4⟩
/-- What a call leaves that tells a number, or that it can't. -/
def Ans (c V : Nat) (w : World) (e : Ending) (w' : World) : Prop := ∃ v, e = .returned (.tuple #[v, .int .i64 (c : Nat)]) ∧ (c = 0 → PV V v w') ∧ (c ≠ 0 → v = .slice none 0 0) ∧ Below w.heap.size w w'

set_option maxRecDepth 100000 in
theorem answer_nv {w : World} {a : Option Addr} {n cap : Nat} {f : Nat → Nat} (h : NvA w a n cap f) : Calls Try.prog 43 #[.slice a n cap] w (Ans (cdN (vb 4294967296 f n)) (vb 4294967296 f n) w) := by
  have HC := Lib.hid (check_nv h)
  have HP := Lib.hid (plain_nv h)
  clear h
  obtain ⟨V, hV⟩ : ∃ V, vb 4294967296 f n = V := ⟨_, rfl⟩
  rw [hV] at HC HP ⊢
  clear hV
  obtain ⟨c, hc⟩ : ∃ c, cdN V = c := ⟨_, rfl⟩
  rw [hc] at HC ⊢
  clear hc
  by_cases h0 : c = 0
  · have e0 : ((c : Int) != 0) = false := by simp [h0]
    have H0 := Lib.hid h0; clear h0
    go_enter Try.func43, Try.ntmps43
    go_wp2_with fail
    refine HC.out.mono ?_
    rintro e w' ⟨rfl, rfl⟩
    go_wp2_with fail
    refine HP.out.mono ?_
    rintro e w1 ⟨v, rfl, hv, hb⟩
    have HV := Lib.hid (And.intro hv hb); clear hv hb
    go_wp2
    go_ret2
    exact ⟨v, by rw [H0.out]; rfl, fun _ => HV.out.1, fun h => absurd H0.out h, HV.out.2⟩
  · have e0 : ((c : Int) != 0) = true := by simp [h0]
    have H0 := Lib.hid h0; clear h0
    go_enter Try.func43, Try.ntmps43
    go_wp2_with fail
    refine HC.out.mono ?_
    rintro e w' ⟨rfl, rfl⟩
    go_wp2
    go_ret2
    exact ⟨_, rfl, fun h => absurd h H0.out, fun _ => rfl, Below.refl _ _⟩
/-- Of two numbers what is wrong with the first that can't be. -/
def cd2 (A B : Nat) : Nat := if cdN A = 0 then cdN B else cdN A
theorem check_two {w : World} {g : Nat} {va vb' : Value} {A B : Nat} (hA : NN A va w) (hB : NN B vb' w) (h0 : w.cell? ⟨g, 0, none⟩ = some va) (h1 : w.cell? ⟨g, 1, none⟩ = some vb') :
    Calls Try.prog 40 #[.slice (some ⟨g, 0, none⟩) 2 2] w fun e w' => e = .returned (.int .i64 ((cd2 A B : Nat) : Int)) ∧ w = w' := by
  obtain ⟨a, n, ca, f, rfl, ha, rfl⟩ := hA
  obtain ⟨b, m, cb, g', rfl, hb, rfl⟩ := hB
  obtain ⟨S, s0, s1⟩ : ∃ S : Nat → Value, S 0 = .slice a n ca ∧ S 1 = .slice b m cb := ⟨fun j => if j = 0 then .slice a n ca else .slice b m cb, rfl, rfl⟩
  have c0 := check_nv ha
  have c1 := check_nv hb
  obtain ⟨k0, hk0⟩ : ∃ k0, cdN (vb 4294967296 f n) = k0 := ⟨_, rfl⟩
  obtain ⟨k1, hk1⟩ : ∃ k1, cdN (vb 4294967296 g' m) = k1 := ⟨_, rfl⟩
  unfold cd2
  rw [hk0] at c0 ⊢
  rw [hk1] at c1 ⊢
  clear hk0 hk1
  obtain ⟨c, e0, e1⟩ : ∃ c : Nat → Nat, c 0 = k0 ∧ c 1 = k1 := ⟨fun j => if j = 0 then k0 else k1, rfl, rfl⟩
  have h := check_any g 2 S c (by omega) w (fun j hj => by
    have : j = 0 ∨ j = 1 := by omega
    rcases this with rfl | rfl
    · rw [s0]; exact h0
    · rw [s1]; exact h1) (fun j hj => by
    have : j = 0 ∨ j = 1 := by omega
    rcases this with rfl | rfl
    · rw [s0, e0]; exact c0
    · rw [s1, e1]; exact c1)
  refine h.mono fun e w' ⟨he, hw⟩ => ⟨he.trans ?_, hw⟩
  simp only [chk, e0, e1, if_true]
end Go.Proofs.Ytgegkffigjogcaa
namespace Go.Proofs.Ytgegkffigjogcaa
open Go.RowKit

/-- How many bits a number has. -/
def blN (V : Nat) : Nat := if V = 0 then 0 else Nat.log2 V + 1
theorem blN_top {f : Nat → Nat} {k : Nat} (hf : ∀ j, j < k + 1 → f j < 4294967296) (h : f k ≠ 0) : 32 * k + Lib.bitLen (f k) = blN (vb 4294967296 f (k + 1)) := by
  obtain ⟨h1, h2, h3⟩ := bitLen_bounds (f k) (by have := hf k (by omega); omega) h
  have hl := vb_lt (P := 4294967296) (f := f) (n := k) (fun j hj => hf j (by omega))
  have e : 4294967296 ^ k = 2 ^ (32 * k) := by rw [Nat.pow_mul]
  have hV : vb 4294967296 f (k + 1) = vb 4294967296 f k + 2 ^ (32 * k) * f k := by rw [← e]; rfl
  rw [e] at hl
  have hlow : 2 ^ (32 * k + (Lib.bitLen (f k) - 1)) ≤ vb 4294967296 f (k + 1) := by
    rw [hV, Nat.pow_add]
    have := Nat.mul_le_mul_left (2 ^ (32 * k)) h2
    omega
  have hhigh : vb 4294967296 f (k + 1) < 2 ^ (32 * k + Lib.bitLen (f k)) := by
    rw [hV, Nat.pow_add]
    have := Nat.mul_le_mul_left (2 ^ (32 * k)) (show f k + 1 ≤ 2 ^ Lib.bitLen (f k) from h3)
    rw [Nat.mul_add, Nat.mul_one] at this
    omega
  have hne : vb 4294967296 f (k + 1) ≠ 0 := by
    have : 0 < 2 ^ (32 * k + (Lib.bitLen (f k) - 1)) := Nat.pow_pos (by omega)
    omega
  unfold blN
  rw [if_neg hne, (Nat.log2_eq_iff hne).2 ⟨hlow, by rw [show 32 * k + (Lib.bitLen (f k) - 1) + 1 = 32 * k + Lib.bitLen (f k) by omega]; exact hhigh⟩]
  omega

set_option maxRecDepth 100000 in
set_option maxHeartbeats 1000000 in
theorem len_nv {w : World} {a : Option Addr} {n cap : Nat} {f : Nat → Nat} (h : NvA w a n cap f) : Calls Try.prog 26 #[.slice a n cap] w fun e w' => e = .returned (.int .i64 ((blN (vb 4294967296 f n) : Nat) : Int)) ∧ w = w' := by
  have HT := Lib.hid (trim_nv h)
  have ht := h.trim
  have htop := tn_top f n
  rw [← vb_tn]
  obtain ⟨m, hm⟩ : ∃ m, tn f n = m := ⟨_, rfl⟩
  rw [hm] at HT ht htop ⊢
  clear hm h
  rcases Nat.eq_zero_or_pos m with h0 | h0
  · have e0 : ((m : Int) == 0) = true := by simp [h0]
    have e1 : blN (vb 4294967296 f m) = 0 := by rw [h0]; rfl
    rw [e1]
    clear h0 e1 ht htop
    go_enter Try.func26, Try.ntmps26
    go_wp2_with fail
    refine HT.out.mono ?_
    rintro e w' ⟨rfl, rfl⟩
    go_wp2
    go_ret
    exact ⟨rfl, rfl⟩
  · obtain ⟨k, rfl⟩ : ∃ k, m = k + 1 := ⟨m - 1, by omega⟩
    have hfk : f k ≠ 0 := by rcases htop with h | h; omega; simpa using h
    have e1 := blN_top ht.lt hfk
    rw [← e1]
    obtain ⟨p, hix, -, -, ca⟩ := ht.rd.at_ cap k (by omega)
    have hfl := ht.lt k (by omega)
    have hkf := ht.few
    have hL : ∀ w, Calls Try.prog 53 #[.int .u32 (f k : Nat)] w fun e w' => e = .returned (.int .i64 (Lib.bitLen (f k) : Nat)) ∧ w = w' := fun w =>
      (Try.bits_Len32 (f k : Nat) w (by omega) (by omega)).mono fun e w' ⟨he, hw⟩ => ⟨by rw [he, Int.toNat_natCast], hw.symm⟩
    have HL := Lib.hid hL; clear hL
    have hb := bitLen32 _ hfl
    obtain ⟨B, hB⟩ : ∃ B, Lib.bitLen (f k) = B := ⟨_, rfl⟩
    rw [hB] at hb HL ⊢
    clear hB e1 hfl hfk htop h0 ht
    have e0 : ((k : Int) + 1 == 0) = false := by rw [beq_eq_false_iff_ne]; omega
    have e2 : (k : Int) + 1 - 1 = (k : Int) := by omega
    have hk0 : (0 : Int) ≤ k := by omega
    have hB0 : (0 : Int) ≤ B := by omega
    have hB1 : (B : Int) ≤ 32 := by omega
    go_enter Try.func26, Try.ntmps26
    go_wp2_with fail
    refine HT.out.mono ?_
    rintro e w' ⟨rfl, rfl⟩
    go_wp2_with fail
    refine (HL.out _).mono ?_
    rintro e w' ⟨rfl, rfl⟩
    go_wp2
    go_ret
    refine ⟨?_, rfl⟩
    show Ending.returned (.int .i64 (32 * (k : Int) + (B : Int))) = _
    simp
theorem bit_at {f : Nat → Nat} {n i : Nat} (hf : ∀ j, j < n → f j < 4294967296) (hi : i / 32 < n) : f (i / 32) / 2 ^ (i % 32) % 2 = vb 4294967296 f n / 2 ^ i % 2 := by
  have h := vb_digit hf (i / 32) hi
  rw [h]
  generalize vb 4294967296 f n = V
  have e : 4294967296 ^ (i / 32) = 2 ^ (32 * (i / 32)) := by rw [Nat.pow_mul]
  have e2 : (4294967296 : Nat) = 2 ^ (i % 32) * 2 ^ (32 - i % 32) := by rw [← Nat.pow_add, show i % 32 + (32 - i % 32) = 32 by omega]
  rw [e]
  have e3 : V / 2 ^ i = V / 2 ^ (32 * (i / 32)) / 2 ^ (i % 32) := by rw [Nat.div_div_eq_div_mul, ← Nat.pow_add, show 32 * (i / 32) + i % 32 = i by omega]
  rw [e3]
  generalize V / 2 ^ (32 * (i / 32)) = X
  rw [e2, Nat.mod_mul_right_div_self]
  exact Nat.mod_mod_of_dvd _ ⟨2 ^ (32 - i % 32 - 1), by rw [← Nat.pow_succ']; congr 1; omega⟩
set_option maxRecDepth 100000 in
theorem hasBit_nv {w : World} {a : Option Addr} {n cap : Nat} {f : Nat → Nat} (h : NvA w a n cap f) (i : Nat) (hi : i / 32 < n) (hil : (i : Int) ≤ 140737488355328) : Calls Try.prog 62 #[.slice a n cap, .int .i64 i] w fun e w' => e = .returned (.bool (vb 4294967296 f n / 2 ^ i % 2 == 1)) ∧ w = w' := by
  have hb := bit_at h.lt hi
  obtain ⟨q, hq⟩ : ∃ q : Nat, (i : Int) / 32 = (q : Int) := ⟨i / 32, by omega⟩
  obtain ⟨r, hr⟩ : ∃ r : Nat, (i : Int) % 32 = (r : Int) := ⟨i % 32, by omega⟩
  have eq : i / 32 = q := by omega
  have er : i % 32 = r := by omega
  rw [eq, er] at hb
  obtain ⟨p, hix, -, -, ca⟩ := h.rd.at_ cap q (by omega)
  have hi0 : (0 : Int) ≤ i := by omega
  have hr0 : (0 : Int) ≤ r := by omega
  have hr1 : (r : Int) < 32 := by omega
  have hfl := h.lt q (by omega)
  have hand : bits .and .u32 (((f q : Nat) : Int) / 2 ^ r) 1 = ((f q / 2 ^ r % 2 : Nat) : Int) := by
    have e1 : ((f q : Nat) : Int) / 2 ^ r = ((f q / 2 ^ r : Nat) : Int) := by simp
    have h1 : f q / 2 ^ r < 4294967296 := Nat.lt_of_le_of_lt (Nat.div_le_self _ _) hfl
    have h2 := (bits_u32_nat (f q / 2 ^ r) 1 h1 (by omega)).1
    rw [e1]
    refine Eq.trans h2 ?_
    rw [Nat.and_one_is_mod]
  rw [hb] at hand
  obtain ⟨b, hbb⟩ : ∃ b, vb 4294967296 f n / 2 ^ i % 2 = b := ⟨_, rfl⟩
  rw [hbb] at hand ⊢
  have HAND := Lib.hid hand; clear hand
  have HE := Lib.hid eq; clear eq
  have HE2 := Lib.hid er; clear er
  clear hb hbb hfl hi
  go_enter Try.func62, Try.ntmps62
  go_wp2
  go_ret
  refine ⟨?_, rfl⟩
  show Ending.returned (.bool (bits BinOp.and IntKind.u32 (((f q : Nat) : Int) / 2 ^ r) 1 == 1)) = _
  rw [HAND.out]
  congr 2
  rw [Bool.eq_iff_iff]
  simp only [beq_iff_eq]
  omega

/-- What modulo leaves. -/
def ModPost (S L capS V : Nat) (w : World) (e : Ending) (w' : World) : Prop :=
  ∃ r : Nat → Nat, e = .returned (.slice (some ⟨S, 0, none⟩) (tn r L) capS) ∧ HoldsN S 0 L r w w' ∧ (∀ j, j < L → r j < 4294967296) ∧ vb 4294967296 r L = V
structure ModR (S V L m nq c : Nat) (r q d : Nat → Nat) (A D : Nat) (w wr : World) : Prop where
  out : HoldsN S 0 L r w wr
  inv : DivI 4294967296 (m + 1) nq c r q D A
theorem mod_next {S L m nq c : Nat} {r q d ns : Nat → Nat} {A D : Nat} {w wr w5 : World} (h : ModR S 0 L m nq (c + 1) r q d A D w wr) (hlt : vb 4294967296 (fun j => r (c + j)) (m + 2) < 4294967296 * D) (hc : c < nq) (hsz : nq + (m + 1) = L)
    (hnl : ∀ j, j < m + 2 → ns j < 4294967296) (hnv : vb 4294967296 ns (m + 2) = vb 4294967296 (fun j => r (c + j)) (m + 2) % D) (hnt : ns (m + 1) = 0) (hh : HoldsN S c (m + 2) ns wr w5) :
    Hid (∃ q r, ModR S 0 L m nq c r q d A D w w5) := by
  have hD0 : 0 < D := by
    rcases Nat.eq_zero_or_pos D with h | h
    · rw [h] at hlt; omega
    · exact h
  have hmod := Nat.mod_lt (vb 4294967296 (fun j => r (c + j)) (m + 2)) hD0
  have hp1 : vb 4294967296 (fun j => r (c + j)) (m + 2) / D < 4294967296 := Nat.div_lt_of_lt_mul (by rw [Nat.mul_comm]; exact hlt)
  have hll : vb 4294967296 ns (m + 1) < D := by
    have e : vb 4294967296 ns (m + 2) = vb 4294967296 ns (m + 1) + 4294967296 ^ (m + 1) * ns (m + 1) := rfl
    rw [hnt, Nat.mul_zero, hnv] at e
    omega
  refine Lib.hid ⟨_, spl r c (m + 2) ns, ⟨h.out.1.trans hh.1, fun j => ?_⟩, h.inv.step hc hp1 hnl (by rw [hnv]; exact Nat.mod_add_div' _ _) hll hnt⟩
  rw [hh.2, Nat.zero_add, Nat.sub_zero]
  by_cases h1 : c ≤ j ∧ j < c + (m + 2)
  · rw [if_pos h1, if_pos (by omega)]; unfold spl; rw [if_pos h1]
  · rw [if_neg h1, h.out.2 j, Nat.zero_add, Nat.sub_zero]
    by_cases h2 : 0 ≤ j ∧ j < L
    · rw [if_pos h2, if_pos h2]; unfold spl; rw [if_neg h1]
    · rw [if_neg h2, if_neg h2]
set_option maxRecDepth 100000 in
set_option maxHeartbeats 1000000 in
theorem modulo_any (S L capS : Nat) (f : Nat → Nat) (b : Option Addr) (m cb : Nat) (g : Nat → Nat) (hL0 : 0 < L) (hL : (L : Int) ≤ 10000) (hm : (m : Int) ≤ 10000) (hc : L ≤ capS) (hf : ∀ j, j < L → f j < 4294967296) (htop : f (L - 1) = 0) (hg : ∀ j, j < m + 1 → g j < 4294967296) (hgm : 2147483648 ≤ g m) (hO : Off S b) (w : World) (hW : Wr w S 0 L f) (hB : RdA w b (m + 1) g) :
    Calls Try.prog 60 #[.slice (some ⟨S, 0, none⟩) L capS, .slice b ((m + 1 : Nat)) cb] w (ModPost S L capS (vb 4294967296 f L % vb 4294967296 g (m + 1)) w) := by
  have hbig : 4294967296 ^ m ≤ vb 4294967296 g (m + 1) := by
    have h3 : 4294967296 ^ m * 1 ≤ 4294967296 ^ m * g m := Nat.mul_le_mul_left _ (by omega)
    simp only [vb]
    omega
  have hsmall : vb 4294967296 f L < 4294967296 ^ (L - 1) := by
    obtain ⟨k, rfl⟩ : ∃ k, L = k + 1 := ⟨L - 1, by omega⟩
    rw [Nat.add_sub_cancel] at htop ⊢
    simp only [vb]
    rw [htop]
    have := vb_lt (P := 4294967296) (f := f) (n := k) (fun j hj => hf j (by omega))
    omega
  have hL0' : (0 : Int) < L := by omega
  have hm0 : (0 : Int) ≤ m := by omega
  have HF := Lib.hid hf; clear hf
  have HG := Lib.hid hg; clear hg
  have HGM := Lib.hid hgm; clear hgm
  have HO := Lib.hid hO; clear hO
  have HW := Lib.hid hW; clear hW
  have HB := Lib.hid hB; clear hB
  have HBIG := Lib.hid hbig; clear hbig
  have HSM := Lib.hid hsmall; clear hsmall
  clear htop
  obtain ⟨nq, hnq⟩ : ∃ nq : Nat, nq = L - (m + 1) := ⟨_, rfl⟩
  have fin : ∀ (wr : World) (r : Nat → Nat), HoldsN S 0 L r w wr → (∀ j, j < L → r j < 4294967296) → Calls Try.prog 41 #[.slice (some ⟨S, 0, none⟩) L capS] wr fun e w' => e = .returned (.slice (some ⟨S, 0, none⟩) (tn r L) capS) ∧ wr = w' := fun wr r h _ => trim_any _ L capS r (by omega) hc wr (h.wr HW.out).rd
  have FIN := Lib.hid fin; clear fin
  by_cases hLm : L ≤ m + 1
  · obtain ⟨z, hz⟩ : ∃ z : Int, (L : Int) - ((m : Int) + 1) - 1 = z := ⟨_, rfl⟩
    have hz1 : z < 0 := by omega
    have hzf : decide (0 ≤ z) = false := by rw [decide_eq_false_iff_not]; omega
    have hmod : vb 4294967296 f L % vb 4294967296 g (m + 1) = vb 4294967296 f L := Nat.mod_eq_of_lt (Nat.lt_of_lt_of_le HSM.out (Nat.le_trans (Nat.pow_le_pow_right (by omega) (by omega)) HBIG.out))
    have HM := Lib.hid hmod; clear hmod
    clear hnq hLm
    go_enter Try.func60, Try.ntmps60
    go_wp2
    refine wp_loop_rounds 1 ?_
    rw [rounds_succ]
    go_wp2_with fail
    refine (FIN.out w f HW.out.holds HF.out).mono ?_
    rintro e w' ⟨rfl, rfl⟩
    go_wp2
    go_ret
    exact ⟨f, rfl, HW.out.holds, HF.out, by rw [HM.out]⟩
  · have hsz : nq + (m + 1) = L := by omega
    have HSZ := Lib.hid hsz; clear hsz hLm
    have hstart : ModR S 0 L m nq nq f (fun _ => 0) g (vb 4294967296 f L) (vb 4294967296 g (m + 1)) w w := by
      refine ⟨HW.out.holds, fun j hj => HF.out j (by rw [← HSZ.out]; exact hj), fun j h1 h2 => by omega, top_less (W := 4294967296 ^ m) ?_ HBIG.out, fun _ _ => rfl, fun _ _ => (by show 0 < 4294967296; omega), by rw [HSZ.out, vb_zero (fun _ _ => rfl)]; omega⟩
      rw [HSZ.out, ← Nat.pow_add, show m + nq = L - 1 by have := HSZ.out; omega]
      exact HSM.out
    have HST := Lib.hid hstart; clear hstart
    have hnq' : (L : Int) - ((m : Int) + 1) - 1 = (nq : Int) - 1 := by have := HSZ.out; omega
    clear hnq
    go_enter Try.func60, Try.ntmps60
    go_wp2
    go_loopw [5] (fun iv wr => ∃ (z : Int) (c : Nat), c ≤ nq ∧ z = (c : Int) - 1 ∧ iv = .int .i64 z ∧ Hid (∃ q r, ModR S 0 L m nq c r q g (vb 4294967296 f L) (vb 4294967296 g (m + 1)) w wr)) (fun iv _ => (intOf iv + 1).toNat)
    case atStart => exact ⟨(nq : Int) - 1, nq, Nat.le_refl _, rfl, rfl, Lib.hid ⟨_, _, HST.out⟩⟩
    case round =>
      obtain ⟨z, c, hcc, hz, rfl, H⟩ := hrel
      cases c with
      | zero =>
        have hz1 : z < 0 := by omega
        have hzf : decide (0 ≤ z) = false := by rw [decide_eq_false_iff_not]; omega
        have HZ := Lib.hid hz; clear hz
        obtain ⟨q, r2, HO2⟩ := H.out
        have hd := HO2.inv.done
        rw [HSZ.out] at hd
        have hp := HO2.inv.parts
        rw [HSZ.out] at hp
        have HH := Lib.hid (And.intro HO2.out (And.intro hp hd.2)); clear HO2 hd hp H
        go_wp2_with fail
        refine (FIN.out wr r2 HH.out.1 HH.out.2.1).mono ?_
        rintro e w' ⟨rfl, rfl⟩
        go_wp2
        go_ret
        exact ⟨r2, rfl, HH.out.1, HH.out.2.1, HH.out.2.2⟩
      | succ i =>
        obtain rfl : z = (i : Int) := by omega
        have hi0 : (0 : Int) ≤ i := by omega
        have hin : (i : Int) < nq := by omega
        obtain ⟨q, r2, HO2⟩ := H.out
        obtain ⟨t, ht⟩ : ∃ t : Nat, (i : Int) + ((m : Int) + 1) + 1 = (t : Int) := ⟨i + (m + 1) + 1, by omega⟩
        have htN : t = i + (m + 2) := by omega
        have hsl' := slice_mid S 0 L capS i t (by omega) (by have := HSZ.out; omega) (by have := HSZ.out; omega)
        obtain ⟨c2, hc2⟩ : ∃ c2, capS - i = c2 := ⟨_, rfl⟩
        rw [hc2, show t - i = m + 2 by omega, Nat.zero_add] at hsl'
        have hsl := hsl'
        clear hsl'
        have hlt := HO2.inv.fits (by omega)
        have hwr := HO2.out.wr HW.out
        have hstep := step_any S (0 + i) c2 b m cb (fun j => r2 (i + j)) g (by omega) (by have := HSZ.out; omega) (fun j hj => HO2.inv.parts (i + j) (by omega)) HG.out HGM.out hlt HO.out wr (by have := hwr.sub i (m + 2) (by have := HSZ.out; omega); exact this) (HB.out.but HO.out HO2.out.1)
        rw [Nat.zero_add] at hstep
        have HSTEP := Lib.hid hstep; clear hstep
        have HLT := Lib.hid hlt; clear hlt hc2 htN hwr hz
        have HO2 := Lib.hid HO2
        go_wp2_with fail
        refine HSTEP.out.mono ?_
        rintro e w5 ⟨ns, rfl, hnl, hnv, hnt, hh⟩
        have HN := Lib.hid (mod_next HO2.out HLT.out (show i < nq by omega) HSZ.out hnl hnv hnt hh)
        clear hnl hnv hnt hh
        go_wp2
        go_roundw
        case rel => exact ⟨(i : Int) - 1, i, by omega, rfl, rfl, HN⟩
        case measure => first | (simp [intOf]; done) | (simp [intOf]; omega)
end Go.Proofs.Ytgegkffigjogcaa
namespace Go.Proofs.Ytgegkffigjogcaa
open Go.RowKit

set_option maxRecDepth 100000 in
-- WHAT Plain COMES TO: a list that fills its row.
theorem plain_cut (a : Option Addr) (n cap : Nat) (f : Nat → Nat) (hn : (n : Int) ≤ 35184372088832) (hc : n ≤ cap) (w : World) (hP : RdA w a n f) :
    Calls Try.prog 24 #[.slice a n cap] w fun e w' => ∃ a1, e = .returned (.slice a1 (tn f n) (tn f n)) ∧ (a1 = none → tn f n = 0) ∧ RdA w' a1 (tn f n) f ∧ (∀ q, a1 = some q → w.heap.size ≤ q.block ∧ q.block < w'.heap.size) ∧ Below w.heap.size w w' := by
  have HT := Lib.hid (fun w hP => trim_any a n cap f (by omega) hc w hP)
  have hl := tn_le f n
  obtain ⟨m, hm⟩ : ∃ m, tn f n = m := ⟨_, rfl⟩
  rw [hm] at HT hl ⊢
  have hP' : RdA w a m f := hP.less m hl
  clear hm
  have HP := Lib.hid hP; clear hP
  have HP' := Lib.hid hP'; clear hP'
  by_cases h0 : m = 0
  · have e0 : ((m : Int) == 0) = true := by simp [h0]
    have HZ := Lib.hid h0; clear h0
    go_enter Try.func24, Try.ntmps24
    go_wp2_with fail
    refine (HT.out _ HP.out).mono ?_
    rintro e w' ⟨rfl, rfl⟩
    go_wp2
    go_ret
    exact ⟨none, by rw [HZ.out]; rfl, fun _ => HZ.out, .inl HZ.out, (fun q hq => by cases hq), Below.refl _ _⟩
  · have e0 : ((m : Int) == 0) = false := by simp [h0]
    have hm0 : (m : Int) ≤ 35184372088832 := by omega
    obtain ⟨b, o, rfl, hp⟩ : ∃ b o, a = some ⟨b, o, none⟩ ∧ Pt w b o m f := by
      rcases HP'.out with h | h
      · exact absurd h h0
      · exact h
    have HC := Lib.hid (clone_some b o m cap f hm0 w hp); clear hp
    have H0 := Lib.hid h0; clear h0
    go_enter Try.func24, Try.ntmps24
    go_wp2_with fail
    refine (HT.out _ HP.out).mono ?_
    rintro e w' ⟨rfl, rfl⟩
    go_wp2_with fail
    refine HC.out.mono ?_
    rintro e w1 ⟨a1, c1, rfl, hc1, hr, hq, hb⟩
    have HR := Lib.hid (And.intro hr (And.intro hq hb)); clear hr hq hb
    go_wp2_with fail
    refine (clip_any a1 m c1 hc1 _).mono ?_
    rintro e w' ⟨rfl, rfl⟩
    go_wp2
    go_ret
    refine ⟨a1, rfl, fun h => ?_, HR.out⟩
    rcases HR.out.1 with h1 | ⟨b1, o1, h1, -⟩
    · exact h1
    · rw [h] at h1; cases h1

theorem own_wr {w : World} {base n : Nat} {v : Value} {f : Nat → Nat} (h : w.ownsRow base 32 1 v n (pl f n)) (hn : 0 < n) : ∃ g cap, v = .slice (some ⟨g, 0, none⟩) n cap ∧ n ≤ cap ∧ base ≤ g ∧ Wr w g 0 n f := by
  obtain ⟨-, h1⟩ := h
  rcases h1 with ⟨-, h0⟩ | ⟨g, cap, cur, rfl, hg, hc, hnc, hm, hcs, ht⟩
  · omega
  · refine ⟨g, cap, rfl, hnc, hg, (Array.getElem?_eq_some_iff.1 hc).1, fun j hj => ⟨?_, frozen_of_row _ _ _ _ _ hc⟩⟩
    rw [Nat.zero_add, cell_of_row _ _ _ _ _ _ hc, ← pl_at f n j hj, ← ht]
    simp only [Nat.mul_one, List.getElem?_take, hj, if_true]
    simp
/-- A nought behind a list. -/
def beh (f : Nat → Nat) (n : Nat) : Nat → Nat := fun j => if j < n then f j else 0
theorem pl_behind (f : Nat → Nat) (n : Nat) : pl f n ++ [.int .u32 0] = pl (beh f n) (n + 1) := by
  unfold pl beh
  rw [List.range_succ, List.map_append]
  congr 1
  · refine List.map_congr_left fun j hj => ?_
    rw [if_pos (List.mem_range.1 hj)]
  · simp
theorem beh_lt {f : Nat → Nat} {n : Nat} (h : ∀ j, j < n → f j < 4294967296) : ∀ j, j < n + 1 → beh f n j < 4294967296 := fun j _ => by
  unfold beh
  by_cases e : j < n
  · rw [if_pos e]; exact h j e
  · rw [if_neg e]; omega
theorem beh_top (f : Nat → Nat) (n : Nat) : beh f n n = 0 := by unfold beh; rw [if_neg (by omega)]
theorem beh_vb (P : Nat) (f : Nat → Nat) (n : Nat) : vb P (beh f n) (n + 1) = vb P f n := by
  have e : vb P (beh f n) (n + 1) = vb P (beh f n) n + P ^ n * beh f n n := rfl
  rw [e, beh_top, Nat.mul_zero, Nat.add_zero]
  exact vb_congr (fun j hj => by unfold beh; rw [if_pos hj])
theorem nought_at (w : World) (c : Value) (t : TypeId) : ∀ j u, ([c] : List Value)[j]? = some u → (w.alloc (.cells #[c] t)).cell? ((⟨w.heap.size, 0, none⟩ : Addr).add j) = some u := fun j u hj => by
  cases j with
  | zero =>
    injection hj with hj
    subst hj
    show (w.alloc (.cells #[c] t)).cell? ⟨w.heap.size, 0, none⟩ = some c
    rw [cell_of_row _ _ _ _ _ _ (heap_alloc_new _ _)]
    rfl
  | succ j => simp at hj
theorem rd_add {w : World} {a : Option Addr} {n : Nat} {f : Nat → Nat} (h : RdA w a n f) : ∀ b, a = some b → ∀ j u, (pl f n)[j]? = some u → w.cell? (b.add j) = some u := fun b hb j u hj => by
  rcases h with h | ⟨bb, oo, e, hp⟩
  · subst h; simp [pl] at hj
  · rw [e] at hb
    injection hb with hb
    subst hb
    exact news_pl hp j u hj
/-- What modulo makes of a list that is its own. -/
theorem mod_done {w w2 w3 : World} {e : Ending} {S L capS V : Nat} (h : ModPost S L capS V w2 e w3) {f : Nat → Nat} (hW : Wr w2 S 0 L f) (hc : L ≤ capS) (hL : (L : Int) ≤ 35184372088832) (hb : Below w.heap.size w w2) (hS : w.heap.size ≤ S) : MkP V w e w3 := by
  obtain ⟨r, rfl, hh, hl, hv⟩ := h
  have hw3 := hh.wr hW
  refine ⟨_, rfl, ⟨_, tn r L, capS, r, rfl, ⟨Nat.le_trans (tn_le r L) hc, hw3.rd.less _ (tn_le r L), fun q hq => by cases hq; exact hw3.1, fun j hj => hl j (Nat.lt_of_lt_of_le hj (tn_le r L)), by have := tn_le r L; omega⟩, by rw [vb_tn, hv], tn_top r L⟩, But.below hb hh.1 hS⟩
set_option maxRecDepth 100000 in
set_option maxHeartbeats 1000000 in
-- WHAT timesModulo COMES TO.
theorem times_mod {A B : Nat} {va vb' : Value} {w : World} (hA : PV A va w) (hB : PV B vb' w) (b : Option Addr) (m cb : Nat) (g : Nat → Nat) (hm : (m : Int) ≤ 2000) (hg : ∀ j, j < m + 1 → g j < 4294967296) (hgm : 2147483648 ≤ g m) (hR : RdA w b (m + 1) g) (hbl : ∀ q, b = some q → q.block < w.heap.size)
    (hAs : A < 4294967296 ^ (m + 1)) (hBs : B < 4294967296 ^ (m + 1)) : Calls Try.prog 61 #[va, vb', .slice b ((m + 1 : Nat)) cb] w (MkP (A * B % vb 4294967296 g (m + 1)) w) := by
  obtain ⟨a1, n1, c1, f1, rfl, ha, hav, hat⟩ := hA
  obtain ⟨a2, n2, c2, f2, rfl, hb, hbv, hbt⟩ := hB
  have hn1 : n1 ≤ m + 1 := (plain_len (by omega) ha.lt hat).1 (by rw [hav]; exact hAs)
  have hn2 : n2 ≤ m + 1 := (plain_len (by omega) hb.lt hbt).1 (by rw [hbv]; exact hBs)
  clear hAs hBs hat hbt
  have hp := product_any a1 n1 c1 a2 n2 c2 f1 f2 (by omega) (by omega) ha.lt hb.lt w ha.rd hb.rd hb.blk
  rw [hav, hbv] at hp
  clear hav hbv ha hb
  obtain ⟨V, hV⟩ : ∃ V, A * B = V := ⟨_, rfl⟩
  rw [hV] at hp ⊢
  clear hV
  have HP := Lib.hid hp; clear hp
  have HMO := Lib.hid (fun S L capS f h1 h2 h3 h4 h5 h6 w2 h7 h8 => modulo_any S L capS f b m cb g h1 h2 (by omega) h3 h4 h5 hg hgm h6 w2 h7 h8)
  clear hg hgm
  have HR := Lib.hid hR; clear hR
  have HBL := Lib.hid hbl; clear hbl
  obtain ⟨i0, hi, hz0, hz1, hz2⟩ := info_parts info32
  go_enter Try.func61, Try.ntmps61
  go_wp2_with fail
  refine HP.out.mono ?_
  rintro e w1 ⟨P, o, rfl, hP, hW, hol, hov, hb1⟩
  obtain ⟨L, hL⟩ : ∃ L, n1 + n2 = L := ⟨_, rfl⟩
  rw [hL] at hW hol hov
  have HX := Lib.hid (And.intro hP (And.intro hW (And.intro hol (And.intro hov hb1)))); clear hP hW hol hov hb1
  have hL1 : (L : Int) ≤ 4002 := by omega
  rw [hL]
  clear hL hn1 hn2
  go_wp2_with (at_builtin; refine wpList_append_grows _ rfl _ _ 23 rfl 32 i0 (.int .u32 0) 1 4 Try.underlying23 hi hz0 hz1 hz2 rfl (by decide) (some ⟨P, 0, none⟩) L L (pl o L) rfl (fun h => by cases h) (by rw [pl_len, Nat.mul_one]) ?d1 ⟨w1.heap.size, 0, none⟩ 1 1 [.int .u32 0] rfl rfl ?d2 ?d3 (by omega) ?d4 ?d5 ?_)
  case d1 => exact rd_add (HX.out.2.1.rd.below ((Below.refl _ _).alloc (Nat.le_refl _) _))
  case d2 => exact nought_at w1 _ _
  case d3 => intro u hu; simp only [List.mem_cons, List.not_mem_nil, or_false] at hu; subst hu; rfl
  case d4 => unfold maxLen; omega
  case d5 => omega
  intro v' w2 hown hgrow
  rw [pl_behind] at hown
  obtain ⟨S, cS, rfl, hcS, hS, hWS⟩ := own_wr hown (by omega)
  have hb2 : Below w1.heap.size w1 w2 := ((Below.refl _ _).alloc (Nat.le_refl _) _).grown hgrow (by simp) (fun k hk => by cases hk)
  have hbw := HX.out.2.2.2.2.trans (hb2.mono HX.out.2.2.2.2.size)
  have hS1 : w1.heap.size ≤ S := Nat.le_trans (by simp) hS
  have hoff : Off S b := fun q hq => Nat.ne_of_lt (Nat.lt_of_lt_of_le (HBL.out q hq) (Nat.le_trans HX.out.2.2.2.2.size hS1))
  have hmo := HMO.out S (L + 1) cS (beh o L) (by omega) (by omega) hcS (beh_lt HX.out.2.2.1) (beh_top o L) hoff w2 hWS (HR.out.below hbw)
  rw [beh_vb, HX.out.2.2.2.1] at hmo
  have HM := Lib.hid hmo; clear hmo
  have HY := Lib.hid (And.intro hWS (And.intro hcS (And.intro hbw (Nat.le_trans HX.out.2.2.2.2.size hS1))))
  clear hown hgrow hb2 hbw hS1 hoff hS hWS hcS
  go_wp2_with fail
  refine HM.out.mono ?_
  intro e w3 h
  obtain ⟨v, rfl, h2⟩ := mod_done h HY.out.1 HY.out.2.1 (by omega) HY.out.2.2.1 HY.out.2.2.2
  have H2 := Lib.hid h2; clear h2 h
  go_wp2
  go_ret
  exact ⟨v, rfl, H2.out⟩
end Go.Proofs.Ytgegkffigjogcaa
