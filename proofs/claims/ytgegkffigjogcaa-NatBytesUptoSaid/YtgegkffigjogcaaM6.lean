/- The reference's Of: digits of 16 bits as a number. (With it, merged: NCompare · NCmp · NOrders · NRPlainR · Sum · NDigits · NOf.) -/
import Derived.Test.YtgegkffigjogcaaM3
import Derived.Test.YtgegkffigjogcaaM5
import Derived.Test.YtgegkffigjogcaaM1
import Derived.StillTailTactics
import Derived.StillTactics
import Derived.Deep.RegionHeld3
import Derived.Shelf.Spec.TrailingZeros
namespace Go.Proofs.Ytgegkffigjogcaa
open Go.RowKit

/-- How two numbers stand. -/
def sgn (x y : Nat) : Int := if x < y then -1 else if y < x then 1 else 0

theorem nan_int (x : Int) (w : World) : Calls Try.prog 71 #[.int .i64 x] w fun e w' => e = .returned (.bool false) ∧ w = w' := by
  have e0 : (x != x) = false := by simp
  go_enter Try.func71, Try.ntmps71
  go_wp2
  go_ret
  exact ⟨by simp, rfl⟩
set_option maxRecDepth 100000 in
theorem compare_int (x y : Nat) (w : World) : Calls Try.prog 56 #[.int .i64 x, .int .i64 y] w fun e w' => e = .returned (.int .i64 (sgn x y)) ∧ w = w' := by
  have N1 := Lib.hid (nan_int (x : Int))
  have N2 := Lib.hid (nan_int (y : Int))
  by_cases h : x < y
  · have h1 : (x : Int) < y := by omega
    have HS : Hid (sgn x y = -1) := Lib.hid (by unfold sgn; rw [if_pos h])
    clear h
    go_enter Try.func56, Try.ntmps56
    go_wp2_with fail
    refine (N1.out _).mono ?_
    rintro e w' ⟨rfl, rfl⟩
    go_wp2_with fail
    refine (N2.out _).mono ?_
    rintro e w' ⟨rfl, rfl⟩
    go_wp2
    go_ret
    exact ⟨by rw [HS.out]; rfl, rfl⟩
  by_cases h2 : y < x
  · have h1 : ¬ (x : Int) < y := by omega
    have h3 : (y : Int) < x := by omega
    have HS : Hid (sgn x y = 1) := Lib.hid (by unfold sgn; rw [if_neg h, if_pos h2])
    clear h h2
    go_enter Try.func56, Try.ntmps56
    go_wp2_with fail
    refine (N1.out _).mono ?_
    rintro e w' ⟨rfl, rfl⟩
    go_wp2_with fail
    refine (N2.out _).mono ?_
    rintro e w' ⟨rfl, rfl⟩
    go_wp2
    go_ret
    exact ⟨by rw [HS.out]; rfl, rfl⟩
  · have h1 : ¬ (x : Int) < y := by omega
    have h3 : ¬ (y : Int) < x := by omega
    have HS : Hid (sgn x y = 0) := Lib.hid (by unfold sgn; rw [if_neg h, if_neg h2])
    clear h h2
    go_enter Try.func56, Try.ntmps56
    go_wp2_with fail
    refine (N1.out _).mono ?_
    rintro e w' ⟨rfl, rfl⟩
    go_wp2_with fail
    refine (N2.out _).mono ?_
    rintro e w' ⟨rfl, rfl⟩
    go_wp2
    go_ret
    exact ⟨by rw [HS.out]; rfl, rfl⟩

theorem nan_u32 (x : Int) (w : World) : Calls Try.prog 72 #[.int .u32 x] w fun e w' => e = .returned (.bool false) ∧ w = w' := by
  have e0 : (x != x) = false := by simp
  go_enter Try.func72, Try.ntmps72
  go_wp2
  go_ret
  exact ⟨by simp, rfl⟩
set_option maxRecDepth 100000 in
theorem compare_u32 (x y : Nat) (w : World) : Calls Try.prog 57 #[.int .u32 x, .int .u32 y] w fun e w' => e = .returned (.int .i64 (sgn x y)) ∧ w = w' := by
  have N1 := Lib.hid (nan_u32 (x : Int))
  have N2 := Lib.hid (nan_u32 (y : Int))
  by_cases h : x < y
  · have h1 : (x : Int) < y := by omega
    have HS : Hid (sgn x y = -1) := Lib.hid (by unfold sgn; rw [if_pos h])
    clear h
    go_enter Try.func57, Try.ntmps57
    go_wp2_with fail
    refine (N1.out _).mono ?_
    rintro e w' ⟨rfl, rfl⟩
    go_wp2_with fail
    refine (N2.out _).mono ?_
    rintro e w' ⟨rfl, rfl⟩
    go_wp2
    go_ret
    exact ⟨by rw [HS.out]; rfl, rfl⟩
  by_cases h2 : y < x
  · have h1 : ¬ (x : Int) < y := by omega
    have h3 : (y : Int) < x := by omega
    have HS : Hid (sgn x y = 1) := Lib.hid (by unfold sgn; rw [if_neg h, if_pos h2])
    clear h h2
    go_enter Try.func57, Try.ntmps57
    go_wp2_with fail
    refine (N1.out _).mono ?_
    rintro e w' ⟨rfl, rfl⟩
    go_wp2_with fail
    refine (N2.out _).mono ?_
    rintro e w' ⟨rfl, rfl⟩
    go_wp2
    go_ret
    exact ⟨by rw [HS.out]; rfl, rfl⟩
  · have h1 : ¬ (x : Int) < y := by omega
    have h3 : ¬ (y : Int) < x := by omega
    have HS : Hid (sgn x y = 0) := Lib.hid (by unfold sgn; rw [if_neg h, if_neg h2])
    clear h h2
    go_enter Try.func57, Try.ntmps57
    go_wp2_with fail
    refine (N1.out _).mono ?_
    rintro e w' ⟨rfl, rfl⟩
    go_wp2_with fail
    refine (N2.out _).mono ?_
    rintro e w' ⟨rfl, rfl⟩
    go_wp2
    go_ret
    exact ⟨by rw [HS.out]; rfl, rfl⟩
end Go.Proofs.Ytgegkffigjogcaa
namespace Go.Proofs.Ytgegkffigjogcaa
open Go.RowKit

theorem nless_top {P : Nat} {f g : Nat → Nat} {n i : Nat} (hf : ∀ j, j < n → f j < P) (hi : i < n) (he : ∀ j, i < j → j < n → f j = g j) (h : f i < g i) : vb P f n < vb P g n := by
  obtain ⟨k, rfl⟩ : ∃ k, n = (i + 1) + k := ⟨n - (i + 1), by omega⟩
  rw [vb_split P f (i + 1) k, vb_split P g (i + 1) k, vb_congr (f := fun j => f (i + 1 + j)) (g := fun j => g (i + 1 + j)) (fun j hj => he (i + 1 + j) (by omega) (by omega))]
  have h1 := vb_lt (P := P) (f := f) (n := i) (fun j hj => hf j (by omega))
  have h2 := Nat.mul_le_mul_left (P ^ i) h
  simp only [vb]
  rw [Nat.succ_eq_add_one, Nat.mul_add, Nat.mul_one] at h2
  omega
theorem sgn_top {f g : Nat → Nat} {n i : Nat} (hf : ∀ j, j < n → f j < 4294967296) (hg : ∀ j, j < n → g j < 4294967296) (hi : i < n) (he : ∀ j, i < j → j < n → f j = g j) (h : f i ≠ g i) : sgn (f i) (g i) = sgn (vb 4294967296 f n) (vb 4294967296 g n) := by
  unfold sgn
  rcases Nat.lt_or_gt_of_ne h with h1 | h1
  · rw [if_pos h1, if_pos (nless_top hf hi he h1)]
  · have h2 := nless_top hg hi (fun j a b => (he j a b).symm) h1
    rw [if_neg (by omega), if_pos h1, if_neg (by omega), if_pos h2]
theorem sgn_len {f g : Nat → Nat} {n m : Nat} (hf : ∀ j, j < n → f j < 4294967296) (hg : ∀ j, j < m → g j < 4294967296) (tf : n = 0 ∨ f (n - 1) ≠ 0) (tg : m = 0 ∨ g (m - 1) ≠ 0) (h : n ≠ m) : sgn n m = sgn (vb 4294967296 f n) (vb 4294967296 g m) := by
  have key : ∀ {f g : Nat → Nat} {n m : Nat}, (∀ j, j < n → f j < 4294967296) → (∀ j, j < m → g j < 4294967296) → (m = 0 ∨ g (m - 1) ≠ 0) → n < m → vb 4294967296 f n < vb 4294967296 g m := by
    intro f g n m hf hg tg h
    have h1 := vb_lt hf
    have h2 := (not_congr (plain_len (P := 4294967296) (m := n) (by omega) hg tg)).2 (by omega)
    omega
  unfold sgn
  rcases Nat.lt_or_gt_of_ne h with h1 | h1
  · rw [if_pos h1, if_pos (key hf hg tg h1)]
  · have h2 := key hg hf tf h1
    rw [if_neg (by omega), if_pos h1, if_neg (by omega), if_pos h2]
set_option maxRecDepth 100000 in
set_option maxHeartbeats 1000000 in
-- WHAT nat.Cmp COMES TO.
theorem cmp_nv {a b : Option Addr} {n m ca cb : Nat} {f g : Nat → Nat} {w : World} (ha : NvA w a n ca f) (hb : NvA w b m cb g) : Calls Try.prog 30 #[.slice a n ca, .slice b m cb] w fun e w' => e = .returned (.int .i64 (sgn (vb 4294967296 f n) (vb 4294967296 g m))) ∧ ∃ d, w' = w.drewN d := by
  have H1 := Lib.hid (trim_nv ha)
  have H2 := Lib.hid (trim_nv hb)
  have ta := tn_top f n
  have tb := tn_top g m
  have ha' := ha.trim
  have hb' := hb.trim
  have va := vb_tn 4294967296 f n
  have vb' := vb_tn 4294967296 g m
  rw [← va, ← vb']
  clear va vb' ha hb
  obtain ⟨x, hx⟩ : ∃ x, tn f n = x := ⟨_, rfl⟩
  obtain ⟨y, hy⟩ : ∃ y, tn g m = y := ⟨_, rfl⟩
  rw [hx] at H1 ta ha' ⊢
  rw [hy] at H2 tb hb' ⊢
  clear hx hy
  have hx0 : (0 : Int) ≤ x := by omega
  have hx1 : (x : Int) ≤ 35184372088832 := ha'.few
  by_cases h : x = y
  · subst h
    have HA := Lib.hid ha'; clear ha' ta
    have HB := Lib.hid hb'; clear hb' tb
    have e0 : ((x : Int) != x) = false := by simp
    go_enter Try.func30, Try.ntmps30
    go_wp2_with fail
    refine H1.out.mono ?_
    rintro e w' ⟨rfl, rfl⟩
    go_wp2_with fail
    refine H2.out.mono ?_
    rintro e w' ⟨rfl, rfl⟩
    go_wp2
    go_loopw [5] (fun iv wr => ∃ (z : Int) (c : Nat), c ≤ x ∧ z = (c : Int) - 1 ∧ iv = .int .i64 z ∧ (∃ d, wr = w.drewN d) ∧ Hid (∀ j, c ≤ j → j < x → f j = g j)) (fun iv _ => (intOf iv + 1).toNat)
    case atStart => exact ⟨(x : Int) - 1, x, Nat.le_refl _, rfl, rfl, ⟨0, rfl⟩, Lib.hid (fun j h1 h2 => by omega)⟩
    case round =>
      obtain ⟨z, c, hcc, hz, rfl, ⟨d, rfl⟩, H⟩ := hrel
      cases c with
      | zero =>
        have hz1 : z < 0 := by omega
        have hzf : decide (0 ≤ z) = false := by rw [decide_eq_false_iff_not]; omega
        have HS : Hid (sgn (vb 4294967296 f x) (vb 4294967296 g x) = 0) := Lib.hid (by
          rw [vb_congr (fun j hj => H.out j (Nat.zero_le _) hj)]
          unfold sgn
          rw [if_neg (by omega), if_neg (by omega)])
        clear H hz
        go_wp2
        go_ret
        exact ⟨by rw [HS.out]; rfl, d, rfl⟩
      | succ i =>
        obtain rfl : z = (i : Int) := by omega
        have hi0 : (0 : Int) ≤ i := by omega
        have hin : (i : Int) < x := by omega
        obtain ⟨p, hix, -, -, cp⟩ := HA.out.rd.at_ ca i (by omega)
        obtain ⟨q, hiq, -, -, cq⟩ := HB.out.rd.at_ cb i (by omega)
        by_cases he : f i = g i
        · have hne : (((f i : Nat) : Int) != ((g i : Nat) : Int)) = false := by simp [he]
          have HN : Hid (∀ j, i ≤ j → j < x → f j = g j) := Lib.hid (fun j h1 h2 => by
            by_cases e : j = i
            · rw [e]; exact he
            · exact H.out j (by omega) h2)
          clear H he hz
          go_wp2_with fail
          go_region
          go_wp2
          go_roundw
          case rel => exact ⟨(i : Int) - 1, i, by omega, rfl, rfl, ⟨d + 1, rfl⟩, HN⟩
          case measure => first | (simp [intOf]; done) | (simp [intOf]; omega)
        · have hne : (((f i : Nat) : Int) != ((g i : Nat) : Int)) = true := by simp; omega
          have HS := Lib.hid (sgn_top HA.out.lt HB.out.lt (show i < x by omega) (fun j h1 h2 => H.out j (by omega) h2) he)
          have HC := Lib.hid (fun w => compare_u32 (f i) (g i) w)
          clear H he hz
          go_wp2_with fail
          go_region
          go_wp2_with fail
          go_region_with (go_at_call 57; (with_reducible refine (HC.out _).mono ?_); rintro e w' ⟨rfl, rfl⟩)
          all_goals
            go_wp2
            go_ret
            exact ⟨by rw [← HS.out]; rfl, d + 2, rfl⟩
  · have hne : ((x : Int) != y) = true := by simp; omega
    have HS := Lib.hid (sgn_len ha'.lt hb'.lt ta tb h)
    have HC := Lib.hid (fun w => compare_int x y w)
    clear ta tb ha' hb' h
    go_enter Try.func30, Try.ntmps30
    go_wp2_with fail
    refine H1.out.mono ?_
    rintro e w' ⟨rfl, rfl⟩
    go_wp2_with fail
    refine H2.out.mono ?_
    rintro e w' ⟨rfl, rfl⟩
    go_wp2_with fail
    refine (HC.out _).mono ?_
    rintro e w' ⟨rfl, rfl⟩
    go_wp2
    go_ret
    exact ⟨by rw [← HS.out]; rfl, 0, rfl⟩
end Go.Proofs.Ytgegkffigjogcaa
namespace Go.Proofs.Ytgegkffigjogcaa
open Go.RowKit

theorem cmp_nn {A B : Nat} {u v : Value} {w : World} (hu : NN A u w) (hv : NN B v w) : Calls Try.prog 30 #[u, v] w fun e w' => e = .returned (.int .i64 (sgn A B)) ∧ Below w.heap.size w w' := by
  obtain ⟨a, n, ca, f, rfl, ha, rfl⟩ := hu
  obtain ⟨b, m, cb, g, rfl, hb, rfl⟩ := hv
  exact (cmp_nv ha hb).mono fun e w' ⟨he, d, hd⟩ => ⟨he, by rw [hd]; exact below_drewN (Below.refl _ _) _⟩
theorem len_nn {A : Nat} {u : Value} {w : World} (hu : NN A u w) : Calls Try.prog 26 #[u] w fun e w' => e = .returned (.int .i64 ((blN A : Nat) : Int)) ∧ Below w.heap.size w w' := by
  obtain ⟨a, n, ca, f, rfl, ha, rfl⟩ := hu
  exact (len_nv ha).mono fun e w' ⟨he, hd⟩ => ⟨he, by rw [← hd]; exact Below.refl _ _⟩
theorem plain_nn {A : Nat} {u : Value} {w : World} (hu : NN A u w) : Calls Try.prog 24 #[u] w fun e w' => ∃ v, e = .returned v ∧ PV A v w' ∧ Below w.heap.size w w' := by
  obtain ⟨a, n, ca, f, rfl, ha, rfl⟩ := hu
  exact plain_nv ha
theorem same_nn {V : Nat} {u v : Value} {w : World} (hu : PV V u w) (hv : PV V v w) : Calls Try.prog 17 #[u, v] w fun e w' => e = .returned (.bool true) ∧ Below w.heap.size w w' :=
  (same_any hu hv).mono fun e w' ⟨he, d, hd⟩ => ⟨he, by rw [hd]; exact below_drewN (Below.refl _ _) _⟩
theorem row_nn {w : World} {base g n cap : Nat} {f : Nat → Nat} (h : w.ownsRow base 32 1 (.slice (some ⟨g, 0, none⟩) n cap) n (pl f n)) (hn : (n : Int) ≤ 35184372088832) (hf : ∀ j, j < n → f j < 4294967296) : NN (vb 4294967296 f n) (.slice (some ⟨g, 0, none⟩) n cap) w := by
  rcases Nat.eq_zero_or_pos n with rfl | h0
  · rcases h.2 with ⟨h1, -⟩ | ⟨g2, cap2, cur, h1, -, h2, h3, -⟩
    · cases h1
    · injection h1 with h1 _ h4
      injection h1 with h1
      injection h1 with h1
      subst h1
      exact ⟨_, 0, cap, f, rfl, ⟨Nat.zero_le _, .inl rfl, fun q hq => by cases hq; exact (Array.getElem?_eq_some_iff.1 h2).1, hf, by omega⟩, rfl⟩
  · exact own_nn h h0 hn hf
/-- A list with noughts behind. -/
def znx (f : Nat → Nat) (n : Nat) : Nat → Nat := fun j => if j < n then f j else 0
theorem znx_pl (f : Nat → Nat) (n k : Nat) : pl f n ++ List.replicate k (.int .u32 0) = pl (znx f n) (n + k) := by
  apply List.ext_getElem?
  intro j
  by_cases h : j < n
  · rw [List.getElem?_append_left (by rw [pl_len]; exact h), pl_at _ _ _ h, pl_at _ _ _ (by omega)]
    unfold znx
    rw [if_pos h]
  · rw [List.getElem?_append_right (by rw [pl_len]; omega), pl_len]
    by_cases h2 : j < n + k
    · rw [pl_at _ _ _ h2, List.getElem?_replicate, if_pos (by omega)]
      unfold znx
      rw [if_neg h]
      rfl
    · rw [List.getElem?_replicate, if_neg (by omega), List.getElem?_eq_none (by rw [pl_len]; omega)]
theorem znx_vb (f : Nat → Nat) (n k : Nat) : vb 4294967296 (znx f n) (n + k) = vb 4294967296 f n := by
  rw [vb_split, vb_zero (n := k) (fun j _ => by unfold znx; rw [if_neg (by omega)]), Nat.mul_zero, Nat.add_zero]
  exact vb_congr (fun j hj => by unfold znx; rw [if_pos hj])
theorem znx_lt {f : Nat → Nat} {n : Nat} (h : ∀ j, j < n → f j < 4294967296) : ∀ j, znx f n j < 4294967296 := fun j => by
  unfold znx
  by_cases e : j < n
  · rw [if_pos e]; exact h j e
  · rw [if_neg e]; omega
theorem sgn_neg (A B : Nat) : sgn B A = - sgn A B := by
  unfold sgn
  rcases Nat.lt_trichotomy A B with h | h | h
  · rw [if_neg (by omega), if_pos h, if_pos h]; rfl
  · subst h; rw [if_neg (by omega), if_neg (by omega)]; rfl
  · rw [if_pos h, if_neg (by omega), if_pos h]
theorem sgn_bd (A B : Nat) : -1 ≤ sgn A B ∧ sgn A B ≤ 1 := by
  unfold sgn
  split
  · omega
  · split <;> omega
theorem blN_mono {A B : Nat} (h : A ≤ B) : blN A ≤ blN B := by
  refine blN_le ?_
  by_cases e : B = 0
  · have : A = 0 := by omega
    rw [this]; exact Nat.pow_pos (by omega)
  · have h2 : B < 2 ^ blN B := by
      unfold blN
      rw [if_neg e]
      exact (Nat.log2_lt e).1 (Nat.lt_succ_self _)
    omega
theorem sgn_bl (A B : Nat) : (blN A < blN B → sgn A B < 0) ∧ (blN B < blN A → 0 < sgn A B) := by
  have key : ∀ {A B : Nat}, blN A < blN B → A < B := fun {A B} h => Nat.lt_of_not_le (fun h2 => by have := blN_mono h2; omega)
  constructor
  · intro h
    unfold sgn
    rw [if_pos (key h)]
    omega
  · intro h
    have := key h
    unfold sgn
    rw [if_neg (by omega), if_pos this]
    omega
set_option maxRecDepth 100000 in
set_option maxHeartbeats 4000000 in
theorem orders_any {w : World} {v0 v1 : Value} {n0 n1 : Nat} {f0 f1 : Nat → Nat} (h0 : ArgN w v0 n0 f0) (h1 : ArgN w v1 n1 f1)
    (l0 : ∀ j, j < n0 → f0 j < 4294967296) (l1 : ∀ j, j < n1 → f1 j < 4294967296) (s0 : (n0 : Int) ≤ 35184372088800) (s1 : (n1 : Int) ≤ 35184372088800) (k : Nat) (hk : k < 256) :
    Calls Try.prog 10 #[v0, v1, .int .u8 (k : Nat)] w fun e w' => e = .returned (.bool true) ∧ Below w.heap.size w w' := by
  have OR := Lib.hid (ownr_any h0 (by omega))
  have OW0 := Lib.hid (fun u w' (hu : ArgN w' u n0 f0) => own_any hu (by omega) l0)
  have OW1 := Lib.hid (fun u w' (hu : ArgN w' u n1 f1) => own_any hu (by omega) l1)
  have RP := Lib.hid (fun u w' (hu : ArgN w' u n0 f0) => refplain_any hu (by omega) l0)
  obtain ⟨i0, hi, hz0, hz1, hz2⟩ := info_parts info32
  obtain ⟨j, hj⟩ : ∃ j, k % 9 = j := ⟨_, rfl⟩
  have hj9 : j < 9 := by omega
  have hAP := Lib.hid (fun (w1 : World) (g cap : Nat) (h : w1.ownsRow w.heap.size 32 1 (.slice (some ⟨g, 0, none⟩) n0 cap) n0 (pl f0 n0)) (hb : w.heap.size ≤ w1.heap.size) =>
    run_append_own_zeros (P := Try.prog) (w := w1) w.heap.size 23 3 23 32 i0 (.int .u32 0) 4 .i64 .i64 Try.underlying23 Try.underlying3 hi hz0 hz1 hz2 rfl rfl g n0 cap (pl f0 n0) h j (by unfold maxLen; omega) (by omega) hb)
  have hNC := Lib.hid (fun (w1 : World) (g cap : Nat) (h : w1.ownsRow w.heap.size 32 1 (.slice (some ⟨g, 0, none⟩) (n0 + j) cap) (n0 + j) (pl f0 n0 ++ List.replicate j (.int .u32 0))) =>
    (row_nn (f := znx f0 n0) (by rw [← znx_pl]; exact h) (by omega) (fun i _ => znx_lt l0 i) : NN (vb 4294967296 (znx f0 n0) (n0 + j)) _ w1))
  rw [znx_vb] at hNC
  obtain ⟨A, eA⟩ : ∃ A, vb 4294967296 f0 n0 = A := ⟨_, rfl⟩
  obtain ⟨B, eB⟩ : ∃ B, vb 4294967296 f1 n1 = B := ⟨_, rfl⟩
  rw [eA] at OW0 RP hNC
  rw [eB] at OW1
  have CM := Lib.hid (fun x y w' (hx : NN A x w') (hy : NN B y w') => cmp_nn hx hy)
  have CN := Lib.hid (fun x y w' (hx : NN B x w') (hy : NN A y w') => cmp_nn hx hy)
  have LA := Lib.hid (fun x w' (hx : NN A x w') => len_nn hx)
  have LB := Lib.hid (fun x w' (hx : NN B x w') => len_nn hx)
  have hs1 := (sgn_bd A B).1
  have hs2 := (sgn_bd A B).2
  have hbl := sgn_bl A B
  rw [sgn_neg] at CN
  obtain ⟨s, hs⟩ : ∃ s, sgn A B = s := ⟨_, rfl⟩
  rw [hs] at CM CN hs1 hs2 hbl
  obtain ⟨X, hX⟩ : ∃ X, blN A = X := ⟨_, rfl⟩
  obtain ⟨Y, hY⟩ : ∃ Y, blN B = Y := ⟨_, rfl⟩
  rw [hX] at LA hbl
  rw [hY] at LB hbl
  have U0 := Lib.hid h0
  have U1 := Lib.hid h1
  have t1 : (k : Int).tmod 9 = (j : Int) := by rw [Int.tmod_eq_emod_of_nonneg (by omega)]; omega
  have t2 : (k : Int) % 9 = (j : Int) := by omega
  have t3 : IntKind.i64.wrap (-s) = -s := by rw [IntKind.wrap_i64]; omega
  have t4 : ((-s) != (-s)) = false := by simp
  have t5 : (s != s) = false := by simp
  have t6 : ((X : Int) != X) = false := by simp
  have hk0 : (0 : Int) ≤ k := by omega
  have hk1 : (k : Int) < 256 := by omega
  have HB := Lib.hid hbl
  have HS := Lib.hid (And.intro hs1 hs2)
  clear h0 h1 l0 l1 s0 s1 hi hz0 hz1 hz2 hj hj9 eA eB hX hY hs hbl hs1 hs2
  go_enter Try.func10, Try.ntmps10
  go_wp2_with fail
  refine OR.out.mono ?_
  rintro e w1 ⟨g, cap, rfl, hrow, hb⟩
  obtain ⟨g2, cap2, w2, hrun, hrow2, hgrow⟩ := hAP.out w1 g cap hrow hb.size
  have hbg : w.heap.size ≤ g := by
    rcases hrow.2 with ⟨h1, -⟩ | ⟨g3, cap3, cur, h1, h2, -⟩
    · cases h1
    · injection h1 with h1
      injection h1 with h1
      injection h1 with h1
      rw [h1]; exact h2
  have HW : Hid (Below w.heap.size w w2) := Lib.hid (hb.grown hgrow hb.size (fun j hj => by cases hj; exact hbg))
  have NC := Lib.hid (hNC.out w2 g2 cap2 hrow2)
  replace U0 := Lib.hid (U0.out.below HW.out)
  replace U1 := Lib.hid (U1.out.below HW.out)
  have HR := Lib.hid hrun
  clear hrun hrow hrow2 hgrow hbg hb OR hAP hNC
  go_wp2_with (at_builtin; refine Go.Lib.wpList_append_run _ rfl _ _ 23 3 rfl _ _ rfl rfl _ _ HR.out ?_)
  clear HR
  go_wp2_with fail
  refine (OW0.out _ _ U0.out).mono ?_
  rintro e wn ⟨x1, rfl, hx, hb⟩
  replace U0 := Lib.hid (U0.out.below hb)
  replace U1 := Lib.hid (U1.out.below hb)
  replace NC := Lib.hid (NC.out.below hb)
  replace HW := Lib.hid (HW.out.trans (hb.mono HW.out.size))
  have Nx1 := Lib.hid (hx)
  clear hb
  clear hx
  go_wp2_with fail
  refine (OW1.out _ _ U1.out).mono ?_
  rintro e wn ⟨x2, rfl, hx, hb⟩
  replace U0 := Lib.hid (U0.out.below hb)
  replace U1 := Lib.hid (U1.out.below hb)
  replace NC := Lib.hid (NC.out.below hb)
  replace Nx1 := Lib.hid (Nx1.out.below hb)
  replace HW := Lib.hid (HW.out.trans (hb.mono HW.out.size))
  have Nx2 := Lib.hid (hx)
  clear hb
  clear hx
  go_wp2_with fail
  refine (CM.out _ _ _ Nx1.out Nx2.out).mono ?_
  rintro e wn ⟨rfl, hb⟩
  replace U0 := Lib.hid (U0.out.below hb)
  replace U1 := Lib.hid (U1.out.below hb)
  replace NC := Lib.hid (NC.out.below hb)
  replace HW := Lib.hid (HW.out.trans (hb.mono HW.out.size))
  clear hb Nx1 Nx2
  go_wp2_with fail
  refine (OW1.out _ _ U1.out).mono ?_
  rintro e wn ⟨x3, rfl, hx, hb⟩
  replace U0 := Lib.hid (U0.out.below hb)
  replace U1 := Lib.hid (U1.out.below hb)
  replace NC := Lib.hid (NC.out.below hb)
  replace HW := Lib.hid (HW.out.trans (hb.mono HW.out.size))
  have Nx3 := Lib.hid (hx)
  clear hb
  clear hx
  go_wp2_with fail
  refine (OW0.out _ _ U0.out).mono ?_
  rintro e wn ⟨x4, rfl, hx, hb⟩
  replace U0 := Lib.hid (U0.out.below hb)
  replace U1 := Lib.hid (U1.out.below hb)
  replace NC := Lib.hid (NC.out.below hb)
  replace Nx3 := Lib.hid (Nx3.out.below hb)
  replace HW := Lib.hid (HW.out.trans (hb.mono HW.out.size))
  have Nx4 := Lib.hid (hx)
  clear hb
  clear hx
  go_wp2_with fail
  refine (CN.out _ _ _ Nx3.out Nx4.out).mono ?_
  rintro e wn ⟨rfl, hb⟩
  replace U0 := Lib.hid (U0.out.below hb)
  replace U1 := Lib.hid (U1.out.below hb)
  replace NC := Lib.hid (NC.out.below hb)
  replace HW := Lib.hid (HW.out.trans (hb.mono HW.out.size))
  clear hb Nx3 Nx4
  go_wp2_with fail
  refine (OW1.out _ _ U1.out).mono ?_
  rintro e wn ⟨x5, rfl, hx, hb⟩
  replace U0 := Lib.hid (U0.out.below hb)
  replace U1 := Lib.hid (U1.out.below hb)
  replace NC := Lib.hid (NC.out.below hb)
  replace HW := Lib.hid (HW.out.trans (hb.mono HW.out.size))
  have Nx5 := Lib.hid (hx)
  clear hb
  clear hx
  go_wp2_with fail
  refine (CM.out _ _ _ NC.out Nx5.out).mono ?_
  rintro e wn ⟨rfl, hb⟩
  replace U0 := Lib.hid (U0.out.below hb)
  replace U1 := Lib.hid (U1.out.below hb)
  replace NC := Lib.hid (NC.out.below hb)
  replace HW := Lib.hid (HW.out.trans (hb.mono HW.out.size))
  clear hb Nx5
  go_wp2_with fail
  refine (LA.out _ _ NC.out).mono ?_
  rintro e wn ⟨rfl, hb⟩
  replace U0 := Lib.hid (U0.out.below hb)
  replace U1 := Lib.hid (U1.out.below hb)
  replace NC := Lib.hid (NC.out.below hb)
  replace HW := Lib.hid (HW.out.trans (hb.mono HW.out.size))
  clear hb
  go_wp2_with fail
  refine (OW0.out _ _ U0.out).mono ?_
  rintro e wn ⟨x6, rfl, hx, hb⟩
  replace U0 := Lib.hid (U0.out.below hb)
  replace U1 := Lib.hid (U1.out.below hb)
  replace NC := Lib.hid (NC.out.below hb)
  replace HW := Lib.hid (HW.out.trans (hb.mono HW.out.size))
  have Nx6 := Lib.hid (hx)
  clear hb
  clear hx
  go_wp2_with fail
  refine (LA.out _ _ Nx6.out).mono ?_
  rintro e wn ⟨rfl, hb⟩
  replace U0 := Lib.hid (U0.out.below hb)
  replace U1 := Lib.hid (U1.out.below hb)
  replace NC := Lib.hid (NC.out.below hb)
  replace HW := Lib.hid (HW.out.trans (hb.mono HW.out.size))
  clear hb Nx6
  go_wp2_with fail
  refine (plain_nn NC.out).mono ?_
  rintro e wn ⟨x7, rfl, hx, hb⟩
  replace U0 := Lib.hid (U0.out.below hb)
  replace U1 := Lib.hid (U1.out.below hb)
  replace HW := Lib.hid (HW.out.trans (hb.mono HW.out.size))
  have P7 := Lib.hid (hx)
  clear hb NC
  clear hx
  go_wp2_with fail
  refine (RP.out _ _ U0.out).mono ?_
  rintro e wn ⟨x8, rfl, hx, hb⟩
  replace U0 := Lib.hid (U0.out.below hb)
  replace U1 := Lib.hid (U1.out.below hb)
  replace P7 := Lib.hid (P7.out.below hb)
  replace HW := Lib.hid (HW.out.trans (hb.mono HW.out.size))
  have P8 := Lib.hid (hx)
  clear hb
  clear hx
  go_wp2_with fail
  refine (same_nn P7.out P8.out).mono ?_
  rintro e wn ⟨rfl, hb⟩
  replace U0 := Lib.hid (U0.out.below hb)
  replace U1 := Lib.hid (U1.out.below hb)
  replace HW := Lib.hid (HW.out.trans (hb.mono HW.out.size))
  clear hb P7 P8
  go_wp2_with fail
  refine (OW0.out _ _ U0.out).mono ?_
  rintro e wn ⟨x9, rfl, hx, hb⟩
  replace U0 := Lib.hid (U0.out.below hb)
  replace U1 := Lib.hid (U1.out.below hb)
  replace HW := Lib.hid (HW.out.trans (hb.mono HW.out.size))
  have Nx9 := Lib.hid (hx)
  clear hb
  clear hx
  go_wp2_with fail
  refine (LA.out _ _ Nx9.out).mono ?_
  rintro e wn ⟨rfl, hb⟩
  replace U0 := Lib.hid (U0.out.below hb)
  replace U1 := Lib.hid (U1.out.below hb)
  replace HW := Lib.hid (HW.out.trans (hb.mono HW.out.size))
  clear hb Nx9
  go_wp2_with fail
  refine (OW1.out _ _ U1.out).mono ?_
  rintro e wn ⟨x10, rfl, hx, hb⟩
  replace U0 := Lib.hid (U0.out.below hb)
  replace U1 := Lib.hid (U1.out.below hb)
  replace HW := Lib.hid (HW.out.trans (hb.mono HW.out.size))
  have Nx10 := Lib.hid (hx)
  clear hb
  clear hx
  go_wp2_with fail
  refine (LB.out _ _ Nx10.out).mono ?_
  rintro e wn ⟨rfl, hb⟩
  replace HW := Lib.hid (HW.out.trans (hb.mono HW.out.size))
  clear hb Nx10 U0 U1
  have q0 : X < Y ∨ X = Y ∨ Y < X := Nat.lt_trichotomy X Y
  rcases q0 with q | q | q
  · have q1 : (X : Int) ≤ Y := by omega
    have q2 : ¬ (Y : Int) ≤ X := by omega
    have q3 : s < 0 := HB.out.1 q
    clear q
    go_wp2_with fail
    refine (lives_any _).mono ?_
    rintro e wn ⟨rfl, hb⟩
    replace HW := Lib.hid (HW.out.trans (hb.mono HW.out.size))
    clear hb
    go_wp2
    go_ret
    exact ⟨rfl, HW.out⟩
  · subst q
    have q1 : (X : Int) ≤ X := by omega
    go_wp2_with fail
    refine (lives_any _).mono ?_
    rintro e wn ⟨rfl, hb⟩
    replace HW := Lib.hid (HW.out.trans (hb.mono HW.out.size))
    clear hb
    go_wp2
    go_ret
    exact ⟨rfl, HW.out⟩
  · have q1 : (Y : Int) ≤ X := by omega
    have q2 : ¬ (X : Int) ≤ Y := by omega
    have q3 : 0 < s := HB.out.2 q
    clear q
    go_wp2_with fail
    refine (lives_any _).mono ?_
    rintro e wn ⟨rfl, hb⟩
    replace HW := Lib.hid (HW.out.trans (hb.mono HW.out.size))
    clear hb
    go_wp2
    go_ret
    exact ⟨rfl, HW.out⟩
end Go.Proofs.Ytgegkffigjogcaa
namespace Go.Proofs.Ytgegkffigjogcaa
open Go.RowKit

set_option maxRecDepth 100000 in
set_option maxHeartbeats 1000000 in
theorem refplainr_some (q : Addr) (n cap : Nat) (f : Nat → Nat) (hn : (n : Int) ≤ 35184372088832) (hc : n ≤ cap) (w : World) (hP : RdA w (some q) n f) :
    Calls Try.prog 25 #[.slice (some q) n cap] w (MkR (tn f n) f w) := by
  have HP := Lib.hid hP; clear hP
  have hsl : ∀ h : Nat, (h : Int) ≤ cap → ∀ w, (Instr.slice 23 (.slice (some q) n cap) none (some (.int .i64 (h : Int))) none).run Try.prog w = .ok (.slice (some q) h cap) w := fun h hh w => slice_nat (some q) n cap h hh w
  have HSL := Lib.hid hsl; clear hsl
  obtain ⟨i0, hi, hz0, hz1, hz2⟩ := info_parts info32
  go_enter Try.func25, Try.ntmps25
  go_wp2
  go_loop [3] (fun iv => ∃ k : Nat, k ≤ n ∧ iv = .int .i64 k ∧ Hid (tn f n = tn f k)) (fun iv => (intOf iv).toNat)
  case atStart => exact ⟨n, Nat.le_refl _, rfl, Lib.hid rfl⟩
  case round =>
    obtain ⟨k, hk, rfl, H⟩ := hrel
    have hkb : (k : Int) ≤ 35184372088832 := by omega
    have hk00 : (0 : Int) ≤ k := by omega
    by_cases hz : k ≠ 0 ∧ f (k - 1) = 0
    · obtain ⟨hk0, hz⟩ := hz
      obtain ⟨i, hi'⟩ : ∃ i : Nat, (k : Int) - 1 = (i : Int) := ⟨k - 1, by omega⟩
      have hik : k = i + 1 := by omega
      have hi0 : (0 : Int) ≤ i := by omega
      have hi1 : (i : Int) < n := by omega
      have hk1 : (0 : Int) < k := by omega
      rw [show k - 1 = i by omega] at hz
      obtain ⟨p, hx, -, -, ca⟩ := HP.out.at_ cap i (by omega)
      have hz' : ((f i : Nat) : Int) = 0 := by omega
      have hz2' : (((f i : Nat) : Int) == 0) = true := by simp [hz]
      have HZ := Lib.hid (And.intro hz hik); clear hz hik
      go_wp2
      go_round
      case rel => exact ⟨i, by omega, rfl, Lib.hid (by rw [H.out, HZ.out.2, tn, if_pos HZ.out.1])⟩
      case measure => simp [intOf]; omega
    · have e : tn f n = k := by
        rw [H.out]
        rcases Nat.eq_zero_or_pos k with h | h
        · rw [h]; rfl
        · obtain ⟨i, rfl⟩ : ∃ i, k = i + 1 := ⟨k - 1, by omega⟩
          rw [tn, if_neg (fun h2 => hz ⟨by omega, by simpa using h2⟩)]
      have hs := HSL.out k (by omega)
      have hw := HP.out.less k hk
      have hst : k = 0 ∨ f (k - 1) ≠ 0 := by
        rcases Nat.eq_zero_or_pos k with h | h
        · exact .inl h
        · exact .inr (fun h2 => hz ⟨by omega, h2⟩)
      have HE := Lib.hid (And.intro e hw)
      clear e hw hz H
      rcases Nat.eq_zero_or_pos k with h0 | h0
      · have hk1 : ¬ (0 : Int) < k := by omega
        clear h0 hst
        go_wp2_with (at_builtin; refine wpList_append_own _ rfl _ _ 23 rfl w.heap.size 32 i0 (.int .u32 0) 1 4 Try.underlying23 hi hz0 hz1 hz2 rfl (by decide) _ 0 [] rfl (World.ownsRow_made (base := w.heap.size) (e := 32) (size := 1) w #[] 0 (by simp) (by decide) (by simp)) q k cap (pl f k) rfl (by rw [pl_len, Nat.mul_one]) ?c1 ?c2 ?c3 ?c4 ?c5 ?_)
        case c1 => exact rd_add (HE.out.2.below ((Below.refl _ _).alloc (Nat.le_refl _) _)) q rfl
        case c2 => exact one_pl f k
        case c3 => unfold maxLen; omega
        case c4 => omega
        intro v' w1 hown' hgrow hnn
        have HF := Lib.hid (mk_row (w := w) hown' hnn (((Below.refl _ _).alloc (Nat.le_refl _) _).grown hgrow (by simp) (fun j hj => by cases hj; exact Nat.le_refl _)))
        clear hown' hgrow hnn
        go_wp2
        go_ret
        rw [HE.out.1]
        exact HF.out
      · obtain ⟨i, hi'⟩ : ∃ i : Nat, (k : Int) - 1 = (i : Int) := ⟨k - 1, by omega⟩
        have hi0 : (0 : Int) ≤ i := by omega
        have hi1 : (i : Int) < n := by omega
        have hk1 : (0 : Int) < k := by omega
        obtain ⟨p, hx, -, -, ca⟩ := HP.out.at_ cap i (by omega)
        have hz2' : (((f i : Nat) : Int) == 0) = false := by
          have := hst.resolve_left (by omega)
          rw [show k - 1 = i by omega] at this
          simpa using this
        clear h0 hst
        go_wp2_with (at_builtin; refine wpList_append_own _ rfl _ _ 23 rfl w.heap.size 32 i0 (.int .u32 0) 1 4 Try.underlying23 hi hz0 hz1 hz2 rfl (by decide) _ 0 [] rfl (World.ownsRow_made (base := w.heap.size) (e := 32) (size := 1) w #[] 0 (by simp) (by decide) (by simp)) q k cap (pl f k) rfl (by rw [pl_len, Nat.mul_one]) ?c1 ?c2 ?c3 ?c4 ?c5 ?_)
        case c1 => exact rd_add (HE.out.2.below ((Below.refl _ _).alloc (Nat.le_refl _) _)) q rfl
        case c2 => exact one_pl f k
        case c3 => unfold maxLen; omega
        case c4 => omega
        intro v' w1 hown' hgrow hnn
        have HF := Lib.hid (mk_row (w := w) hown' hnn (((Below.refl _ _).alloc (Nat.le_refl _) _).grown hgrow (by simp) (fun j hj => by cases hj; exact Nat.le_refl _)))
        clear hown' hgrow hnn
        go_wp2
        go_ret
        rw [HE.out.1]
        exact HF.out
set_option maxRecDepth 100000 in
set_option maxHeartbeats 1000000 in
theorem refplainr_none (f : Nat → Nat) (w : World) : Calls Try.prog 25 #[.slice none 0 0] w (MkR 0 f w) := by
  obtain ⟨i0, hi, hz0, hz1, hz2⟩ := info_parts info32
  have hs : ∀ w, (Instr.slice 23 (.slice none 0 0) none (some (.int .i64 0)) none).run Try.prog w = .ok (.slice none 0 0) w := fun w => slice_nat none 0 0 0 (by omega) w
  go_enter Try.func25, Try.ntmps25
  go_wp2
  go_loop [3] (fun iv => iv = .int .i64 0) (fun iv => (intOf iv).toNat)
  case atStart => rfl
  case round =>
    obtain rfl := hrel
    go_wp2_with (at_builtin; refine wpList_append_own_none rfl _ _ 23 rfl w.heap.size 32 i0 1 Try.underlying23 hi _ 0 [] rfl (World.ownsRow_made (base := w.heap.size) (e := 32) (size := 1) w #[] 0 (by simp) (by decide) (by simp)) rfl ?_)
    go_wp2
    go_ret
    exact ⟨_, 0, rfl, World.ownsRow_made (base := w.heap.size) (e := 32) (size := 1) w #[] 0 (by simp) (by decide) (by simp), by go_grown⟩
/-- A number among the arguments of a call of the reference. -/
def AN (V : Nat) (v : Value) (w : World) : Prop := ∃ n f, ArgN w v n f ∧ (n : Int) ≤ 35184372088832 ∧ (∀ j, j < n → f j < 4294967296) ∧ vb 4294967296 f n = V
theorem AN.below {V : Nat} {v : Value} {w w' : World} (h : AN V v w) (hb : Below w.heap.size w w') : AN V v w' := by
  obtain ⟨n, f, h1, h2, h3, h4⟩ := h; exact ⟨n, f, h1.below hb, h2, h3, h4⟩
/-- A number without noughts behind, in a block of its own. -/
def RP (V : Nat) (v : Value) (w : World) : Prop := ∃ g n cap f, v = .slice (some ⟨g, 0, none⟩) n cap ∧ NvA w (some ⟨g, 0, none⟩) n cap f ∧ vb 4294967296 f n = V ∧ (n = 0 ∨ f (n - 1) ≠ 0)
theorem RP.below {V : Nat} {v : Value} {w w' : World} (h : RP V v w) (hb : Below w.heap.size w w') : RP V v w' := by
  obtain ⟨g, n, cap, f, h1, h2, h3⟩ := h; exact ⟨g, n, cap, f, h1, h2.below hb, h3⟩
theorem RP.pv {V : Nat} {v : Value} {w : World} (h : RP V v w) : PV V v w := by
  obtain ⟨g, n, cap, f, h1, h2, h3, h4⟩ := h; exact ⟨_, n, cap, f, h1, h2, h3, h4⟩
theorem RP.an {V : Nat} {v : Value} {w : World} (h : RP V v w) : AN V v w := by
  obtain ⟨g, n, cap, f, h1, h2, h3, h4⟩ := h
  exact ⟨n, f, ⟨_, cap, h1, h2.cap, (fun h => by cases h), h2.rd⟩, h2.few, h2.lt, h3⟩
theorem rp_of {w : World} {base g n cap : Nat} {f : Nat → Nat} (h : w.ownsRow base 32 1 (.slice (some ⟨g, 0, none⟩) n cap) n (pl f n)) (hn : (n : Int) ≤ 35184372088832) (hf : ∀ j, j < n → f j < 4294967296) (ht : n = 0 ∨ f (n - 1) ≠ 0) : RP (vb 4294967296 f n) (.slice (some ⟨g, 0, none⟩) n cap) w := by
  rcases h.2 with ⟨h1, -⟩ | ⟨g2, cap2, cur, h1, -, h2, h3, -⟩
  · cases h1
  · injection h1 with h1 _ h4
    injection h1 with h1
    injection h1 with h1
    subst h1
    subst h4
    refine ⟨g, n, cap, f, rfl, ⟨h3, ?_, fun q hq => by cases hq; exact (Array.getElem?_eq_some_iff.1 h2).1, hf, hn⟩, rfl, ht⟩
    rcases Nat.eq_zero_or_pos n with h0 | h0
    · exact .inl h0
    · obtain ⟨g', c', e, -, -, hp⟩ := own_pt h h0
      injection e with e
      rw [e]
      injection e with e
      injection e with e
      exact hp.rd
-- WHAT THE REFERENCE's Plain COMES TO, of any argument.
theorem plain_an {V : Nat} {v : Value} {w : World} (h : AN V v w) : Calls Try.prog 25 #[v] w fun e w' => ∃ u, e = .returned u ∧ RP V u w' ∧ Below w.heap.size w w' := by
  obtain ⟨n, f, ⟨a, cap, rfl, hc, hn0, hr⟩, hn, hf, rfl⟩ := h
  have hl := tn_le f n
  have key : ∀ {m : Nat}, m = tn f n → ∀ {e : Ending} {w' : World}, MkR m f w e w' → ∃ u, e = .returned u ∧ RP (vb 4294967296 f n) u w' ∧ Below w.heap.size w w' := by
    rintro m rfl e w' ⟨g, c, rfl, h1, h2⟩
    exact ⟨_, rfl, by rw [← vb_tn]; exact rp_of h1 (by omega) (fun j hj => hf j (by omega)) (tn_top f n), h2⟩
  cases a with
  | none =>
    have h0 := hn0 rfl
    subst h0
    obtain rfl : n = 0 := by omega
    exact (refplainr_none f w).mono fun e w' h => key rfl h
  | some q => exact (refplainr_some q n cap f hn hc w hr).mono fun e w' h => key rfl h
end Go.Proofs.Ytgegkffigjogcaa
namespace Go.Proofs.Ytgegkffigjogcaa
open Go.RowKit

/-- One round's reckoning. -/
theorem sum_step {P x c N A B : Nat} (h : N + P * c = A + B) (ak bk : Nat) (hx : x = c + ak + bk) : N + P * (x % 65536) + P * 65536 * (x / 65536) = (A + P * ak) + (B + P * bk) := by
  have e : x = x % 65536 + 65536 * (x / 65536) := by omega
  have e1 : P * x = P * (x % 65536) + P * 65536 * (x / 65536) := by
    rw [Nat.mul_assoc, ← Nat.mul_add, ← e]
  have e2 : P * x = P * c + P * ak + P * bk := by rw [hx, Nat.mul_add, Nat.mul_add]
  omega

/-- What the loop of Sum keeps. -/
def SumRel (w : World) (n m k c : Nat) (da db : Nat → Nat) (v : Value) (wr : World) : Prop :=
  c ≤ 1 ∧ ∃ ns : Nat → Nat, wr.ownsRow w.heap.size 59 1 v k (dl ns k) ∧ (∀ j, j < k → ns j < 65536) ∧ vd ns k + 65536 ^ k * c = vd (pad da n) k + vd (pad db m) k ∧ Below w.heap.size w wr ∧ w.heap.size < wr.heap.size

theorem sum_next {w wr w1 : World} {n m k c x : Nat} {da db ns : Nat → Nat} {v v' X : Value} (hc : c ≤ 1) (hown : wr.ownsRow w.heap.size 59 1 v k (dl ns k)) (hns : ∀ j, j < k → ns j < 65536)
    (hv : vd ns k + 65536 ^ k * c = vd (pad da n) k + vd (pad db m) k) (hb : Below w.heap.size w wr) (hz : w.heap.size < wr.heap.size) (hx : x = c + pad da n k + pad db m k) (ha : pad da n k < 65536) (hbd : pad db m k < 65536)
    (hown' : w1.ownsRow w.heap.size 59 1 v' (k + 1) (dl ns k ++ [.int .u64 ((x % 65536 : Nat) : Int)])) (hgrow : (wr.alloc (.cells #[X] 59)).grownBy w1 v.ownBlock) :
    SumRel w n m (k + 1) (x / 65536) da db v' w1 := by
  obtain ⟨ho, hb'⟩ := push_rel hown hb (by omega) hown' hgrow
  have hs := hgrow.size
  simp at hs
  refine ⟨by omega, upd ns k (x % 65536), ho, upd_lt hns (by omega), ?_, hb', by omega⟩
  rw [vd_upd, Nat.pow_succ]
  exact sum_step hv _ _ hx

set_option maxRecDepth 100000 in
set_option maxHeartbeats 4000000 in
theorem sum_any (ba ca bb cb n m : Nat) (da db : Nat → Nat) (hn : (n : Int) ≤ 1000000) (hm : (m : Int) ≤ 1000000) (ha : ∀ j, j < n → da j < 65536) (hb : ∀ j, j < m → db j < 65536) (w : World) (hA : Dg w ba n da) (hB : Dg w bb m db) :
    Calls Try.prog 46 #[.slice (some ⟨ba, 0, none⟩) n ca, .slice (some ⟨bb, 0, none⟩) m cb] w (MkDg (max n m + 1) (vd da n + vd db m) w) := by
  have Ha := Lib.hid ha; clear ha
  have Hb := Lib.hid hb; clear hb
  have HA := Lib.hid hA; clear hA
  have HB := Lib.hid hB; clear hB
  obtain ⟨i0, hi, hz0, hz1, hz2⟩ := info_parts info22
  go_enter Try.func46, Try.ntmps46
  go_wp2
  go_loopw [5, 6, 7] (fun v cv i wr => ∃ k c : Nat, k ≤ max n m ∧ i = .int .i64 k ∧ cv = .int .u64 c ∧ Hid (SumRel w n m k c da db v wr)) (fun _ _ i _ => max n m - (intOf i).toNat)
  case atStart =>
    refine ⟨0, 0, by omega, rfl, rfl, Lib.hid ⟨by omega, da, ?_, by omega, rfl, by go_grown, by simp⟩⟩
    exact World.ownsRow_made (base := w.heap.size) (e := 59) (size := 1) w #[] 0 (by simp) (by decide) (by simp)
  case round =>
    obtain ⟨k, c, hk, rfl, rfl, H⟩ := hrel
    have hk0 : (0 : Int) ≤ k := by omega
    have hk1 : (k : Int) ≤ 1000000 := by omega
    obtain ⟨hc, ns, hown, hns, hval, hbel, hsz⟩ := H.out
    have hc0 : (0 : Int) ≤ c := by omega
    have hc1 : (c : Int) ≤ 1 := by omega
    have HO := Lib.hid hown; clear hown
    have HNS := Lib.hid hns; clear hns
    have HVAL := Lib.hid hval; clear hval
    have HBEL := Lib.hid hbel; clear hbel
    have HSZ := Lib.hid hsz; clear hsz
    have HC := Lib.hid hc; clear hc H
    by_cases h1 : k < n
    · by_cases h2 : k < m
      · have xa : ((da k : Nat) : Int) ≤ 65535 := by have := Ha.out k (by omega); omega
        have xa0 : (0 : Int) ≤ (da k : Nat) := by omega
        have ea : wr.cell? ⟨ba, k, none⟩ = some (.int .u64 (da k : Nat)) := (HBEL.out.cell (p := ⟨ba, k, none⟩) HA.out.1).trans (HA.out.2 k (by omega))
        have hka : (k : Int) < (n : Int) := by omega
        have xb : ((db k : Nat) : Int) ≤ 65535 := by have := Hb.out k (by omega); omega
        have xb0 : (0 : Int) ≤ (db k : Nat) := by omega
        have eb : wr.cell? ⟨bb, k, none⟩ = some (.int .u64 (db k : Nat)) := (HBEL.out.cell (p := ⟨bb, k, none⟩) HB.out.1).trans (HB.out.2 k (by omega))
        have hkb : (k : Int) < (m : Int) := by omega
        obtain ⟨x, hx⟩ : ∃ x : Nat, c + da k + db k = x := ⟨_, rfl⟩
        have hxi : (c : Int) + (da k : Nat) + (db k : Nat) = (x : Int) := by omega
        have hxb : x < 200000 := by have := HC.out; omega
        have hand : bits .and .u64 (x : Int) 65535 = ((x % 65536 : Nat) : Int) := and_low16 x (by omega)
        have hxl : (x : Int) < 200000 := by omega
        have hx0 : (0 : Int) ≤ x := by omega
        have HAND := Lib.hid hand; clear hand
        have HX := Lib.hid hx; clear hx
        go_wp2_with (at_builtin; refine wpList_append_own _ rfl (.tmp 43) (.tmp 46) 56 rfl w.heap.size 59 i0 (.int .u64 0) 1 8 Try.underlying56 hi hz0 hz1 hz2 rfl (by decide) _ _ _ rfl (HO.out.alloc _) ⟨wr.heap.size, 0, none⟩ 1 1 [.int .u64 (bits .and .u64 (x : Int) 65535)] rfl rfl ?d111 ?d112 ?d113 ?d114 ?d115 ?_)
        try (case d111 => exact cell_one_new _ _ _)
        try (case d112 => first | rfl | (intro u hu; simp at hu; subst hu; rfl))
        try (case d113 => unfold maxLen; omega)
        try (case d114 => omega)
        try (case d115 => have := HSZ.out; first | omega | (simp; omega))
        intro v' w1 hown' hgrow _
        rw [HAND.out] at hown'
        have ea' : pad da n k = da k := by simp only [pad]; rw [if_pos (by omega)]
        have eb' : pad db m k = db k := by simp only [pad]; rw [if_pos (by omega)]
        have HN := Lib.hid (sum_next (x := x) (da := da) (db := db) (n := n) (m := m) HC.out HO.out HNS.out HVAL.out HBEL.out HSZ.out (by rw [ea', eb']; have := HX.out; omega) (by rw [ea']; omega) (by rw [eb']; omega) hown' hgrow)
        clear hown' hgrow ea' eb'
        go_wp2
        go_roundw
        case rel => exact ⟨k + 1, x / 65536, by omega, by go_num, by go_num, HN⟩
        case measure => simp [intOf]; omega
      · have xa : ((da k : Nat) : Int) ≤ 65535 := by have := Ha.out k (by omega); omega
        have xa0 : (0 : Int) ≤ (da k : Nat) := by omega
        have ea : wr.cell? ⟨ba, k, none⟩ = some (.int .u64 (da k : Nat)) := (HBEL.out.cell (p := ⟨ba, k, none⟩) HA.out.1).trans (HA.out.2 k (by omega))
        have hka : (k : Int) < (n : Int) := by omega
        have hkb : ¬ (k : Int) < (m : Int) := by omega
        obtain ⟨x, hx⟩ : ∃ x : Nat, c + da k = x := ⟨_, rfl⟩
        have hxi : (c : Int) + (da k : Nat) = (x : Int) := by omega
        have hxb : x < 200000 := by have := HC.out; omega
        have hand : bits .and .u64 (x : Int) 65535 = ((x % 65536 : Nat) : Int) := and_low16 x (by omega)
        have hxl : (x : Int) < 200000 := by omega
        have hx0 : (0 : Int) ≤ x := by omega
        have HAND := Lib.hid hand; clear hand
        have HX := Lib.hid hx; clear hx
        go_wp2_with (at_builtin; refine wpList_append_own _ rfl (.tmp 43) (.tmp 46) 56 rfl w.heap.size 59 i0 (.int .u64 0) 1 8 Try.underlying56 hi hz0 hz1 hz2 rfl (by decide) _ _ _ rfl (HO.out.alloc _) ⟨wr.heap.size, 0, none⟩ 1 1 [.int .u64 (bits .and .u64 (x : Int) 65535)] rfl rfl ?d101 ?d102 ?d103 ?d104 ?d105 ?_)
        try (case d101 => exact cell_one_new _ _ _)
        try (case d102 => first | rfl | (intro u hu; simp at hu; subst hu; rfl))
        try (case d103 => unfold maxLen; omega)
        try (case d104 => omega)
        try (case d105 => have := HSZ.out; first | omega | (simp; omega))
        intro v' w1 hown' hgrow _
        rw [HAND.out] at hown'
        have ea' : pad da n k = da k := by simp only [pad]; rw [if_pos (by omega)]
        have eb' : pad db m k = 0 := by simp only [pad]; rw [if_neg (by omega)]
        have HN := Lib.hid (sum_next (x := x) (da := da) (db := db) (n := n) (m := m) HC.out HO.out HNS.out HVAL.out HBEL.out HSZ.out (by rw [ea', eb']; have := HX.out; omega) (by rw [ea']; omega) (by rw [eb']; omega) hown' hgrow)
        clear hown' hgrow ea' eb'
        go_wp2
        go_roundw
        case rel => exact ⟨k + 1, x / 65536, by omega, by go_num, by go_num, HN⟩
        case measure => simp [intOf]; omega
    · by_cases h2 : k < m
      · have hka : ¬ (k : Int) < (n : Int) := by omega
        have xb : ((db k : Nat) : Int) ≤ 65535 := by have := Hb.out k (by omega); omega
        have xb0 : (0 : Int) ≤ (db k : Nat) := by omega
        have eb : wr.cell? ⟨bb, k, none⟩ = some (.int .u64 (db k : Nat)) := (HBEL.out.cell (p := ⟨bb, k, none⟩) HB.out.1).trans (HB.out.2 k (by omega))
        have hkb : (k : Int) < (m : Int) := by omega
        obtain ⟨x, hx⟩ : ∃ x : Nat, c + db k = x := ⟨_, rfl⟩
        have hxi : (c : Int) + (db k : Nat) = (x : Int) := by omega
        have hxb : x < 200000 := by have := HC.out; omega
        have hand : bits .and .u64 (x : Int) 65535 = ((x % 65536 : Nat) : Int) := and_low16 x (by omega)
        have hxl : (x : Int) < 200000 := by omega
        have hx0 : (0 : Int) ≤ x := by omega
        have HAND := Lib.hid hand; clear hand
        have HX := Lib.hid hx; clear hx
        go_wp2_with (at_builtin; refine wpList_append_own _ rfl (.tmp 43) (.tmp 46) 56 rfl w.heap.size 59 i0 (.int .u64 0) 1 8 Try.underlying56 hi hz0 hz1 hz2 rfl (by decide) _ _ _ rfl (HO.out.alloc _) ⟨wr.heap.size, 0, none⟩ 1 1 [.int .u64 (bits .and .u64 (x : Int) 65535)] rfl rfl ?d011 ?d012 ?d013 ?d014 ?d015 ?_)
        try (case d011 => exact cell_one_new _ _ _)
        try (case d012 => first | rfl | (intro u hu; simp at hu; subst hu; rfl))
        try (case d013 => unfold maxLen; omega)
        try (case d014 => omega)
        try (case d015 => have := HSZ.out; first | omega | (simp; omega))
        intro v' w1 hown' hgrow _
        rw [HAND.out] at hown'
        have ea' : pad da n k = 0 := by simp only [pad]; rw [if_neg (by omega)]
        have eb' : pad db m k = db k := by simp only [pad]; rw [if_pos (by omega)]
        have HN := Lib.hid (sum_next (x := x) (da := da) (db := db) (n := n) (m := m) HC.out HO.out HNS.out HVAL.out HBEL.out HSZ.out (by rw [ea', eb']; have := HX.out; omega) (by rw [ea']; omega) (by rw [eb']; omega) hown' hgrow)
        clear hown' hgrow ea' eb'
        go_wp2
        go_roundw
        case rel => exact ⟨k + 1, x / 65536, by omega, by go_num, by go_num, HN⟩
        case measure => simp [intOf]; omega
      · have hka : ¬ (k : Int) < (n : Int) := by omega
        have hkb : ¬ (k : Int) < (m : Int) := by omega
        go_wp2_with (at_builtin; refine wpList_append_own _ rfl (.tmp 50) (.tmp 52) 56 rfl w.heap.size 59 i0 (.int .u64 0) 1 8 Try.underlying56 hi hz0 hz1 hz2 rfl (by decide) _ _ _ rfl (HO.out.alloc _) ⟨wr.heap.size, 0, none⟩ 1 1 [.int .u64 (c : Int)] rfl rfl ?e1 ?e2 ?e3 ?e4 ?e5 ?_)
        try (case e1 => exact cell_one_new _ _ _)
        try (case e2 => first | rfl | (intro u hu; simp at hu; subst hu; rfl))
        try (case e3 => unfold maxLen; omega)
        try (case e4 => omega)
        try (case e5 => have := HSZ.out; first | omega | (simp; omega))
        intro v' w1 hown' hgrow _
        obtain rfl : k = max n m := by omega
        obtain ⟨ho, hb'⟩ := push_rel HO.out HBEL.out (by have := HSZ.out; omega) hown' hgrow
        have R := made_of (Nat.le_refl _) ho (by omega) (upd_lt HNS.out (by have := HC.out; omega)) hb'
        rw [vd_upd, HVAL.out, vd_pad _ _ _ (by omega), vd_pad _ _ _ (by omega)] at R
        have HR := Lib.hid R
        clear hown' hgrow ho hb' R
        go_wp2
        go_ret
        exact HR.out
end Go.Proofs.Ytgegkffigjogcaa
namespace Go.Proofs.Ytgegkffigjogcaa
open Go.RowKit

/-- The digits of parts of 32 bits. -/
def dgf (f : Nat → Nat) (j : Nat) : Nat := if j % 2 = 0 then f (j / 2) % 65536 else f (j / 2) / 65536
theorem dgf_lt {f : Nat → Nat} {n : Nat} (h : ∀ j, j < n → f j < 4294967296) : ∀ j, j < 2 * n → dgf f j < 65536 := fun j hj => by
  unfold dgf
  have := h (j / 2) (by omega)
  split <;> omega
theorem dgf_vd (f : Nat → Nat) : ∀ n, vd (dgf f) (2 * n) = vb 4294967296 f n
  | 0 => rfl
  | n + 1 => by
    rw [show 2 * (n + 1) = 2 * n + 1 + 1 by omega]
    simp only [vd, vb]
    rw [dgf_vd f n]
    have e0 : dgf f (2 * n) = f n % 65536 := by
      unfold dgf; rw [if_pos (by omega), show 2 * n / 2 = n by omega]
    have e1 : dgf f (2 * n + 1) = f n / 65536 := by
      unfold dgf; rw [if_neg (by omega), show (2 * n + 1) / 2 = n by omega]
    rw [e0, e1, Nat.pow_succ, Nat.pow_mul, show (65536 : Nat) ^ 2 = 4294967296 by rfl, Nat.add_assoc]
    congr 1
    rw [Nat.mul_assoc, ← Nat.mul_add]
    congr 1
    omega
theorem dgf_snoc (f : Nat → Nat) (k : Nat) : dl (dgf f) (2 * k) ++ [.int .u64 ((f k % 65536 : Nat) : Int), .int .u64 ((f k / 65536 : Nat) : Int)] = dl (dgf f) (2 * k + 2) := by
  unfold dl
  rw [List.range_succ, List.range_succ, List.map_append, List.map_append, List.append_assoc]
  congr 1
  have e0 : dgf f (2 * k) = f k % 65536 := by
    unfold dgf; rw [if_pos (by omega), show 2 * k / 2 = k by omega]
  have e1 : dgf f (2 * k + 1) = f k / 65536 := by
    unfold dgf; rw [if_neg (by omega), show (2 * k + 1) / 2 = k by omega]
  simp only [List.map_cons, List.map_nil, e0, e1, List.cons_append, List.nil_append]
theorem and_u32_low16 (z : Nat) (h : z < 4294967296) : bits .and .u32 (z : Int) 65535 = ((z % 65536 : Nat) : Int) := by
  have := bits_and_u32_nat z 65535 h (by omega)
  rw [show z &&& 65535 = z % 65536 from Nat.and_two_pow_sub_one_eq_mod z 16] at this
  exact this
theorem bytes_new (w : World) (x y : Value) (t : TypeId) : ∀ j u, [x, y][j]? = some u → (w.alloc (.cells #[x, y] t)).cell? ((⟨w.heap.size, 0, none⟩ : Addr).add j) = some u := by
  intro j u hj
  match j, hj with
  | 0, hj => simp at hj; subst hj; rw [show (⟨w.heap.size, 0, none⟩ : Addr).add 0 = ⟨w.heap.size, 0, none⟩ from rfl, cell_of_row _ _ _ _ _ _ (heap_alloc_new _ _)]; rfl
  | 1, hj => simp at hj; subst hj; rw [show (⟨w.heap.size, 0, none⟩ : Addr).add 1 = ⟨w.heap.size, 1, none⟩ from rfl, cell_of_row _ _ _ _ _ _ (heap_alloc_new _ _)]; rfl
theorem two_u64 (x y : Nat) : ∀ u ∈ [Value.int .u64 (x : Int), .int .u64 (y : Int)], u.oneCell' = true := fun u hu => by
  simp only [List.mem_cons, List.not_mem_nil, or_false] at hu
  rcases hu with rfl | rfl <;> rfl
theorem dig_next {w wr w1 : World} {u v' X Y : Value} {k lo hi : Nat} {f : Nat → Nat} (h1 : wr.ownsRow w.heap.size 59 1 u (2 * k) (dl (dgf f) (2 * k))) (h2 : Below w.heap.size w wr) (hlo : f k % 65536 = lo) (hhi : f k / 65536 = hi)
    (hown' : w1.ownsRow w.heap.size 59 1 v' (2 * k + 2) (dl (dgf f) (2 * k) ++ [.int .u64 (lo : Int), .int .u64 (hi : Int)])) (hgrow : ((wr.alloc (.cells #[X, Y] 59)).drew).grownBy w1 u.ownBlock) :
    w1.ownsRow w.heap.size 59 1 v' (2 * (k + 1)) (dl (dgf f) (2 * (k + 1))) ∧ Below w.heap.size w w1 := by
  rw [← hlo, ← hhi, dgf_snoc] at hown'
  exact ⟨hown', (h2.drew.alloc h2.size _).grown hgrow (by have := h2.size; simp; omega) (fun j hj => (h1.lt j hj).1)⟩
theorem region_still {P : Program} {id : Nat} {Q : Exit → Act → World → Prop} {a : Act} {w : World} {l : List Oper} (n : Nat) (hm : P.follows .mixedOrders = true) (hB : Region.lexTailB .any l.toArray n = true)
    (h : wpStill P l.toArray w.drew (fun a' => wpList P l.toArray Q (l.drop n) a' w.drew) (l.take n) a) : (Code.region id l.toArray true).wp P Q a w := wp_region_still_tail n hm hB h
set_option maxRecDepth 100000 in
set_option maxHeartbeats 1000000 in
theorem ndigits_walk (a : Option Addr) (n cap : Nat) (f : Nat → Nat) (hn : (n : Int) ≤ 35184372088832) (hf : ∀ j, j < n → f j < 4294967296) (hn2 : n ≤ 2000000) (w : World) (hP : RdA w a n f) :
    Calls Try.prog 47 #[.slice a n cap] w fun e w' => ∃ g c, e = .returned (.slice (some ⟨g, 0, none⟩) (2 * n) c) ∧ w'.ownsRow w.heap.size 59 1 (.slice (some ⟨g, 0, none⟩) (2 * n) c) (2 * n) (dl (dgf f) (2 * n)) ∧ Below w.heap.size w w' := by
  have HP := Lib.hid hP; clear hP
  have HF := Lib.hid hf; clear hf
  obtain ⟨i0, hi, hz0, hz1, hz2⟩ := info_parts info22
  go_enter Try.func47, Try.ntmps47
  go_wp2
  go_loopw [3, 4] (fun v i wr => ∃ k : Nat, k ≤ n ∧ i = .int .i64 k ∧ Hid (wr.ownsRow w.heap.size 59 1 v (2 * k) (dl (dgf f) (2 * k)) ∧ Below w.heap.size w wr ∧ ∃ g c, v = .slice (some ⟨g, 0, none⟩) (2 * k) c))
    (fun _ i _ => n - (intOf i).toNat)
  case atStart =>
    refine ⟨0, by omega, rfl, Lib.hid ⟨?_, by go_grown, _, _, rfl⟩⟩
    exact World.ownsRow_made (base := w.heap.size) (e := 59) (size := 1) w #[] 0 (by simp) (by decide) (by simp)
  case round =>
    obtain ⟨k, hk, rfl, H⟩ := hrel
    have hk0 : (0 : Int) ≤ k := by omega
    by_cases hlt : k < n
    · have hlt' : (k : Int) < n := by omega
      obtain ⟨p, hix, hpb, -, cp⟩ := HP.out.at_ cap k hlt
      have cp' : wr.cell? p = some (.int .u32 (f k : Nat)) := (H.out.2.1.cell hpb).trans cp
      have hfk := HF.out k hlt
      have hfi : ((f k : Nat) : Int) < 4294967296 := by omega
      have hf0 : (0 : Int) ≤ ((f k : Nat) : Int) := by omega
      obtain ⟨lo, hlo⟩ : ∃ lo, f k % 65536 = lo := ⟨_, rfl⟩
      obtain ⟨hi', hhi⟩ : ∃ hi, f k / 65536 = hi := ⟨_, rfl⟩
      have hand := and_u32_low16 (f k) hfk
      rw [hlo] at hand
      have hlo0 : (0 : Int) ≤ lo := by omega
      have hlo1 : (lo : Int) < 65536 := by omega
      have hhi0 : (0 : Int) ≤ hi' := by omega
      have hhi1 : (hi' : Int) < 65536 := by omega
      have hw1 : IntKind.u64.wrap (lo : Int) = lo := by rw [IntKind.wrap_u64]; omega
      have hw2 : IntKind.u64.wrap (hi' : Int) = hi' := by rw [IntKind.wrap_u64]; omega
      have hdv : ((f k : Nat) : Int) / 65536 = (hi' : Int) := by omega
      have HLH := Lib.hid (And.intro hlo hhi)
      have HPB := Lib.hid hpb
      clear hpb cp hfk hfi hf0 hlo hhi hlo0 hlo1 hhi0 hhi1
      go_wp2_with fail
      have hrow := H.out.1
      have hbel := Lib.hid H.out.2.1
      have hbas : w.heap.size ≤ wr.heap.size := H.out.2.1.size
      have hnb : u3.ownBlock ≠ some p.block := fun h => by
        have h1 := (H.out.1.lt _ h).1
        have h2 := HPB.out
        omega
      have HO := Lib.hid H.out.1
      clear H
      go_region_held3 (fun w' => w'.cell? p = some (.int .u32 (f k : Nat)))
        (first | go_keep | (rw [hgrow.cell_far _ (by have := HPB.out; simp; omega) (Ne.symm hnb)]; assumption))
        ((refine step_append_lies _ (by rfl) _ _ _ (by rfl) w.heap.size 59 i0 _ 1 8 Try.underlying56 hi hz0 hz1 hz2 rfl (by decide) u3 (2 * k) (dl (dgf f) (2 * k)) (by rfl) ((HO.out.alloc _).drew) ⟨wr.heap.size, 0, none⟩ 2 2 [.int .u64 (lo : Int), .int .u64 (hi' : Int)] (by rfl) (by rfl) (World.news_of_block (cs := #[.int .u64 (lo : Int), .int .u64 (hi' : Int)]) (t := 59) (fr := (0, 0)) (heap_alloc_new wr _)) (two_u64 lo hi') (by omega) (by unfold maxLen; omega) (by omega) (by simp; omega) (wr.heap.size + 1) (by simp) ?_; intro gg cap' w1 hown1 hgrow hat hlt))
      have HN0 := dig_next (f := f) (w := w) HO.out hbel.out HLH.out.1 HLH.out.2 hown1 hgrow
      have HN := Lib.hid (And.intro HN0.1 (And.intro HN0.2 (⟨gg, cap', rfl⟩ : ∃ g c, Value.slice (some ⟨gg, 0, none⟩) (2 * k + 2) cap' = .slice (some ⟨g, 0, none⟩) (2 * (k + 1)) c)))
      clear HN0
      clear hown1 hgrow hat hlt
      all_goals
        go_wp2
        go_roundw
        case rel => exact ⟨k + 1, by omega, by go_num, HN⟩
        case measure => simp [intOf]; omega
    · obtain rfl : k = n := by omega
      go_wp2
      go_ret
      obtain ⟨h1, h2, g, c, rfl⟩ := H.out
      exact ⟨g, c, rfl, h1, h2⟩
/-- At most N digits of 16 bits, their number V. -/
def DD (N V : Nat) (v : Value) (w : World) : Prop := ∃ b n cap d, n ≤ N ∧ v = .slice (some ⟨b, 0, none⟩) n cap ∧ Dg w b n d ∧ (∀ j, j < n → d j < 65536) ∧ vd d n = V
theorem DD.below {N V : Nat} {v : Value} {w w' : World} (h : DD N V v w) (hb : Below w.heap.size w w') : DD N V v w' := by
  obtain ⟨b, n, cap, d, h1, h2, h3, h4⟩ := h; exact ⟨b, n, cap, d, h1, h2, h3.below hb, h4⟩
theorem dd_of {w : World} {base g n cap : Nat} {d : Nat → Nat} (h : w.ownsRow base 59 1 (.slice (some ⟨g, 0, none⟩) n cap) n (dl d n)) (hd : ∀ j, j < n → d j < 65536) : DD n (vd d n) (.slice (some ⟨g, 0, none⟩) n cap) w := by
  rcases h.2 with ⟨h1, -⟩ | ⟨g2, cap2, cur, h1, -, hc, -, -, hcs, ht⟩
  · cases h1
  · injection h1 with h1 _ h4
    injection h1 with h1
    injection h1 with h1
    subst h1
    refine ⟨g, n, cap, d, Nat.le_refl _, rfl, ⟨(Array.getElem?_eq_some_iff.1 hc).1, fun j hj => ?_⟩, hd, rfl⟩
    rw [cell_of_row _ _ _ _ _ _ hc, ← dl_at d n j hj, ← ht]
    simp only [Nat.mul_one, List.getElem?_take, hj, if_true]
    simp
-- WHAT THE REFERENCE's Digits COMES TO.
theorem digits_rp {V k : Nat} {v : Value} {w : World} (hk : k ≤ 2000000) (hV : V < 4294967296 ^ k) (h : RP V v w) : Calls Try.prog 47 #[v] w fun e w' => ∃ u, e = .returned u ∧ DD (2 * k) V u w' ∧ Below w.heap.size w w' := by
  obtain ⟨g, n, cap, f, rfl, hn, rfl, ht⟩ := h
  have hnk := (plain_len (P := 4294967296) (by omega) hn.lt ht).1 hV
  refine (ndigits_walk _ n cap f hn.few hn.lt (by omega) w hn.rd).mono ?_
  rintro e w' ⟨b, c, rfl, h1, h2⟩
  have h3 := dd_of h1 (dgf_lt hn.lt)
  rw [dgf_vd] at h3
  obtain ⟨b', n', c', d', q1, q2⟩ := h3
  exact ⟨_, rfl, ⟨b', n', c', d', by omega, q2⟩, h2⟩
end Go.Proofs.Ytgegkffigjogcaa
namespace Go.Proofs.Ytgegkffigjogcaa
open Go.RowKit

/-- The parts of digits. -/
def ofd (d : Nat → Nat) (n k : Nat) : Nat := pad d n (2 * k) + 65536 * pad d n (2 * k + 1)
theorem ofd_lt {d : Nat → Nat} {n : Nat} (h : ∀ j, j < n → d j < 65536) (k : Nat) : ofd d n k < 4294967296 := by
  have hp : ∀ j, pad d n j < 65536 := fun j => by
    unfold pad; split
    · exact h j (by assumption)
    · omega
  unfold ofd
  have := hp (2 * k)
  have := hp (2 * k + 1)
  omega
theorem ofd_vb (d : Nat → Nat) (n : Nat) : ∀ k, vb 4294967296 (ofd d n) k = vd (pad d n) (2 * k)
  | 0 => rfl
  | k + 1 => by
    rw [show 2 * (k + 1) = 2 * k + 1 + 1 by omega]
    simp only [vd, vb]
    rw [ofd_vb d n k, Nat.pow_succ, Nat.pow_mul, show (65536 : Nat) ^ 2 = 4294967296 by rfl, Nat.add_assoc]
    congr 1
    unfold ofd
    rw [Nat.mul_add, Nat.mul_assoc]
theorem pl_snoc (f : Nat → Nat) (k : Nat) : pl f k ++ [.int .u32 ((f k : Nat) : Int)] = pl f (k + 1) := by
  unfold pl
  rw [List.range_succ, List.map_append]
  rfl
theorem or_u32 (a b : Nat) (ha : a < 4294967296) (hb : b < 4294967296) : bits .or .u32 (a : Int) (b : Int) = ((a ||| b : Nat) : Int) := by
  have hx : a ||| b < 2 ^ 32 := Nat.or_lt_two_pow (by omega) (by omega)
  have h1 : (BitVec.ofInt 32 (a : Int)).toNat = a := by
    rw [BitVec.ofInt_natCast, BitVec.toNat_ofNat]; exact Nat.mod_eq_of_lt (by omega)
  have h2 : (BitVec.ofInt 32 (b : Int)).toNat = b := by
    rw [BitVec.ofInt_natCast, BitVec.toNat_ofNat]; exact Nat.mod_eq_of_lt (by omega)
  show IntKind.u32.wrap ((BitVec.ofInt 32 (a : Int) ||| BitVec.ofInt 32 (b : Int)).toNat : Int) = _
  rw [BitVec.toNat_or, h1, h2, IntKind.wrap_u32]
  omega
theorem or_high (lo hi : Nat) (h : lo < 65536) (h2 : hi < 65536) : bits .or .u32 (lo : Int) ((hi : Int) * 65536) = ((lo + 65536 * hi : Nat) : Int) := by
  have := or_u32 lo (hi * 65536) (by omega) (by omega)
  rw [Int.natCast_mul] at this
  rw [show ((hi : Int) * 65536) = (hi : Int) * ((65536 : Nat) : Int) by rfl, this, Nat.or_comm, show hi * 65536 = 2 ^ 16 * hi by omega, ← Nat.two_pow_add_eq_or_of_lt (by omega)]
  congr 1
  omega
theorem of_next {w wr w1 : World} {u X : Value} {k y g cap : Nat} {f : Nat → Nat} (h1 : wr.ownsRow w.heap.size 32 1 u k (pl f k)) (h2 : Below w.heap.size w wr) (hy : y = f k)
    (hown' : w1.ownsRow w.heap.size 32 1 (.slice (some ⟨g, 0, none⟩) (k + 1) cap) (k + 1) (pl f k ++ [.int .u32 (y : Int)])) (hgrow : (wr.alloc (.cells #[X] 32)).grownBy w1 u.ownBlock) :
    w1.ownsRow w.heap.size 32 1 (.slice (some ⟨g, 0, none⟩) (k + 1) cap) (k + 1) (pl f (k + 1)) ∧ Below w.heap.size w w1 ∧ ∃ g' c, Value.slice (some ⟨g, 0, none⟩) (k + 1) cap = .slice (some ⟨g', 0, none⟩) (k + 1) c := by
  rw [hy, pl_snoc] at hown'
  exact ⟨hown', (h2.alloc h2.size _).grown hgrow (by have := h2.size; simp; omega) (fun j hj => (h1.lt j hj).1), g, cap, rfl⟩
theorem rp_of' {w : World} {base g n cap : Nat} {f : Nat → Nat} (h : w.ownsRow base 32 1 (.slice (some ⟨g, 0, none⟩) n cap) n (pl f n)) (hn : (n : Int) ≤ 35184372088832) (hf : ∀ j, j < n → f j < 4294967296) : AN (vb 4294967296 f n) (.slice (some ⟨g, 0, none⟩) n cap) w := by
  obtain ⟨a, n', cap', f', e, hv, he⟩ := row_nn h hn hf
  injection e with e1 e2 e3
  subst e1 e2 e3
  exact ⟨n, f', ⟨_, cap, rfl, hv.cap, (fun h => by cases h), hv.rd⟩, hn, hv.lt, he⟩
set_option maxRecDepth 100000 in
set_option maxHeartbeats 1000000 in
theorem of_walk (b n cap : Nat) (d : Nat → Nat) (hn : (n : Int) ≤ 100000) (hd : ∀ j, j < n → d j < 65536) (w : World) (hP : Dg w b n d) :
    Calls Try.prog 63 #[.slice (some ⟨b, 0, none⟩) n cap] w fun e w' => ∃ u, e = .returned u ∧ RP (vd d n) u w' ∧ Below w.heap.size w w' := by
  have HP := Lib.hid hP; clear hP
  have HD := Lib.hid hd; clear hd
  have HPL := Lib.hid (fun V v w' (h : AN V v w') => plain_an h)
  obtain ⟨i0, hi, hz0, hz1, hz2⟩ := info_parts info32
  have hn0 : (0 : Int) ≤ n := by omega
  go_enter Try.func63, Try.ntmps63
  go_wp2
  go_loopw [3, 4] (fun v i wr => ∃ k j : Nat, k ≤ n + 1 ∧ j = 2 * k ∧ j ≤ n + 1 ∧ i = .int .i64 j ∧ Hid (wr.ownsRow w.heap.size 32 1 v k (pl (ofd d n) k) ∧ Below w.heap.size w wr ∧ ∃ g c, v = .slice (some ⟨g, 0, none⟩) k c))
    (fun _ i _ => n + 1 - (intOf i).toNat)
  case atStart =>
    refine ⟨0, 0, by omega, rfl, by omega, rfl, Lib.hid ⟨?_, by go_grown, _, _, rfl⟩⟩
    exact World.ownsRow_made (base := w.heap.size) (e := 32) (size := 1) w #[] 0 (by simp) (by decide) (by simp)
  case round =>
    obtain ⟨k, j, hk, hjk, hj, rfl, H⟩ := hrel
    have HJ := Lib.hid hjk; clear hjk
    have hj0 : (0 : Int) ≤ j := by omega
    have hjb : (j : Int) ≤ 100002 := by omega
    by_cases hlt : j < n
    · have hlt' : (j : Int) < n := by omega
      have ca : wr.cell? ⟨b, j, none⟩ = some (.int .u64 (d j : Nat)) := (H.out.2.1.cell (p := ⟨b, j, none⟩) HP.out.1).trans (HP.out.2 j hlt)
      have h1 := HD.out j hlt
      have hw1 : IntKind.u32.wrap ((d j : Nat) : Int) = ((d j : Nat) : Int) := by rw [IntKind.wrap_u32]; omega
      have hbas : w.heap.size ≤ wr.heap.size := H.out.2.1.size
      have HO := Lib.hid H.out.1
      have HB := Lib.hid H.out.2.1
      by_cases h2 : j + 1 < n
      · have h2' : (j : Int) + 1 < n := by omega
        obtain ⟨q, hq⟩ : ∃ q : Nat, (j : Int) + 1 = (q : Int) := ⟨j + 1, by omega⟩
        have hqj : q = j + 1 := by omega
        have hq0 : (0 : Int) ≤ q := by omega
        have hq1 : (q : Int) < n := by omega
        have cb : wr.cell? ⟨b, q, none⟩ = some (.int .u64 (d q : Nat)) := (H.out.2.1.cell (p := ⟨b, q, none⟩) HP.out.1).trans (HP.out.2 q (by omega))
        have h3 := HD.out q (by omega)
        have hw2 : IntKind.u32.wrap ((d q : Nat) : Int) = ((d q : Nat) : Int) := by rw [IntKind.wrap_u32]; omega
        have hsh : IntKind.u32.wrap (((d q : Nat) : Int) * 65536) = ((d q * 65536 : Nat) : Int) := by rw [IntKind.wrap_u32]; omega
        have hor := or_high (d j) (d q) h1 h3
        have ho : d j + 65536 * d q = ofd d n k := by
          unfold ofd pad
          rw [← HJ.out, if_pos hlt, if_pos h2, hqj]
        rw [ho] at hor
        have HOR := Lib.hid hor
        clear h1 h3 ho hqj hor H
        go_wp2_with (at_builtin; refine wpList_append_lies _ rfl _ _ 23 rfl w.heap.size 32 i0 (.int .u32 0) 1 4 Try.underlying23 hi hz0 hz1 hz2 rfl (by decide) u3 k (pl (ofd d n) k) rfl (HO.out.alloc _) ⟨wr.heap.size, 0, none⟩ 1 1 [.int .u32 (bits .or .u32 ((d j : Nat) : Int) (((d q : Nat) : Int) * 65536))] rfl rfl (cell_one_new _ _ _) (by intro u hu; simp at hu; subst hu; rfl) (by omega) (by unfold maxLen; omega) (by omega) (by simp; omega) (wr.heap.size + 1) (by simp) ?_; intro g cap' w1 hown1 hgrow hat hlt1)
        rw [HOR.out] at hown1
        have HN := Lib.hid (of_next HO.out HB.out rfl hown1 hgrow)
        clear hown1 hgrow hat hlt1 HO HB HOR
        go_wp2
        go_roundw
        case rel => exact ⟨k + 1, j + 2, by have := HJ.out; omega, by have := HJ.out; omega, by omega, by go_num, HN⟩
        case measure => simp [intOf]; omega
      · have h2' : ¬ (j : Int) + 1 < n := by omega
        have ho : ((d j : Nat) : Int) = ((ofd d n k : Nat) : Int) := by
          unfold ofd pad
          rw [← HJ.out, if_pos hlt, if_neg h2]
          rfl
        have HOR := Lib.hid ho
        clear h1 ho H
        go_wp2_with (at_builtin; refine wpList_append_lies _ rfl _ _ 23 rfl w.heap.size 32 i0 (.int .u32 0) 1 4 Try.underlying23 hi hz0 hz1 hz2 rfl (by decide) u3 k (pl (ofd d n) k) rfl (HO.out.alloc _) ⟨wr.heap.size, 0, none⟩ 1 1 [.int .u32 (((d j : Nat) : Int))] rfl rfl (cell_one_new _ _ _) (by intro u hu; simp at hu; subst hu; rfl) (by omega) (by unfold maxLen; omega) (by omega) (by simp; omega) (wr.heap.size + 1) (by simp) ?_; intro g cap' w1 hown1 hgrow hat hlt1)
        rw [HOR.out] at hown1
        have HN := Lib.hid (of_next HO.out HB.out rfl hown1 hgrow)
        clear hown1 hgrow hat hlt1 HO HB HOR
        go_wp2
        go_roundw
        case rel => exact ⟨k + 1, j + 2, by have := HJ.out; omega, by have := HJ.out; omega, by omega, by go_num, HN⟩
        case measure => simp [intOf]; omega
    · have hlt' : ¬ (j : Int) < n := by omega
      obtain ⟨h1, h2, g, c, rfl⟩ := H.out
      have hk2 : n ≤ 2 * k := by have := HJ.out; omega
      have hr := ((rp_of' h1 (by omega) (fun i _ => ofd_lt HD.out i)) : AN _ _ wr)
      rw [ofd_vb, vd_pad _ _ _ hk2] at hr
      have HA := Lib.hid hr
      have HB := Lib.hid h2
      clear hr h1 h2 hk2 H
      go_wp2_with fail
      refine (HPL.out _ _ _ HA.out).mono ?_
      rintro e w2 ⟨u, rfl, hu, hb⟩
      have HF := Lib.hid (And.intro hu (HB.out.trans (hb.mono HB.out.size)))
      clear hu hb
      go_wp2
      go_ret
      exact ⟨u, rfl, HF.out⟩
-- WHAT THE REFERENCE's Of COMES TO.
theorem of_dd {N V : Nat} {v : Value} {w : World} (hN : N ≤ 100000) (h : DD N V v w) : Calls Try.prog 63 #[v] w fun e w' => ∃ u, e = .returned u ∧ RP V u w' ∧ Below w.heap.size w w' := by
  obtain ⟨b, n, cap, d, h1, rfl, h2, h3, rfl⟩ := h
  exact of_walk b n cap d (by omega) h3 w h2
end Go.Proofs.Ytgegkffigjogcaa
