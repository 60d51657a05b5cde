/- Numbers by parts, to any base: sums, differences, products, one step of a division, a whole one; the length without noughts. No program is named here. -/
import Derived.Test.YtgegkffigjogcaaDg
namespace Go.Proofs.Ytgegkffigjogcaa
/-- The number of n parts, to whatever base. -/
def vb (P : Nat) (f : Nat → Nat) : Nat → Nat
  | 0 => 0
  | n + 1 => vb P f n + P ^ n * f n
theorem vb_congr {P : Nat} {f g : Nat → Nat} {n : Nat} (h : ∀ j, j < n → f j = g j) : vb P f n = vb P g n := by
  induction n with
  | zero => rfl
  | succ n ih => simp only [vb]; rw [ih (fun j hj => h j (by omega)), h n (by omega)]
theorem vb_lt {P : Nat} {f : Nat → Nat} {n : Nat} (h : ∀ j, j < n → f j < P) : vb P f n < P ^ n := by
  induction n with
  | zero => simp [vb]
  | succ n ih =>
    have h1 := ih (fun j hj => h j (by omega))
    have h0 := h n (by omega)
    have h2 : P ^ n * (f n + 1) ≤ P ^ n * P := Nat.mul_le_mul_left _ h0
    simp only [vb]
    rw [Nat.pow_succ]
    rw [Nat.mul_add, Nat.mul_one] at h2
    omega
theorem vb_zero {P : Nat} {f : Nat → Nat} {n : Nat} (h : ∀ j, j < n → f j = 0) : vb P f n = 0 := by
  induction n with
  | zero => rfl
  | succ n ih => simp only [vb]; rw [ih (fun j hj => h j (by omega)), h n (by omega)]; rfl
/-- High parts and low parts. -/
theorem vb_split (P : Nat) (f : Nat → Nat) (n : Nat) : ∀ m, vb P f (n + m) = vb P f n + P ^ n * vb P (fun j => f (n + j)) m
  | 0 => by simp [vb]
  | m + 1 => by
    rw [← Nat.add_assoc]
    simp only [vb]
    rw [vb_split P f n m, Nat.mul_add, Nat.pow_add, Nat.mul_assoc, Nat.add_assoc]
theorem vb_set (P : Nat) (o : Nat → Nat) (p y : Nat) : ∀ L, p < L → vb P (upd o p y) L + P ^ p * o p = vb P o L + P ^ p * y
  | 0, h => by omega
  | L + 1, h => by
    simp only [vb]
    by_cases e : p = L
    · subst e
      rw [vb_congr (f := upd o p y) (g := o) (fun j hj => by simp [upd, show ¬ j = p by omega])]
      simp only [upd, if_true]
      omega
    · have := vb_set P o p y L (by omega)
      rw [show upd o p y L = o L by simp [upd, show ¬ L = p by omega]]
      omega
/-- Each part out of the number. -/
theorem vb_digit {P : Nat} {f : Nat → Nat} {n : Nat} (h : ∀ j, j < n → f j < P) (j : Nat) (hj : j < n) : f j = vb P f n / P ^ j % P := by
  have hP : 0 < P := Nat.lt_of_le_of_lt (Nat.zero_le _) (h j hj)
  obtain ⟨m, rfl⟩ : ∃ m, n = j + (m + 1) := ⟨n - j - 1, by omega⟩
  rw [vb_split, Nat.add_mul_div_left _ _ (Nat.pow_pos hP), Nat.div_eq_of_lt (vb_lt (fun i hi => h i (by omega))), Nat.zero_add, Nat.add_comm m 1, vb_split]
  simp only [vb, Nat.pow_zero, Nat.one_mul, Nat.zero_add, Nat.add_zero, Nat.pow_one]
  rw [Nat.add_mul_mod_self_left, Nat.mod_eq_of_lt (h j hj)]
theorem vb_mod (P X : Nat) : ∀ n, vb P (fun j => X / P ^ j % P) n = X % P ^ n
  | 0 => by simp [vb, Nat.mod_one]
  | n + 1 => by simp only [vb]; rw [vb_mod P X n, Nat.pow_succ, Nat.mod_mul]

/-- Adding part by part. -/
theorem add_step {Q P N A B s c c' a b : Nat} (h : N + Q * c = A + B) (h2 : s + P * c' = a + b + c) : (N + Q * s) + Q * P * c' = (A + Q * a) + (B + Q * b) := by
  have e := congrArg (Q * ·) h2
  simp only [Nat.mul_add, ← Nat.mul_assoc] at e
  omega
/-- Taking part by part. -/
theorem sub_step {Q P N A B s c c' a b : Nat} (h : N + B = A + Q * c) (h2 : s + b + c = a + P * c') : (N + Q * s) + (B + Q * b) = (A + Q * a) + Q * P * c' := by
  have e := congrArg (Q * ·) h2
  simp only [Nat.mul_add, ← Nat.mul_assoc] at e
  omega
/-- Adding so many times. -/
theorem addt_step {Q P N A B s c c' a b x : Nat} (h : N + Q * c = A + B * x) (h2 : s + P * c' = b * x + a + c) : (N + Q * s) + Q * P * c' = (A + Q * a) + (B + Q * b) * x := by
  have e := congrArg (Q * ·) h2
  simp only [Nat.mul_add, ← Nat.mul_assoc] at e
  rw [Nat.add_mul]
  omega
/-- Taking so many times. -/
theorem subt_step {Q P N A B s c c' a b x : Nat} (h : N + B * x = A + Q * c) (h2 : s + b * x + c = a + P * c') : (N + Q * s) + (B + Q * b) * x = (A + Q * a) + Q * P * c' := by
  have e := congrArg (Q * ·) h2
  simp only [Nat.mul_add, ← Nat.mul_assoc] at e
  rw [Nat.add_mul]
  omega
/-- The guess of a part: never too little, too much by one at most. -/
theorem guess_bound {X Y H R M l l' B : Nat} (hX : X = H * M + l) (hl : l < M) (hY : Y = R * M + l') (hl' : l' < M) (hB : 0 < B) (hH : B - 1 ≤ H) (hH0 : 0 < H) (hq : Y < B * X) :
    Y / X ≤ min (R / H) (B - 1) ∧ min (R / H) (B - 1) ≤ Y / X + 1 := by
  have hX0 : 0 < X := by
    rcases Nat.eq_zero_or_pos X with h | h
    · rw [h] at hq; simp at hq
    · exact h
  have hqB : Y / X < B := by rw [Nat.div_lt_iff_lt_mul hX0]; exact hq
  refine ⟨?_, ?_⟩
  · refine Nat.le_min.2 ⟨?_, by omega⟩
    rw [Nat.le_div_iff_mul_le hH0]
    have h1 : Y / X * X ≤ Y := Nat.div_mul_le_self _ _
    have h2 : Y / X * (H * M) ≤ Y / X * X := Nat.mul_le_mul_left _ (by omega)
    have h3 : (Y / X * H) * M < (R + 1) * M := by
      rw [Nat.mul_assoc, Nat.add_mul, Nat.one_mul]; omega
    have := Nat.lt_of_mul_lt_mul_right h3
    omega
  · generalize hp : min (R / H) (B - 1) = p
    have hp1 : p ≤ R / H := by rw [← hp]; exact Nat.min_le_left _ _
    have hp2 : p ≤ B - 1 := by rw [← hp]; exact Nat.min_le_right _ _
    have hpH : p * H ≤ R := (Nat.le_div_iff_mul_le hH0).1 hp1
    rcases p with - | p
    · exact Nat.zero_le _
    · refine Nat.succ_le_succ ?_
      rw [Nat.le_div_iff_mul_le hX0, hX, hY, Nat.mul_add, ← Nat.mul_assoc]
      have h1 : (p + 1) * H * M ≤ R * M := Nat.mul_le_mul_right _ hpH
      rw [Nat.add_mul, Nat.add_mul, Nat.one_mul] at h1
      have h2 : p * l ≤ p * M := Nat.mul_le_mul_left _ (by omega)
      have h3 : p * M ≤ H * M := Nat.mul_le_mul_right _ (by omega)
      omega

/-- What a step of division leaves, where the guess was right. -/
theorem step_right {W Lr rn D q N debt : Nat} (hq : q * D ≤ Lr + W * rn) (hlt : Lr + W * rn < q * D + D) (hD : D ≤ W) (hN : N < W) (h : N + D * q = Lr + W * debt) :
    debt = rn ∧ N + q * D = Lr + W * rn := by
  rw [Nat.mul_comm] at h
  have e : debt = rn := by
    rcases Nat.lt_trichotomy debt rn with h1 | h1 | h1
    · exfalso
      obtain ⟨k, rfl⟩ : ∃ k, rn = debt + (k + 1) := ⟨rn - debt - 1, by omega⟩
      rw [Nat.mul_add, Nat.mul_add] at hq hlt
      have := Nat.zero_le (W * k)
      omega
    · exact h1
    · exfalso
      obtain ⟨k, rfl⟩ : ∃ k, debt = rn + (k + 1) := ⟨debt - rn - 1, by omega⟩
      rw [Nat.mul_add, Nat.mul_add] at h
      have := Nat.zero_le (W * k)
      omega
  subst e
  exact ⟨rfl, h⟩
/-- .. and where it was one too much. -/
theorem step_over {W Lr rn D q N debt : Nat} (hq : q * D ≤ Lr + W * rn) (hlt : Lr + W * rn < q * D + D) (hD : D ≤ W) (hN : N < W) (h : N + D * (q + 1) = Lr + W * debt) :
    debt = rn + 1 ∧ N + q * D + D = Lr + W * rn + W := by
  rw [Nat.mul_add, Nat.mul_comm D q, Nat.mul_one] at h
  have e : debt = rn + 1 := by
    rcases Nat.lt_trichotomy debt (rn + 1) with h1 | h1 | h1
    · exfalso
      obtain ⟨k, rfl⟩ : ∃ k, rn = debt + k := ⟨rn - debt, by omega⟩
      rw [Nat.mul_add] at hq hlt
      have := Nat.zero_le (W * k)
      omega
    · exact h1
    · exfalso
      obtain ⟨k, rfl⟩ : ∃ k, debt = rn + 1 + (k + 1) := ⟨debt - rn - 2, by omega⟩
      rw [Nat.mul_add, Nat.mul_add, Nat.mul_add] at h
      have := Nat.zero_le (W * k)
      omega
  subst e
  rw [Nat.mul_add] at h
  exact ⟨rfl, by omega⟩

theorem vb_low (P : Nat) (f : Nat → Nat) : ∀ n, vb P f (n + 1) = f 0 + P * vb P (fun j => f (j + 1)) n
  | n => by
    rw [Nat.add_comm n 1, vb_split]
    simp only [vb, Nat.pow_zero, Nat.one_mul, Nat.zero_add, Nat.pow_one]
    congr 2
    exact vb_congr (fun j _ => by rw [Nat.add_comm])

/-- Parts o .. of f are those of g. -/
def spl (f : Nat → Nat) (o n : Nat) (g : Nat → Nat) (j : Nat) : Nat := if o ≤ j ∧ j < o + n then g (j - o) else f j
theorem spl_in (f g : Nat → Nat) (o n j : Nat) (h : j < n) : spl f o n g (o + j) = g j := by
  unfold spl; rw [if_pos (by omega)]; congr 1; omega
theorem spl_low (f g : Nat → Nat) (o n j : Nat) (h : j < o) : spl f o n g j = f j := by
  unfold spl; rw [if_neg (by omega)]
theorem spl_high (f g : Nat → Nat) (o n j : Nat) (h : o + n ≤ j) : spl f o n g j = f j := by
  unfold spl; rw [if_neg (by omega)]
theorem spl_lt {f g : Nat → Nat} {o n L B : Nat} (hf : ∀ j, j < L → f j < B) (hg : ∀ j, j < n → g j < B) : ∀ j, j < L → spl f o n g j < B := fun j hj => by
  unfold spl; split
  · exact hg _ (by omega)
  · exact hf j hj
theorem vb_spl (P : Nat) (f g : Nat → Nat) (o n L : Nat) (h : o + n ≤ L) : vb P (spl f o n g) L + P ^ o * vb P (fun j => f (o + j)) n = vb P f L + P ^ o * vb P g n := by
  obtain ⟨m, rfl⟩ : ∃ m, L = o + n + m := ⟨L - (o + n), by omega⟩
  rw [vb_split P _ (o + n) m, vb_split P _ o n, vb_split P f (o + n) m, vb_split P f o n]
  rw [vb_congr (f := spl f o n g) (g := f) (n := o) (fun j hj => spl_low _ _ _ _ _ hj)]
  rw [vb_congr (f := fun j => spl f o n g (o + j)) (g := g) (n := n) (fun j hj => spl_in _ _ _ _ _ hj)]
  rw [vb_congr (f := fun j => spl f o n g (o + n + j)) (g := fun j => f (o + n + j)) (n := m) (fun j hj => spl_high _ _ _ _ _ (by omega))]
  omega

/-- A division under way: c parts of the quotient are wanted. -/
structure DivI (B n m c : Nat) (r q : Nat → Nat) (D A : Nat) : Prop where
  parts : ∀ j, j < m + n → r j < B
  high : ∀ j, c + n ≤ j → j < m + n → r j = 0
  less : vb B (fun j => r (c + j)) n < D
  todo : ∀ j, j < c → q j = 0
  qs : ∀ j, j < m → q j < B
  sum : vb B r (m + n) + vb B q m * D = A
theorem DivI.fits {B n m c : Nat} {r q : Nat → Nat} {D A : Nat} (h : DivI B n m (c + 1) r q D A) (hc : c < m) : vb B (fun j => r (c + j)) (n + 1) < B * D := by
  rw [vb_low]
  have h0 := h.parts c (by omega)
  have h1 := h.less
  rw [vb_congr (f := fun j => r (c + (j + 1))) (g := fun j => r (c + 1 + j)) (fun j _ => by rw [Nat.add_assoc, Nat.add_comm 1 j])]
  have h2 : B * (vb B (fun j => r (c + 1 + j)) n + 1) ≤ B * D := Nat.mul_le_mul_left _ h1
  rw [Nat.mul_add] at h2
  simp only [Nat.add_zero]
  omega
/-- One part more. -/
theorem DivI.step {B n m c : Nat} {r q ns : Nat → Nat} {D A p : Nat} (h : DivI B n m (c + 1) r q D A) (hc : c < m) (hp : p < B) (hns : ∀ j, j < n + 1 → ns j < B)
    (hv : vb B ns (n + 1) + p * D = vb B (fun j => r (c + j)) (n + 1)) (hl : vb B ns n < D) (ht : ns n = 0) : DivI B n m c (spl r c (n + 1) ns) (spl q c 1 (fun _ => p)) D A := by
  refine ⟨spl_lt h.parts hns, fun j h1 h2 => ?_, ?_, fun j hj => ?_, spl_lt h.qs (fun _ _ => hp), ?_⟩
  · by_cases e : j = c + n
    · subst e; rw [spl_in _ _ _ _ _ (by omega)]; exact ht
    · rw [spl_high _ _ _ _ _ (by omega)]; exact h.high j (by omega) h2
  · rw [vb_congr (f := fun j => spl r c (n + 1) ns (c + j)) (g := ns) (fun j hj => spl_in _ _ _ _ _ (by omega))]; exact hl
  · rw [spl_low _ _ _ _ _ hj]; exact h.todo j (by omega)
  · have e1 := vb_spl B r ns c (n + 1) (m + n) (by omega)
    have e2 := vb_spl B q (fun _ => p) c 1 m (by omega)
    have e3 : vb B (fun j => q (c + j)) 1 = 0 := vb_zero (fun j hj => h.todo (c + j) (by omega))
    have e4 : vb B (fun _ => p) 1 = p := by simp [vb]
    rw [e3, e4, Nat.mul_zero, Nat.add_zero] at e2
    rw [e2, Nat.add_mul, Nat.mul_assoc]
    rw [← hv, Nat.mul_add] at e1
    have := h.sum
    omega
theorem DivI.done {B n m : Nat} {r q : Nat → Nat} {D A : Nat} (h : DivI B n m 0 r q D A) : vb B q m = A / D ∧ vb B r (m + n) = A % D := by
  have e : vb B r (m + n) = vb B r n := by
    rw [Nat.add_comm m n, vb_split, vb_zero (fun j hj => h.high (n + j) (by omega) (by omega))]; simp
  have hl := h.less
  rw [vb_congr (f := fun j => r (0 + j)) (g := r) (fun j _ => by rw [Nat.zero_add])] at hl
  have hs := h.sum
  rw [e] at hs ⊢
  constructor
  · rw [← hs, Nat.add_mul_div_right _ _ (by omega), Nat.div_eq_of_lt hl, Nat.zero_add]
  · rw [← hs, Nat.add_mul_mod_self_right, Nat.mod_eq_of_lt hl]

theorem plain_len {P : Nat} (hP : 0 < P) {f : Nat → Nat} {n m : Nat} (hf : ∀ j, j < n → f j < P) (h : n = 0 ∨ f (n - 1) ≠ 0) : vb P f n < P ^ m ↔ n ≤ m := by
  rcases Nat.eq_zero_or_pos n with rfl | hn
  · simp only [vb, Nat.zero_le, iff_true]; exact Nat.pow_pos hP
  · have ht : f (n - 1) ≠ 0 := by rcases h with h | h; omega; exact h
    constructor
    · intro hv
      rcases Nat.lt_or_ge m n with hl | hl
      · exfalso
        obtain ⟨k, rfl⟩ : ∃ k, n = k + 1 := ⟨n - 1, by omega⟩
        simp only [vb, Nat.add_sub_cancel] at hv ht
        have h1 : P ^ m ≤ P ^ k := Nat.pow_le_pow_right hP (by omega)
        have h2 : P ^ k * 1 ≤ P ^ k * f k := Nat.mul_le_mul_left _ (by omega)
        omega
      · exact hl
    · intro hl
      exact Nat.lt_of_lt_of_le (vb_lt hf) (Nat.pow_le_pow_right hP hl)
/-- The length without the noughts behind. -/
def tn (f : Nat → Nat) : Nat → Nat
  | 0 => 0
  | n + 1 => if f n = 0 then tn f n else n + 1
theorem tn_le (f : Nat → Nat) : ∀ n, tn f n ≤ n
  | 0 => Nat.le_refl _
  | n + 1 => by unfold tn; split; exact Nat.le_succ_of_le (tn_le f n); exact Nat.le_refl _
theorem tn_top (f : Nat → Nat) : ∀ n, tn f n = 0 ∨ f (tn f n - 1) ≠ 0
  | 0 => .inl rfl
  | n + 1 => by unfold tn; split; exact tn_top f n; exact .inr (by simpa using ‹¬ f n = 0›)
theorem vb_tn (P : Nat) (f : Nat → Nat) : ∀ n, vb P f (tn f n) = vb P f n
  | 0 => rfl
  | n + 1 => by
    unfold tn; split
    · rename_i h; rw [vb_tn P f n]; simp only [vb]; rw [h]; rfl
    · rfl
theorem tn_high (f : Nat → Nat) : ∀ n j, tn f n ≤ j → j < n → f j = 0
  | 0, j, _, h => by omega
  | n + 1, j, h1, h2 => by
    unfold tn at h1
    split at h1
    · rename_i h
      by_cases e : j = n
      · rw [e]; exact h
      · exact tn_high f n j h1 (by omega)
    · omega
theorem tn_congr {f g : Nat → Nat} : ∀ n, (∀ j, j < n → f j = g j) → tn f n = tn g n
  | 0, _ => rfl
  | n + 1, h => by unfold tn; rw [h n (by omega), tn_congr n (fun j hj => h j (by omega))]
/-- Two numbers without noughts behind, equal as numbers, are equal part by part. -/
theorem plain_inj {P : Nat} (hP : 0 < P) {f g : Nat → Nat} {n m : Nat} (hf : ∀ j, j < n → f j < P) (hg : ∀ j, j < m → g j < P) (h1 : n = 0 ∨ f (n - 1) ≠ 0) (h2 : m = 0 ∨ g (m - 1) ≠ 0) (h : vb P f n = vb P g m) :
    n = m ∧ ∀ j, j < n → f j = g j := by
  have a := (plain_len hP hf h1 (m := m)).1 (by rw [h]; exact vb_lt hg)
  have b := (plain_len hP hg h2 (m := n)).1 (by rw [← h]; exact vb_lt hf)
  obtain rfl : n = m := by omega
  exact ⟨rfl, fun j hj => by rw [vb_digit hf j hj, vb_digit hg j hj, h]⟩
end Go.Proofs.Ytgegkffigjogcaa
