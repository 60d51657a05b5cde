/- What the laws of Nat share: own and few over numbers as the reference's calls have them. -/
import Derived.Test.YtgegkffigjogcaaNRef
namespace Go.Proofs.Ytgegkffigjogcaa
open Go.RowKit

theorem own_an {V : Nat} {v : Value} {w : World} (h : AN V v w) : Calls Try.prog 13 #[v] w fun e w' => ∃ u, e = .returned u ∧ NN V u w' ∧ Below w.heap.size w w' := by
  obtain ⟨n, f, ha, hn, hf, rfl⟩ := h
  exact own_any ha hn hf
theorem few_an {w : World} {v : Value} {n : Nat} {f : Nat → Nat} (h : ArgN w v n f) (hf : ∀ j, j < n → f j < 4294967296) (k : Nat) (hk : (k : Int) ≤ 1000) : ∃ V, V < 4294967296 ^ k ∧ Calls Try.prog 18 #[v, .int .i64 k] w fun e w' => ∃ u, e = .returned u ∧ AN V u w ∧ w = w' := by
  refine ⟨vb 4294967296 f (min n k), Nat.lt_of_lt_of_le (vb_lt (fun j hj => hf j (by omega))) (Nat.pow_le_pow_right (by omega) (by omega)), (few_any h k hk).mono ?_⟩
  rintro e w' ⟨u, rfl, hu, rfl⟩
  exact ⟨u, rfl, ⟨_, f, hu, by omega, fun j hj => hf j (by omega), rfl⟩, rfl⟩
theorem pv_nil (w : World) : PV 0 (.slice none 0 0) w := ⟨none, 0, 0, fun _ => 0, rfl, ⟨Nat.le_refl _, .inl rfl, (fun q hq => by cases hq), fun j hj => by omega, by omega⟩, rfl, .inl rfl⟩
theorem cd2_fit {A B k j : Nat} (hk : k ≤ 1024) (hj : j ≤ 1024) (hA : A < 4294967296 ^ k) (hB : B < 4294967296 ^ j) : cd2 A B = 0 := by unfold cd2; rw [if_pos (cd_fit hk hA), cd_fit hj hB]
theorem sgn_lt {A B : Nat} (h : A < B) : sgn A B = -1 := by unfold sgn; rw [if_pos h]
end Go.Proofs.Ytgegkffigjogcaa
