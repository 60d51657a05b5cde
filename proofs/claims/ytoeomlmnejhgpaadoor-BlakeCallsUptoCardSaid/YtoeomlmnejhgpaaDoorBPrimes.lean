/- The first primes, by the reference of layer 4. -/
import Derived.Test.YtoeomlmnejhgpaaDoorBXor
namespace Go.Proofs.YtoeomlmnejhgpaaDoor
open Go.RowKit

def prL : List Nat := [2, 3, 5, 7, 11, 13, 17, 19, 23, 29, 31, 37, 41, 43, 47, 53, 59, 61, 67, 71, 73, 79, 83, 89, 97, 101, 103, 107, 109, 113, 127, 131, 137, 139, 149, 151, 157, 163, 167, 173, 179, 181, 191, 193, 197, 199, 211, 223, 227, 229, 233, 239, 241, 251, 257, 263, 269, 271, 277, 281, 283, 293, 307, 311]
def pr (i : Nat) : Nat := prL.getD i 1
/-- How many of them are below p. -/
def cntP (p : Nat) : Nat := (prL.filter (fun q => q < p)).length
/-- None of the first k divides p. -/
def dvP (p k : Nat) : Bool := (List.range k).all (fun i => p % pr i != 0)
set_option maxRecDepth 100000 in
theorem cnt_dec : ∀ p : Fin 312, 2 ≤ (p : Nat) → (dvP p (cntP p) = true → cntP (p + 1) = cntP p + 1 ∧ pr (cntP p) = p) ∧ (dvP p (cntP p) = false → cntP (p + 1) = cntP p) := by decide +kernel
set_option maxRecDepth 100000 in
theorem pr_pos : ∀ i : Fin 64, 2 ≤ pr i ∧ pr i < 312 := by decide +kernel
theorem cnt_312 : cntP 312 = 64 := by decide +kernel
theorem dvP_next (p k : Nat) : dvP p (k + 1) = (dvP p k && (p % pr k != 0)) := by
  unfold dvP
  rw [List.range_succ, List.all_append]
  simp
def pu (f : Nat → Nat) (n : Nat) : List Value := (List.range n).map fun j => .int .u64 (f j : Nat)
theorem pu_len (f : Nat → Nat) (n : Nat) : (pu f n).length = n := by simp [pu]
theorem pu_at (f : Nat → Nat) (n j : Nat) (h : j < n) : (pu f n)[j]? = some (.int .u64 (f j : Nat)) := by simp [pu, h]
theorem pu_snoc (f : Nat → Nat) (n : Nat) (z : Int) (hx : ((f n : Nat) : Int) = z) : pu f n ++ [.int .u64 z] = pu f (n + 1) := by
  rw [← hx]
  unfold pu
  rw [List.range_succ, List.map_append]
  rfl
theorem infoU64 : (Tryd.prog.info? 34).map (fun i => (i.zero, i.size, i.bytes)) = some (some (.int .u64 0), 1, 8) := by kernel_rfl
set_option maxRecDepth 100000 in
set_option maxHeartbeats 4000000 in
-- WHAT Primes COMES TO.
theorem primes_any (n : Nat) (hn : n ≤ 64) (w : World) : Calls Tryd.prog 67 #[.int .i64 n] w fun e w' => ∃ g c, e = .returned (.slice (some ⟨g, 0, none⟩) n c) ∧ w'.ownsRow w.heap.size 34 1 (.slice (some ⟨g, 0, none⟩) n c) n (pu pr n) ∧ Below w.heap.size w w' := by
  obtain ⟨i0, hi, hz0, hz1, hz2⟩ := info_partsI infoU64
  go_enter Tryd.func67, Tryd.ntmps67
  go_wp2_with fail
  go_loopw [3, 4] (fun v x wr => ∃ p c g q : Nat, 2 ≤ p ∧ p ≤ 312 ∧ c ≤ n ∧ cntP p = c ∧ x = .int .u64 p ∧ v = .slice (some ⟨g, 0, none⟩) c q ∧ Hid (wr.ownsRow w.heap.size 34 1 v c (pu pr c) ∧ Below w.heap.size w wr)) (fun _ x _ => 312 - (intOf x).toNat)
  case atStart =>
    refine ⟨2, 0, _, _, by omega, by omega, by omega, by decide +kernel, rfl, rfl, Lib.hid ⟨?_, by go_grown⟩⟩
    have h1 := World.ownsRow_made (base := w.heap.size) (e := 34) (size := 1) w #[] 0 (by simp) (by decide) (by simp)
    simpa [pu] using h1
  case round =>
    obtain ⟨p, c, g, q, hp2, hp3, hcn, hc, rfl, rfl, H⟩ := hrel
    have hc0 : (0 : Int) ≤ c := by omega
    by_cases hlt : c < n
    · have hlt' : (c : Int) < n := by omega
      have hp4 : p < 312 := by
        rcases Nat.lt_or_ge p 312 with h | h
        · exact h
        · have : p = 312 := by omega
          rw [this, cnt_312] at hc
          omega
      have HD := Lib.hid (cnt_dec ⟨p, hp4⟩ hp2)
      have HC := Lib.hid hc
      have HP := Lib.hid (And.intro hp2 (And.intro hp4 (And.intro hcn hlt)))
      have hp0 : (0 : Int) ≤ p := by omega
      clear hc hp3
      go_wp2_with fail
      go_loopw [5, 6] (fun b x wr => ∃ k : Nat, k ≤ c ∧ x = .int .i64 k ∧ b = .bool (dvP p k) ∧ Hid (wr.ownsRow w.heap.size 34 1 (.slice (some ⟨g, 0, none⟩) c q) c (pu pr c) ∧ Below w.heap.size w wr)) (fun _ x _ => c - (intOf x).toNat)
      case atStart => exact ⟨0, by omega, rfl, rfl, H⟩
      case round =>
        obtain ⟨k, hk, rfl, rfl, H2⟩ := hrel
        clear H
        have hk0 : (0 : Int) ≤ k := by omega
        by_cases hkc : k < c
        · have hkc' : (k : Int) < c := by omega
          have HN := Lib.hid (dvP_next p k)
          have ck := (H2.out.1.cellAt k (by omega)).trans (pu_at pr c k hkc)
          have hpr := pr_pos ⟨k, by omega⟩
          obtain ⟨d, hd⟩ : ∃ d, pr k = d := ⟨_, rfl⟩
          have hpr2 : 2 ≤ d ∧ d < 312 := by rw [← hd]; exact hpr
          rw [hd] at HN ck
          have hd0 : (0 : Int) < d := by omega
          have hdne : ((d : Int) == 0) = false := by simp; omega
          obtain ⟨r, hr⟩ : ∃ r, p % d = r := ⟨_, rfl⟩
          have e1 : (p : Int).tmod d = (r : Int) := by rw [Int.tmod_eq_emod_of_nonneg hp0]; omega
          have e2 : (p : Int) % d = (r : Int) := by omega
          rw [hr] at HN
          clear hpr hpr2 hd hr
          obtain ⟨b, hb⟩ : ∃ b, dvP p k = b := ⟨_, rfl⟩
          rw [hb] at HN ⊢
          clear hb
          cases b with
          | false =>
            go_wp2_with fail
            go_roundw
            case rel => exact ⟨k + 1, by omega, by go_num, by rw [HN.out]; rfl, H2⟩
            case measure => simp [intOf]; omega
          | true =>
            by_cases hr0 : r = 0
            · have hre : ((r : Int) != 0) = false := by simp [hr0]
              have HR0 := Lib.hid hr0
              clear hr0
              go_wp2_with fail
              go_roundw
              case rel => exact ⟨k + 1, by omega, by go_num, by rw [HN.out, HR0.out]; rfl, H2⟩
              case measure => simp [intOf]; omega
            · have hre : ((r : Int) != 0) = true := by simp [hr0]
              have HR0 := Lib.hid hr0
              clear hr0
              go_wp2_with fail
              go_roundw
              case rel => exact ⟨k + 1, by omega, by go_num, by rw [HN.out]; simp [HR0.out], H2⟩
              case measure => simp [intOf]; omega
        · obtain rfl : k = c := by omega
          have hkc' : ¬ (k : Int) < k := by omega
          have hbs : w.heap.size ≤ wr.heap.size := H2.out.2.size
          obtain ⟨b, hb⟩ : ∃ b, dvP p k = b := ⟨_, rfl⟩
          have HBB := Lib.hid hb
          rw [hb]
          clear hb
          cases b with
          | false =>
            have hcn : cntP (p + 1) = k := by
              have h1 := HD.out.2
              rw [HC.out] at h1
              exact h1 HBB.out
            have HCN := Lib.hid hcn
            clear hcn
            have hpw : IntKind.u64.wrap ((p : Int) + 1) = (p : Int) + 1 := by rw [IntKind.wrap_u64]; omega
            go_wp2_with fail
            go_roundw
            case rel => exact ⟨p + 1, k, g, q, by omega, by have := HP.out; omega, by have := HP.out; omega, HCN.out, by go_num, rfl, H2⟩
            case measure => simp [intOf]; have := HP.out; omega
          | true =>
            have hcn : cntP (p + 1) = k + 1 ∧ pr k = p := by
              have h1 := HD.out.1
              rw [HC.out] at h1
              exact h1 HBB.out
            have HCN := Lib.hid hcn
            clear hcn
            have hpw : IntKind.u64.wrap ((p : Int) + 1) = (p : Int) + 1 := by rw [IntKind.wrap_u64]; omega
            have hk64 : k ≤ 64 := by have := HP.out; omega
            go_wp2_with (at_builtin; refine wpList_append_lies _ rfl _ _ 71 rfl w.heap.size 34 i0 (.int .u64 0) 1 8 Tryd.underlying71 hi hz0 hz1 hz2 rfl (by decide) _ k (pu pr k) rfl (World.ownsRow.alloc H2.out.1 _) ⟨wr.heap.size, 0, none⟩ 1 1 [.int .u64 p] rfl rfl (cell_one_new _ _ _) (by intro u hu; simp at hu; subst hu; rfl) (by omega) (by unfold maxLen; omega) (by omega) (by simp; omega) (wr.heap.size + 1) (by simp) ?_; intro g2 c2 w3 hown3 hgrow hat hlt3)
            have hb3 : Below w.heap.size w w3 := (H2.out.2.alloc (by omega) _).grown hgrow (by simp; omega) (fun j hj => (H2.out.1.lt j hj).1)
            rw [pu_snoc pr k (p : Int) (by rw [HCN.out.2])] at hown3
            have HQ := Lib.hid (And.intro hown3 hb3)
            clear hgrow hat hlt3 hown3 hb3 H2
            go_roundw
            case rel => exact ⟨p + 1, k + 1, g2, c2, by omega, by have := HP.out; omega, by have := HP.out; omega, HCN.out.1, by go_num, rfl, HQ⟩
            case measure => simp [intOf]; have := HP.out; omega
    · obtain rfl : c = n := by omega
      have hlt' : ¬ (c : Int) < c := by omega
      go_wp2_with fail
      go_ret
      exact ⟨g, q, rfl, H.out⟩
end Go.Proofs.YtoeomlmnejhgpaaDoor
