/- Unpack: what it comes to, the program's and the reference's. -/
import Derived.Test.YtaopmcpihdcaiaaNPack
namespace Go.Proofs.Ytaopmcpihdcaiaa
open Go.RowKit

/-- Whether bytes are a path. -/
def unOk (n : Nat) (f : Nat → Nat) : Bool := decide (0 < n) && decide (f 0 / 16 ≤ 3) && (decide (f 0 / 16 % 2 = 1) || decide (f 0 % 16 = 0))
/-- What Unpack answers. -/
def UnA (w : World) (n : Nat) (f : Nat → Nat) (e : Ending) (w' : World) : Prop := ((unOk n f = true ∧ ∃ v, e = .returned (.tuple #[v, .bool (decide (2 ≤ f 0 / 16)), .int .i64 0]) ∧ ArgB w' v (2 * n - (2 - f 0 / 16 % 2)) (fun j => hv f ((2 - f 0 / 16 % 2) + j))) ∨ (unOk n f = false ∧ e = .returned (.tuple #[.slice none 0 0, .bool false, .int .i64 4]))) ∧ Below w.heap.size w w'
theorem und (a b : Nat) (h : ¬ a = b) : ((a : Int) == (b : Int)) = false := by simp; omega
theorem below_drewN {w w' : World} {k : Nat} (h : Below w.heap.size w w') : Below w.heap.size w (w'.drewN k) := h.grown (grown_drewN w' k) h.size (fun j e => by cases e)
theorem own_at {base n g q : Nat} {f : Nat → Nat} {w : World} (h : Own8 base f n (.slice (some ⟨g, 0, none⟩) n q) w) (j : Nat) (hj : j < n) : w.cell? ⟨g, j, none⟩ = some (.int .u8 (f j : Nat)) := by
  obtain ⟨a, c, e, -, -, hr⟩ := own_rdb h
  cases e
  rcases hr with h0 | ⟨b, o, e, h1, h2⟩
  · omega
  · cases e
    have := h2 j hj
    rwa [Nat.zero_add] at this
theorem own_from {base n g q : Nat} {f : Nat → Nat} {w : World} (h : Own8 base f n (.slice (some ⟨g, 0, none⟩) n q) w) (m : Nat) (hm : m ≤ n) : ∃ a', (∀ w, (Instr.sliceAt 22 (.slice (some ⟨g, 0, none⟩) n q) (some (.int .i64 (m : Int))) none none).run Try.prog w = .ok (.slice a' (n - m) (q - m)) w) ∧ ArgB w (.slice a' (n - m) (q - m)) (n - m) (fun j => f (m + j)) := by
  obtain ⟨a, c, e, hc, -, -⟩ := own_rdb h
  cases e
  obtain ⟨a', h1, h2⟩ := arg_from (a := some ⟨g, 0, none⟩) (n := n) (cap := q) (m := m) hm hc
  exact ⟨a', h1, h2 w f (own_arg h)⟩
set_option maxRecDepth 100000 in
set_option maxHeartbeats 4000000 in
theorem unpack_any {n : Nat} {f : Nat → Nat} {v : Value} {w : World} (hn : n ≤ 4000000) (hf : ∀ j, f j < 256) (hP : ArgB w v n f) : Calls Try.prog 13 #[v] w (UnA w n f) := by
  have HC := Lib.hid (of_any hn hf hP)
  have hf0 := hf 0
  obtain ⟨a, cap, rfl, hc, hn0, hr⟩ := hP
  clear hr hn0 hc hf
  obtain ⟨m, hm⟩ : ∃ m, 2 * n = m := ⟨_, rfl⟩
  rw [hm] at HC
  have HM := Lib.hid hm
  clear hm
  by_cases h0 : m = 0
  · subst h0
    have HK := Lib.hid (show unOk n f = false by have := HM.out; simp [unOk]; omega)
    clear hf0
    go_enter Try.func13, Try.ntmps13
    go_wp2_with (go_at_call 6; refine HC.out.mono ?_; rintro e w' ⟨v, rfl, hO, ⟨g, q, rfl⟩, hB⟩; have H1 := Lib.hid hB; clear hB hO)
    go_ret3
    exact ⟨.inr ⟨HK.out, rfl⟩, H1.out⟩
  · have hm0 : 0 < m := by omega
    have hm1 : ((m : Int) == 0) = false := by simp; omega
    have hmi : (0 : Int) < m := by omega
    have hmi2 : (1 : Int) < m := by have := HM.out; omega
    have hmi3 : (2 : Int) ≤ m := by omega
    have hmi4 : (1 : Int) ≤ m := by omega
    obtain ⟨x, hx⟩ : ∃ x, f 0 / 16 = x := ⟨_, rfl⟩
    obtain ⟨y, hy⟩ : ∃ y, f 0 % 16 = y := ⟨_, rfl⟩
    have HX := Lib.hid (show hv f 0 = x ∧ hv f 1 = y ∧ f 0 / 16 = x ∧ f 0 % 16 = y by refine ⟨?_, ?_, hx, hy⟩ <;> simp [hv, hx, hy])
    have hxl : x < 16 := by omega
    have HNP := Lib.hid (show 0 < n by have := HM.out; omega)
    clear h0
    by_cases hbig : 3 < x
    · have hb' : (3 : Int) < x := by omega
      have HK := Lib.hid (show unOk n f = false by have := HX.out.2.2.1; simp [unOk]; omega)
      clear hf0 hbig hx hy
      go_enter Try.func13, Try.ntmps13
      go_wp2_with (go_at_call 6; refine HC.out.mono ?_; rintro e w' ⟨v, rfl, hO, ⟨g, q, rfl⟩, hB⟩; have H1 := Lib.hid hB; have c0 := own_at hO 0 hm0; rw [HX.out.1] at c0; clear hB hO)
      go_ret3
      exact ⟨.inr ⟨HK.out, rfl⟩, H1.out⟩
    · have hxx : x = 0 ∨ x = 1 ∨ x = 2 ∨ x = 3 := by omega
      clear hbig hxl hf0
      rcases hxx with rfl | rfl | rfl | rfl
      · by_cases hz : y = 0
        · subst hz
          have HK := Lib.hid (show unOk n f = true by have := HNP.out; simp [unOk, HX.out.2.2.1, HX.out.2.2.2]; omega)
          clear hx hy
          have hb1 : bits BinOp.and IntKind.u8 0 1 = 0 := by kernel_rfl
          have hb2 : bits BinOp.and IntKind.u8 0 2 = 0 := by kernel_rfl
          go_enter Try.func13, Try.ntmps13
          go_wp2_with (go_at_call 6; refine HC.out.mono ?_; rintro e w' ⟨v, rfl, hO, ⟨g, q, rfl⟩, hB⟩; have H1 := Lib.hid (And.intro hB hO); have c0 := own_at hO 0 hm0; have c1 := own_at hO 1 (by omega); rw [HX.out.1] at c0; rw [HX.out.2.1] at c1; have hsl := own_from hO 2 (by omega); obtain ⟨a1, h10, h12⟩ := hsl; have h11 : ∀ w, (Instr.sliceAt 22 (.slice (some ⟨g, 0, none⟩) m q) (some (.int .i64 2)) none none).run Try.prog w = .ok (.slice a1 (m - 2) (q - 2)) w := h10; clear h10; have H12 := Lib.hid h12; clear hB hO h12)
          go_ret3
          refine ⟨.inl ⟨HK.out, .slice a1 (m - 2) (q - 2), ?_, ?_⟩, H1.out.1⟩
          · rw [HX.out.2.2.1]
            rfl
          · rw [HX.out.2.2.1, HM.out]
            exact H12.out
        · have HK := Lib.hid (show unOk n f = false by simp [unOk, HX.out.2.2.1, HX.out.2.2.2]; omega)
          have hz' : ((y : Int) != 0) = true := by simp; omega
          clear hx hy hz
          have hb1 : bits BinOp.and IntKind.u8 0 1 = 0 := by kernel_rfl
          have hb2 : bits BinOp.and IntKind.u8 0 2 = 0 := by kernel_rfl
          go_enter Try.func13, Try.ntmps13
          go_wp2_with (go_at_call 6; refine HC.out.mono ?_; rintro e w' ⟨v, rfl, hO, ⟨g, q, rfl⟩, hB⟩; have H1 := Lib.hid (And.intro hB hO); have c0 := own_at hO 0 hm0; have c1 := own_at hO 1 (by omega); rw [HX.out.1] at c0; rw [HX.out.2.1] at c1; have hsl := own_from hO 2 (by omega); obtain ⟨a1, h10, h12⟩ := hsl; have h11 : ∀ w, (Instr.sliceAt 22 (.slice (some ⟨g, 0, none⟩) m q) (some (.int .i64 2)) none none).run Try.prog w = .ok (.slice a1 (m - 2) (q - 2)) w := h10; clear h10; have H12 := Lib.hid h12; clear hB hO h12)
          go_ret3
          exact ⟨.inr ⟨HK.out, rfl⟩, H1.out.1⟩
      · have HK := Lib.hid (show unOk n f = true by have := HNP.out; simp [unOk, HX.out.2.2.1]; omega)
        clear hx hy
        have hb1 : bits BinOp.and IntKind.u8 1 1 = 1 := by kernel_rfl
        have hb2 : bits BinOp.and IntKind.u8 1 2 = 0 := by kernel_rfl
        go_enter Try.func13, Try.ntmps13
        go_wp2_with (go_at_call 6; refine HC.out.mono ?_; rintro e w' ⟨v, rfl, hO, ⟨g, q, rfl⟩, hB⟩; have H1 := Lib.hid (And.intro hB hO); have c0 := own_at hO 0 hm0; have c1 := own_at hO 1 (by omega); rw [HX.out.1] at c0; rw [HX.out.2.1] at c1; have hsl := own_from hO 1 (by omega); obtain ⟨a1, h10, h12⟩ := hsl; have h11 : ∀ w, (Instr.sliceAt 22 (.slice (some ⟨g, 0, none⟩) m q) (some (.int .i64 1)) none none).run Try.prog w = .ok (.slice a1 (m - 1) (q - 1)) w := h10; clear h10; have H12 := Lib.hid h12; clear hB hO h12)
        go_ret3
        refine ⟨.inl ⟨HK.out, .slice a1 (m - 1) (q - 1), ?_, ?_⟩, H1.out.1⟩
        · rw [HX.out.2.2.1]
          rfl
        · rw [HX.out.2.2.1, HM.out]
          exact H12.out
      · by_cases hz : y = 0
        · subst hz
          have HK := Lib.hid (show unOk n f = true by have := HNP.out; simp [unOk, HX.out.2.2.1, HX.out.2.2.2]; omega)
          clear hx hy
          have hb1 : bits BinOp.and IntKind.u8 2 1 = 0 := by kernel_rfl
          have hb2 : bits BinOp.and IntKind.u8 2 2 = 2 := by kernel_rfl
          go_enter Try.func13, Try.ntmps13
          go_wp2_with (go_at_call 6; refine HC.out.mono ?_; rintro e w' ⟨v, rfl, hO, ⟨g, q, rfl⟩, hB⟩; have H1 := Lib.hid (And.intro hB hO); have c0 := own_at hO 0 hm0; have c1 := own_at hO 1 (by omega); rw [HX.out.1] at c0; rw [HX.out.2.1] at c1; have hsl := own_from hO 2 (by omega); obtain ⟨a1, h10, h12⟩ := hsl; have h11 : ∀ w, (Instr.sliceAt 22 (.slice (some ⟨g, 0, none⟩) m q) (some (.int .i64 2)) none none).run Try.prog w = .ok (.slice a1 (m - 2) (q - 2)) w := h10; clear h10; have H12 := Lib.hid h12; clear hB hO h12)
          go_ret3
          refine ⟨.inl ⟨HK.out, .slice a1 (m - 2) (q - 2), ?_, ?_⟩, H1.out.1⟩
          · rw [HX.out.2.2.1]
            rfl
          · rw [HX.out.2.2.1, HM.out]
            exact H12.out
        · have HK := Lib.hid (show unOk n f = false by simp [unOk, HX.out.2.2.1, HX.out.2.2.2]; omega)
          have hz' : ((y : Int) != 0) = true := by simp; omega
          clear hx hy hz
          have hb1 : bits BinOp.and IntKind.u8 2 1 = 0 := by kernel_rfl
          have hb2 : bits BinOp.and IntKind.u8 2 2 = 2 := by kernel_rfl
          go_enter Try.func13, Try.ntmps13
          go_wp2_with (go_at_call 6; refine HC.out.mono ?_; rintro e w' ⟨v, rfl, hO, ⟨g, q, rfl⟩, hB⟩; have H1 := Lib.hid (And.intro hB hO); have c0 := own_at hO 0 hm0; have c1 := own_at hO 1 (by omega); rw [HX.out.1] at c0; rw [HX.out.2.1] at c1; have hsl := own_from hO 2 (by omega); obtain ⟨a1, h10, h12⟩ := hsl; have h11 : ∀ w, (Instr.sliceAt 22 (.slice (some ⟨g, 0, none⟩) m q) (some (.int .i64 2)) none none).run Try.prog w = .ok (.slice a1 (m - 2) (q - 2)) w := h10; clear h10; have H12 := Lib.hid h12; clear hB hO h12)
          go_ret3
          exact ⟨.inr ⟨HK.out, rfl⟩, H1.out.1⟩
      · have HK := Lib.hid (show unOk n f = true by have := HNP.out; simp [unOk, HX.out.2.2.1]; omega)
        clear hx hy
        have hb1 : bits BinOp.and IntKind.u8 3 1 = 1 := by kernel_rfl
        have hb2 : bits BinOp.and IntKind.u8 3 2 = 2 := by kernel_rfl
        go_enter Try.func13, Try.ntmps13
        go_wp2_with (go_at_call 6; refine HC.out.mono ?_; rintro e w' ⟨v, rfl, hO, ⟨g, q, rfl⟩, hB⟩; have H1 := Lib.hid (And.intro hB hO); have c0 := own_at hO 0 hm0; have c1 := own_at hO 1 (by omega); rw [HX.out.1] at c0; rw [HX.out.2.1] at c1; have hsl := own_from hO 1 (by omega); obtain ⟨a1, h10, h12⟩ := hsl; have h11 : ∀ w, (Instr.sliceAt 22 (.slice (some ⟨g, 0, none⟩) m q) (some (.int .i64 1)) none none).run Try.prog w = .ok (.slice a1 (m - 1) (q - 1)) w := h10; clear h10; have H12 := Lib.hid h12; clear hB hO h12)
        go_ret3
        refine ⟨.inl ⟨HK.out, .slice a1 (m - 1) (q - 1), ?_, ?_⟩, H1.out.1⟩
        · rw [HX.out.2.2.1]
          rfl
        · rw [HX.out.2.2.1, HM.out]
          exact H12.out
set_option maxRecDepth 100000 in
set_option maxHeartbeats 4000000 in
theorem runpack_any {n : Nat} {f : Nat → Nat} {v : Value} {w : World} (hn : n ≤ 4000000) (hf : ∀ j, f j < 256) (hP : ArgB w v n f) : Calls Try.prog 14 #[v] w (UnA w n f) := by
  have HC := Lib.hid (rof_any hn hf hP)
  have hf0 := hf 0
  obtain ⟨a, cap, rfl, hc, hn0, hr⟩ := hP
  clear hr hn0 hc hf
  obtain ⟨m, hm⟩ : ∃ m, 2 * n = m := ⟨_, rfl⟩
  rw [hm] at HC
  have HM := Lib.hid hm
  clear hm
  by_cases h0 : m = 0
  · subst h0
    have HK := Lib.hid (show unOk n f = false by have := HM.out; simp [unOk]; omega)
    clear hf0
    go_enter Try.func14, Try.ntmps14
    go_wp2_with (go_at_call 9; refine HC.out.mono ?_; rintro e w' ⟨v, rfl, hO, ⟨g, q, rfl⟩, hB⟩; have H1 := Lib.hid hB; clear hB hO)
    go_ret3
    exact ⟨.inr ⟨HK.out, rfl⟩, H1.out⟩
  · have hm0 : 0 < m := by omega
    have hm1 : ((m : Int) == 0) = false := by simp; omega
    have hmi : (0 : Int) < m := by omega
    have hmi2 : (1 : Int) < m := by have := HM.out; omega
    have hmi3 : (2 : Int) ≤ m := by omega
    have hmi4 : (1 : Int) ≤ m := by omega
    obtain ⟨x, hx⟩ : ∃ x, f 0 / 16 = x := ⟨_, rfl⟩
    obtain ⟨y, hy⟩ : ∃ y, f 0 % 16 = y := ⟨_, rfl⟩
    have HX := Lib.hid (show hv f 0 = x ∧ hv f 1 = y ∧ f 0 / 16 = x ∧ f 0 % 16 = y by refine ⟨?_, ?_, hx, hy⟩ <;> simp [hv, hx, hy])
    have hxl : x < 16 := by omega
    have HNP := Lib.hid (show 0 < n by have := HM.out; omega)
    clear h0
    by_cases hbig : 3 < x
    · have hb' : (3 : Int) < x := by omega
      have HK := Lib.hid (show unOk n f = false by have := HX.out.2.2.1; simp [unOk]; omega)
      clear hf0 hbig hx hy
      go_enter Try.func14, Try.ntmps14
      go_wp2_with (go_at_call 9; refine HC.out.mono ?_; rintro e w' ⟨v, rfl, hO, ⟨g, q, rfl⟩, hB⟩; have H1 := Lib.hid hB; have c0 := own_at hO 0 hm0; rw [HX.out.1] at c0; clear hB hO)
      go_ret3
      exact ⟨.inr ⟨HK.out, rfl⟩, H1.out⟩
    · have hxx : x = 0 ∨ x = 1 ∨ x = 2 ∨ x = 3 := by omega
      clear hbig hxl hf0
      rcases hxx with rfl | rfl | rfl | rfl
      · by_cases hz : y = 0
        · subst hz
          have HK := Lib.hid (show unOk n f = true by have := HNP.out; simp [unOk, HX.out.2.2.1, HX.out.2.2.2]; omega)
          clear hx hy
          go_enter Try.func14, Try.ntmps14
          go_wp2_with (go_at_call 9; refine HC.out.mono ?_; rintro e w' ⟨v, rfl, hO, ⟨g, q, rfl⟩, hB⟩; have H1 := Lib.hid (And.intro hB hO); have c0 := own_at hO 0 hm0; have c1 := own_at hO 1 (by omega); rw [HX.out.1] at c0; rw [HX.out.2.1] at c1; have hsl := own_from hO 2 (by omega); obtain ⟨a1, h10, h12⟩ := hsl; have h11 : ∀ w, (Instr.sliceAt 22 (.slice (some ⟨g, 0, none⟩) m q) (some (.int .i64 2)) none none).run Try.prog w = .ok (.slice a1 (m - 2) (q - 2)) w := h10; clear h10; have H12 := Lib.hid h12; clear hB hO h12)
          go_quiet (fail)
          go_wp2_with fail
          go_ret3
          refine ⟨.inl ⟨HK.out, .slice a1 (m - 2) (q - 2), ?_, ?_⟩, below_drewN H1.out.1⟩
          · rw [HX.out.2.2.1]
            rfl
          · rw [HX.out.2.2.1, HM.out]
            exact H12.out
        · have HK := Lib.hid (show unOk n f = false by simp [unOk, HX.out.2.2.1, HX.out.2.2.2]; omega)
          have hz' : ((y : Int) != 0) = true := by simp; omega
          clear hx hy hz
          go_enter Try.func14, Try.ntmps14
          go_wp2_with (go_at_call 9; refine HC.out.mono ?_; rintro e w' ⟨v, rfl, hO, ⟨g, q, rfl⟩, hB⟩; have H1 := Lib.hid (And.intro hB hO); have c0 := own_at hO 0 hm0; have c1 := own_at hO 1 (by omega); rw [HX.out.1] at c0; rw [HX.out.2.1] at c1; have hsl := own_from hO 2 (by omega); obtain ⟨a1, h10, h12⟩ := hsl; have h11 : ∀ w, (Instr.sliceAt 22 (.slice (some ⟨g, 0, none⟩) m q) (some (.int .i64 2)) none none).run Try.prog w = .ok (.slice a1 (m - 2) (q - 2)) w := h10; clear h10; have H12 := Lib.hid h12; clear hB hO h12)
          go_ret3
          exact ⟨.inr ⟨HK.out, rfl⟩, H1.out.1⟩
      · have HK := Lib.hid (show unOk n f = true by have := HNP.out; simp [unOk, HX.out.2.2.1]; omega)
        clear hx hy
        go_enter Try.func14, Try.ntmps14
        go_wp2_with (go_at_call 9; refine HC.out.mono ?_; rintro e w' ⟨v, rfl, hO, ⟨g, q, rfl⟩, hB⟩; have H1 := Lib.hid (And.intro hB hO); have c0 := own_at hO 0 hm0; have c1 := own_at hO 1 (by omega); rw [HX.out.1] at c0; rw [HX.out.2.1] at c1; have hsl := own_from hO 1 (by omega); obtain ⟨a1, h10, h12⟩ := hsl; have h11 : ∀ w, (Instr.sliceAt 22 (.slice (some ⟨g, 0, none⟩) m q) (some (.int .i64 1)) none none).run Try.prog w = .ok (.slice a1 (m - 1) (q - 1)) w := h10; clear h10; have H12 := Lib.hid h12; clear hB hO h12)
        go_quiet (fail)
        go_wp2_with fail
        go_ret3
        refine ⟨.inl ⟨HK.out, .slice a1 (m - 1) (q - 1), ?_, ?_⟩, below_drewN H1.out.1⟩
        · rw [HX.out.2.2.1]
          rfl
        · rw [HX.out.2.2.1, HM.out]
          exact H12.out
      · by_cases hz : y = 0
        · subst hz
          have HK := Lib.hid (show unOk n f = true by have := HNP.out; simp [unOk, HX.out.2.2.1, HX.out.2.2.2]; omega)
          clear hx hy
          go_enter Try.func14, Try.ntmps14
          go_wp2_with (go_at_call 9; refine HC.out.mono ?_; rintro e w' ⟨v, rfl, hO, ⟨g, q, rfl⟩, hB⟩; have H1 := Lib.hid (And.intro hB hO); have c0 := own_at hO 0 hm0; have c1 := own_at hO 1 (by omega); rw [HX.out.1] at c0; rw [HX.out.2.1] at c1; have hsl := own_from hO 2 (by omega); obtain ⟨a1, h10, h12⟩ := hsl; have h11 : ∀ w, (Instr.sliceAt 22 (.slice (some ⟨g, 0, none⟩) m q) (some (.int .i64 2)) none none).run Try.prog w = .ok (.slice a1 (m - 2) (q - 2)) w := h10; clear h10; have H12 := Lib.hid h12; clear hB hO h12)
          go_quiet (fail)
          go_wp2_with fail
          go_ret3
          refine ⟨.inl ⟨HK.out, .slice a1 (m - 2) (q - 2), ?_, ?_⟩, below_drewN H1.out.1⟩
          · rw [HX.out.2.2.1]
            rfl
          · rw [HX.out.2.2.1, HM.out]
            exact H12.out
        · have HK := Lib.hid (show unOk n f = false by simp [unOk, HX.out.2.2.1, HX.out.2.2.2]; omega)
          have hz' : ((y : Int) != 0) = true := by simp; omega
          clear hx hy hz
          go_enter Try.func14, Try.ntmps14
          go_wp2_with (go_at_call 9; refine HC.out.mono ?_; rintro e w' ⟨v, rfl, hO, ⟨g, q, rfl⟩, hB⟩; have H1 := Lib.hid (And.intro hB hO); have c0 := own_at hO 0 hm0; have c1 := own_at hO 1 (by omega); rw [HX.out.1] at c0; rw [HX.out.2.1] at c1; have hsl := own_from hO 2 (by omega); obtain ⟨a1, h10, h12⟩ := hsl; have h11 : ∀ w, (Instr.sliceAt 22 (.slice (some ⟨g, 0, none⟩) m q) (some (.int .i64 2)) none none).run Try.prog w = .ok (.slice a1 (m - 2) (q - 2)) w := h10; clear h10; have H12 := Lib.hid h12; clear hB hO h12)
          go_ret3
          exact ⟨.inr ⟨HK.out, rfl⟩, H1.out.1⟩
      · have HK := Lib.hid (show unOk n f = true by have := HNP.out; simp [unOk, HX.out.2.2.1]; omega)
        clear hx hy
        go_enter Try.func14, Try.ntmps14
        go_wp2_with (go_at_call 9; refine HC.out.mono ?_; rintro e w' ⟨v, rfl, hO, ⟨g, q, rfl⟩, hB⟩; have H1 := Lib.hid (And.intro hB hO); have c0 := own_at hO 0 hm0; have c1 := own_at hO 1 (by omega); rw [HX.out.1] at c0; rw [HX.out.2.1] at c1; have hsl := own_from hO 1 (by omega); obtain ⟨a1, h10, h12⟩ := hsl; have h11 : ∀ w, (Instr.sliceAt 22 (.slice (some ⟨g, 0, none⟩) m q) (some (.int .i64 1)) none none).run Try.prog w = .ok (.slice a1 (m - 1) (q - 1)) w := h10; clear h10; have H12 := Lib.hid h12; clear hB hO h12)
        go_quiet (fail)
        go_wp2_with fail
        go_ret3
        refine ⟨.inl ⟨HK.out, .slice a1 (m - 1) (q - 1), ?_, ?_⟩, below_drewN H1.out.1⟩
        · rw [HX.out.2.2.1]
          rfl
        · rw [HX.out.2.2.1, HM.out]
          exact H12.out
end Go.Proofs.Ytaopmcpihdcaiaa
