/- nibble.Pack: an odd number of nibbles: the region, in whatever order. -/
import Derived.Test.YtaopmcpihdcaiaaNBytes
namespace Go.Proofs.Ytaopmcpihdcaiaa
open Go.RowKit

theorem run_sem {P : Program} {a : Act} {o : Oper} {w w' : World} (s : Sem Value) (v : Value) (ho : execOp a.eval o = (do let x ← s; pure (.value x))) (hr : s.run P w = .ok v w') : (execOp a.eval o).run P w = .ok (.value v) w' := by
  rw [ho]
  simp only [Sem.run_bind, hr, Result.andThen_ok, Sem.run_pure]
set_option maxRecDepth 100000 in
set_option maxHeartbeats 8000000 in
theorem pack_r {w w2 : World} {b o n cap g q g2 q2 x0 y c c1 c2 n1 cap1 : Nat} {a1 : Option Addr} {R : Value → World → Prop} {s1 s2 s3 s4 s5 s8 s9 s10 s11 s12 s13 s14 s15 s16 s17 s18 s19 s20 s21 s22 s23 s24 s25 s26 s27 s28 s29 s30 s31 s32 s33 s34 s35 s36 s37 s38 s39 s40 : Value}
    (h2 : ∀ w, (binOp .add 5 (.int .u8 (c : Nat)) (.int .u8 1)).run Try.prog w = .ok (.int .u8 (c1 : Nat)) w)
    (h3 : ∀ w, (binOp .shl 5 (.int .u8 (c1 : Nat)) (.int .u64 4)).run Try.prog w = .ok (.int .u8 (c2 : Nat)) w)
    (h5 : ∀ w, (Instr.indexAt 22 (.slice (some ⟨b, o, none⟩) n cap) (.int .i64 0)).run Try.prog w = .ok (.pointer (some ⟨b, o, none⟩)) w)
    (l6 : (Instr.loadAt 5 (.pointer (some ⟨b, o, none⟩))).run Try.prog w.drew = .ok (.int .u8 (x0 : Nat)) w.drew)
    (h7 : ∀ w, (binOp .or 5 (.int .u8 (c2 : Nat)) (.int .u8 (x0 : Nat))).run Try.prog w = .ok (.int .u8 (y : Nat)) w)
    (happ : (Builtin.append_ #[22, 22] 22 #[.slice (some ⟨g, 0, none⟩) 0 q, .slice (some ⟨w.heap.size, 0, none⟩) 1 1]).run Try.prog (w.drew.alloc (.cells #[.int .u8 (y : Nat)] 5)) = .ok (.slice (some ⟨g2, 0, none⟩) 1 q2) w2)
    (h11 : ∀ w, (Instr.sliceAt 22 (.slice (some ⟨b, o, none⟩) n cap) (some (.int .i64 1)) none none).run Try.prog w = .ok (.slice a1 n1 cap1) w)
    (hj : Calls Try.prog 17 #[.slice (some ⟨g2, 0, none⟩) 1 q2, .slice a1 n1 cap1] w2 fun e w3 => ∃ v3, e = .returned v3 ∧ R v3 w3)
    {Q : Exit → Act → World → Prop} (hQP : ∀ c (a : Act) d v w, Q (.panic c) (a.put d v) w → Q (.panic c) a w) (hQ : ∀ (u28 u29 u30 u31 u32 u33 u34 u35 u36 u37 u38 u39 u40 v3 : Value) (w3 : World), R v3 w3 → Q .normal ⟨(.slice (some ⟨b, o, none⟩) n cap :: s1 :: s2 :: s3 :: v3 :: .int .i64 0 :: .int .u8 (c : Nat) :: .slice (some ⟨g, 0, none⟩) 0 q :: s8 :: s9 :: s10 :: s11 :: s12 :: s13 :: s14 :: s15 :: s16 :: s17 :: s18 :: s19 :: s20 :: s21 :: s22 :: s23 :: s24 :: s25 :: s26 :: s27 :: u28 :: u29 :: u30 :: u31 :: u32 :: u33 :: u34 :: u35 :: u36 :: u37 :: u38 :: u39 :: u40 :: []).toArray, []⟩ w3) :
    wpAny Try.prog .any ((Try.f11.body.bind (regRF 9)).getD #[]) Q (((Try.f11.body.bind (regRF 9)).getD #[])).size (Array.replicate (((Try.f11.body.bind (regRF 9)).getD #[])).size false) ⟨(.slice (some ⟨b, o, none⟩) n cap :: s1 :: s2 :: s3 :: s4 :: s5 :: .int .u8 (c : Nat) :: .slice (some ⟨g, 0, none⟩) 0 q :: s8 :: s9 :: s10 :: s11 :: s12 :: s13 :: s14 :: s15 :: s16 :: s17 :: s18 :: s19 :: s20 :: s21 :: s22 :: s23 :: s24 :: s25 :: s26 :: s27 :: s28 :: s29 :: s30 :: s31 :: s32 :: s33 :: s34 :: s35 :: s36 :: s37 :: s38 :: s39 :: s40 :: []).toArray, []⟩ w.drew := by
  have hn : (((Try.f11.body.bind (regRF 9)).getD #[])).size = 15 := by kernel_rfl
  rw [hn]
  have ST6_7_8_9_12_13_14 : ∀ (L : Array Bool) (F : Act) (v3 : Value) (w3 : World) (h3' : R v3 w3), L = #[true, true, true, true, true, true, true, true, true, true, true, true, true, true, true] → F = ⟨(.slice (some ⟨b, o, none⟩) n cap :: s1 :: s2 :: s3 :: v3 :: .int .i64 0 :: .int .u8 (c : Nat) :: .slice (some ⟨g, 0, none⟩) 0 q :: s8 :: s9 :: s10 :: s11 :: s12 :: s13 :: s14 :: s15 :: s16 :: s17 :: s18 :: s19 :: s20 :: s21 :: s22 :: s23 :: s24 :: s25 :: s26 :: s27 :: .slice (some ⟨g, 0, none⟩) 0 q :: .int .u8 (c : Nat) :: .int .u8 (c1 : Nat) :: .int .u8 (c2 : Nat) :: .slice (some ⟨b, o, none⟩) n cap :: .pointer (some ⟨b, o, none⟩) :: .int .u8 (x0 : Nat) :: .int .u8 (y : Nat) :: .slice (some ⟨w.heap.size, 0, none⟩) 1 1 :: .slice (some ⟨g2, 0, none⟩) 1 q2 :: .slice (some ⟨b, o, none⟩) n cap :: .slice a1 n1 cap1 :: v3 :: []).toArray, []⟩ → wpAny Try.prog .any ((Try.f11.body.bind (regRF 9)).getD #[]) Q 0 L F w3 := by
    intro L F v3 w3 h3' hL hF
    subst hL hF
    refine wpAny_done (by kernel_rfl) ?_ _
    exact hQ _ _ _ _ _ _ _ _ _ _ _ _ _ v3 w3 h3'
  have ST6_7_8_9_12_13 : ∀ (L : Array Bool) (F : Act) (v3 : Value) (w3 : World) (h3' : R v3 w3), L = #[true, true, true, true, true, true, true, true, true, true, true, true, true, true, false] → F = ⟨(.slice (some ⟨b, o, none⟩) n cap :: s1 :: s2 :: s3 :: v3 :: s5 :: .int .u8 (c : Nat) :: .slice (some ⟨g, 0, none⟩) 0 q :: s8 :: s9 :: s10 :: s11 :: s12 :: s13 :: s14 :: s15 :: s16 :: s17 :: s18 :: s19 :: s20 :: s21 :: s22 :: s23 :: s24 :: s25 :: s26 :: s27 :: .slice (some ⟨g, 0, none⟩) 0 q :: .int .u8 (c : Nat) :: .int .u8 (c1 : Nat) :: .int .u8 (c2 : Nat) :: .slice (some ⟨b, o, none⟩) n cap :: .pointer (some ⟨b, o, none⟩) :: .int .u8 (x0 : Nat) :: .int .u8 (y : Nat) :: .slice (some ⟨w.heap.size, 0, none⟩) 1 1 :: .slice (some ⟨g2, 0, none⟩) 1 q2 :: .slice (some ⟨b, o, none⟩) n cap :: .slice a1 n1 cap1 :: v3 :: []).toArray, []⟩ → wpAny Try.prog .any ((Try.f11.body.bind (regRF 9)).getD #[]) Q 1 L F w3 := by
    intro L F v3 w3 h3' hL hF
    subst hL hF
    refine wpAny_all (rs := [14]) (by kernel_rfl) (by decide) ?_
    intro i hi
    simp only [List.mem_cons, List.not_mem_nil, or_false] at hi
    subst hi
    refine op_val (.int .i64 0) rfl (by kernel_rfl) (w' := w3) (by kernel_rfl) ?_
    exact ST6_7_8_9_12_13_14 _ _ v3 w3 h3' (by kernel_rfl) (by kernel_rfl)
  have ST6_7_8_9_12 : ∀ (L : Array Bool) (F : Act) (v3 : Value) (w3 : World) (h3' : R v3 w3), L = #[true, true, true, true, true, true, true, true, true, true, true, true, true, false, false] → F = ⟨(.slice (some ⟨b, o, none⟩) n cap :: s1 :: s2 :: s3 :: s4 :: s5 :: .int .u8 (c : Nat) :: .slice (some ⟨g, 0, none⟩) 0 q :: s8 :: s9 :: s10 :: s11 :: s12 :: s13 :: s14 :: s15 :: s16 :: s17 :: s18 :: s19 :: s20 :: s21 :: s22 :: s23 :: s24 :: s25 :: s26 :: s27 :: .slice (some ⟨g, 0, none⟩) 0 q :: .int .u8 (c : Nat) :: .int .u8 (c1 : Nat) :: .int .u8 (c2 : Nat) :: .slice (some ⟨b, o, none⟩) n cap :: .pointer (some ⟨b, o, none⟩) :: .int .u8 (x0 : Nat) :: .int .u8 (y : Nat) :: .slice (some ⟨w.heap.size, 0, none⟩) 1 1 :: .slice (some ⟨g2, 0, none⟩) 1 q2 :: .slice (some ⟨b, o, none⟩) n cap :: .slice a1 n1 cap1 :: v3 :: []).toArray, []⟩ → wpAny Try.prog .any ((Try.f11.body.bind (regRF 9)).getD #[]) Q 2 L F w3 := by
    intro L F v3 w3 h3' hL hF
    subst hL hF
    refine wpAny_all (rs := [13]) (by kernel_rfl) (by decide) ?_
    intro i hi
    simp only [List.mem_cons, List.not_mem_nil, or_false] at hi
    subst hi
    refine op_val v3 rfl (by kernel_rfl) (w' := w3) (by kernel_rfl) ?_
    exact ST6_7_8_9_12_13 _ _ v3 w3 h3' (by kernel_rfl) (by kernel_rfl)
  have ST6_7_8_9 : ∀ (L : Array Bool) (F : Act), L = #[true, true, true, true, true, true, true, true, true, true, true, true, false, false, false] → F = ⟨(.slice (some ⟨b, o, none⟩) n cap :: s1 :: s2 :: s3 :: s4 :: s5 :: .int .u8 (c : Nat) :: .slice (some ⟨g, 0, none⟩) 0 q :: s8 :: s9 :: s10 :: s11 :: s12 :: s13 :: s14 :: s15 :: s16 :: s17 :: s18 :: s19 :: s20 :: s21 :: s22 :: s23 :: s24 :: s25 :: s26 :: s27 :: .slice (some ⟨g, 0, none⟩) 0 q :: .int .u8 (c : Nat) :: .int .u8 (c1 : Nat) :: .int .u8 (c2 : Nat) :: .slice (some ⟨b, o, none⟩) n cap :: .pointer (some ⟨b, o, none⟩) :: .int .u8 (x0 : Nat) :: .int .u8 (y : Nat) :: .slice (some ⟨w.heap.size, 0, none⟩) 1 1 :: .slice (some ⟨g2, 0, none⟩) 1 q2 :: .slice (some ⟨b, o, none⟩) n cap :: .slice a1 n1 cap1 :: s40 :: []).toArray, []⟩ → wpAny Try.prog .any ((Try.f11.body.bind (regRF 9)).getD #[]) Q 3 L F w2 := by
    intro L F hL hF
    subst hL hF
    refine wpAny_all (rs := [12]) (by kernel_rfl) (by decide) ?_
    intro i hi
    simp only [List.mem_cons, List.not_mem_nil, or_false] at hi
    subst hi
    refine op_call 17 #[.slice (some ⟨g2, 0, none⟩) 1 q2, .slice a1 n1 cap1] rfl (by kernel_rfl) (by kernel_rfl) (hj.mono ?_)
    rintro e w3 ⟨v3, rfl, h3'⟩
    exact ⟨v3, rfl, ST6_7_8_9_12 _ _ v3 w3 h3' (by kernel_rfl) (by kernel_rfl)⟩
  have ST6_7_8 : ∀ (L : Array Bool) (F : Act), L = #[true, true, true, true, true, true, true, true, true, false, true, true, false, false, false] → F = ⟨(.slice (some ⟨b, o, none⟩) n cap :: s1 :: s2 :: s3 :: s4 :: s5 :: .int .u8 (c : Nat) :: .slice (some ⟨g, 0, none⟩) 0 q :: s8 :: s9 :: s10 :: s11 :: s12 :: s13 :: s14 :: s15 :: s16 :: s17 :: s18 :: s19 :: s20 :: s21 :: s22 :: s23 :: s24 :: s25 :: s26 :: s27 :: .slice (some ⟨g, 0, none⟩) 0 q :: .int .u8 (c : Nat) :: .int .u8 (c1 : Nat) :: .int .u8 (c2 : Nat) :: .slice (some ⟨b, o, none⟩) n cap :: .pointer (some ⟨b, o, none⟩) :: .int .u8 (x0 : Nat) :: .int .u8 (y : Nat) :: .slice (some ⟨w.heap.size, 0, none⟩) 1 1 :: s37 :: .slice (some ⟨b, o, none⟩) n cap :: .slice a1 n1 cap1 :: s40 :: []).toArray, []⟩ → wpAny Try.prog .any ((Try.f11.body.bind (regRF 9)).getD #[]) Q 4 L F (w.drew.alloc (.cells #[.int .u8 (y : Nat)] 5)) := by
    intro L F hL hF
    subst hL hF
    refine wpAny_all (rs := [9]) (by kernel_rfl) (by decide) ?_
    intro i hi
    simp only [List.mem_cons, List.not_mem_nil, or_false] at hi
    subst hi
    refine op_val (.slice (some ⟨g2, 0, none⟩) 1 q2) rfl (by kernel_rfl) (run_app (.tmp 28) (.tmp 36) (.slice (some ⟨g, 0, none⟩) 0 q) (.slice (some ⟨w.heap.size, 0, none⟩) 1 1) _ rfl rfl (by kernel_rfl) (by kernel_rfl) happ) ?_
    exact ST6_7_8_9 _ _ (by kernel_rfl) (by kernel_rfl)
  have ST6_7 : ∀ (L : Array Bool) (F : Act), L = #[true, true, true, true, true, true, true, true, false, false, true, true, false, false, false] → F = ⟨(.slice (some ⟨b, o, none⟩) n cap :: s1 :: s2 :: s3 :: s4 :: s5 :: .int .u8 (c : Nat) :: .slice (some ⟨g, 0, none⟩) 0 q :: s8 :: s9 :: s10 :: s11 :: s12 :: s13 :: s14 :: s15 :: s16 :: s17 :: s18 :: s19 :: s20 :: s21 :: s22 :: s23 :: s24 :: s25 :: s26 :: s27 :: .slice (some ⟨g, 0, none⟩) 0 q :: .int .u8 (c : Nat) :: .int .u8 (c1 : Nat) :: .int .u8 (c2 : Nat) :: .slice (some ⟨b, o, none⟩) n cap :: .pointer (some ⟨b, o, none⟩) :: .int .u8 (x0 : Nat) :: .int .u8 (y : Nat) :: s36 :: s37 :: .slice (some ⟨b, o, none⟩) n cap :: .slice a1 n1 cap1 :: s40 :: []).toArray, []⟩ → wpAny Try.prog .any ((Try.f11.body.bind (regRF 9)).getD #[]) Q 5 L F w.drew := by
    intro L F hL hF
    subst hL hF
    refine wpAny_all (rs := [8]) (by kernel_rfl) (by decide) ?_
    intro i hi
    simp only [List.mem_cons, List.not_mem_nil, or_false] at hi
    subst hi
    refine op_val (.slice (some ⟨w.heap.size, 0, none⟩) 1 1) rfl (by kernel_rfl) (w' := (w.drew.alloc (.cells #[.int .u8 (y : Nat)] 5))) (by kernel_rfl) ?_
    exact ST6_7_8 _ _ (by kernel_rfl) (by kernel_rfl)
  have ST6 : ∀ (L : Array Bool) (F : Act), L = #[true, true, true, true, true, true, true, false, false, false, true, true, false, false, false] → F = ⟨(.slice (some ⟨b, o, none⟩) n cap :: s1 :: s2 :: s3 :: s4 :: s5 :: .int .u8 (c : Nat) :: .slice (some ⟨g, 0, none⟩) 0 q :: s8 :: s9 :: s10 :: s11 :: s12 :: s13 :: s14 :: s15 :: s16 :: s17 :: s18 :: s19 :: s20 :: s21 :: s22 :: s23 :: s24 :: s25 :: s26 :: s27 :: .slice (some ⟨g, 0, none⟩) 0 q :: .int .u8 (c : Nat) :: .int .u8 (c1 : Nat) :: .int .u8 (c2 : Nat) :: .slice (some ⟨b, o, none⟩) n cap :: .pointer (some ⟨b, o, none⟩) :: .int .u8 (x0 : Nat) :: s35 :: s36 :: s37 :: .slice (some ⟨b, o, none⟩) n cap :: .slice a1 n1 cap1 :: s40 :: []).toArray, []⟩ → wpAny Try.prog .any ((Try.f11.body.bind (regRF 9)).getD #[]) Q 6 L F w.drew := by
    intro L F hL hF
    subst hL hF
    refine wpAny_all (rs := [7]) (by kernel_rfl) (by decide) ?_
    intro i hi
    simp only [List.mem_cons, List.not_mem_nil, or_false] at hi
    subst hi
    refine op_sem (binOp .or 5 (.int .u8 (c2 : Nat)) (.int .u8 (x0 : Nat))) (.int .u8 (y : Nat)) rfl (by kernel_rfl) (by kernel_rfl) (h7 _) ?_
    exact ST6_7 _ _ (by kernel_rfl) (by kernel_rfl)
  have ST : ∀ (L : Array Bool) (F : Act), L = #[true, true, true, true, true, true, false, false, false, false, true, true, false, false, false] → F = ⟨(.slice (some ⟨b, o, none⟩) n cap :: s1 :: s2 :: s3 :: s4 :: s5 :: .int .u8 (c : Nat) :: .slice (some ⟨g, 0, none⟩) 0 q :: s8 :: s9 :: s10 :: s11 :: s12 :: s13 :: s14 :: s15 :: s16 :: s17 :: s18 :: s19 :: s20 :: s21 :: s22 :: s23 :: s24 :: s25 :: s26 :: s27 :: .slice (some ⟨g, 0, none⟩) 0 q :: .int .u8 (c : Nat) :: .int .u8 (c1 : Nat) :: .int .u8 (c2 : Nat) :: .slice (some ⟨b, o, none⟩) n cap :: .pointer (some ⟨b, o, none⟩) :: s34 :: s35 :: s36 :: s37 :: .slice (some ⟨b, o, none⟩) n cap :: .slice a1 n1 cap1 :: s40 :: []).toArray, []⟩ → wpAny Try.prog .any ((Try.f11.body.bind (regRF 9)).getD #[]) Q 7 L F w.drew := by
    intro L F hL hF
    subst hL hF
    refine wpAny_all (rs := [6]) (by kernel_rfl) (by decide) ?_
    intro i hi
    simp only [List.mem_cons, List.not_mem_nil, or_false] at hi
    subst hi
    refine op_load 5 (.tmp 33) (.pointer (some ⟨b, o, none⟩)) (.int .u8 (x0 : Nat)) rfl rfl (by kernel_rfl) (by kernel_rfl) l6 ?_
    exact ST6 _ _ (by kernel_rfl) (by kernel_rfl)
  refine wpAny_take (i := 0) (v := (.slice (some ⟨g, 0, none⟩) 0 q)) rfl (by kernel_rfl) (by kernel_rfl) (by kernel_rfl) (fun c a w h => hQP c a _ _ w h) (Or.inl ⟨by kernel_rfl, fun w => by kernel_rfl⟩) ?_
  refine wpAny_take (i := 1) (v := (.int .u8 (c : Nat))) rfl (by kernel_rfl) (by kernel_rfl) (by kernel_rfl) (fun c a w h => hQP c a _ _ w h) (Or.inl ⟨by kernel_rfl, fun w => by kernel_rfl⟩) ?_
  refine wpAny_take (i := 2) (v := (.int .u8 (c1 : Nat))) rfl (by kernel_rfl) (by kernel_rfl) (by kernel_rfl) (fun c a w h => hQP c a _ _ w h) (Or.inl ⟨by kernel_rfl, fun w => run_sem (binOp .add 5 (.int .u8 (c : Nat)) (.int .u8 1)) _ (by kernel_rfl) (h2 w)⟩) ?_
  refine wpAny_take (i := 3) (v := (.int .u8 (c2 : Nat))) rfl (by kernel_rfl) (by kernel_rfl) (by kernel_rfl) (fun c a w h => hQP c a _ _ w h) (Or.inl ⟨by kernel_rfl, fun w => run_sem (binOp .shl 5 (.int .u8 (c1 : Nat)) (.int .u64 4)) _ (by kernel_rfl) (h3 w)⟩) ?_
  refine wpAny_take (i := 4) (v := (.slice (some ⟨b, o, none⟩) n cap)) rfl (by kernel_rfl) (by kernel_rfl) (by kernel_rfl) (fun c a w h => hQP c a _ _ w h) (Or.inl ⟨by kernel_rfl, fun w => by kernel_rfl⟩) ?_
  refine wpAny_take (i := 5) (v := (.pointer (some ⟨b, o, none⟩))) rfl (by kernel_rfl) (by kernel_rfl) (by kernel_rfl) (fun c a w h => hQP c a _ _ w h) (Or.inl ⟨by kernel_rfl, fun w => run_sem (Instr.indexAt 22 (.slice (some ⟨b, o, none⟩) n cap) (.int .i64 0)) _ (by kernel_rfl) (h5 w)⟩) ?_
  refine wpAny_take (i := 10) (v := (.slice (some ⟨b, o, none⟩) n cap)) rfl (by kernel_rfl) (by kernel_rfl) (by kernel_rfl) (fun c a w h => hQP c a _ _ w h) (Or.inl ⟨by kernel_rfl, fun w => by kernel_rfl⟩) ?_
  refine wpAny_take (i := 11) (v := (.slice a1 n1 cap1)) rfl (by kernel_rfl) (by kernel_rfl) (by kernel_rfl) (fun c a w h => hQP c a _ _ w h) (Or.inl ⟨by kernel_rfl, fun w => run_sem (Instr.sliceAt 22 (.slice (some ⟨b, o, none⟩) n cap) (some (.int .i64 1)) none none) _ (by kernel_rfl) (h11 w)⟩) ?_
  exact ST _ _ (by kernel_rfl) (by kernel_rfl)
end Go.Proofs.Ytaopmcpihdcaiaa
