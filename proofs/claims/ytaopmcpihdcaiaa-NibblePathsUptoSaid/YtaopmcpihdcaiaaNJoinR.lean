/- nibble.join: the byte of a pair put behind what lies in the box: the round's region, in whatever order. -/
import Derived.Test.YtaopmcpihdcaiaaNChunk
import Derived.Test.YtaopmcpihdcaiaaLat
namespace Go.Proofs.Ytaopmcpihdcaiaa
open Go.RowKit

/-- The operations of the region of that number, in ranges over functions, too. -/
def regRF (n : Nat) : Code → Option (Array Oper)
  | .region i ops _ => if i = n then some ops else none
  | .block _ c => regRF n c
  | .seq a b => match regRF n a with
    | some c => some c
    | none => regRF n b
  | .loop c => regRF n c
  | .scope c => regRF n c
  | .cond _ a b => match regRF n a with
    | some c => some c
    | none => regRF n b
  | .rangeFunc _ _ a b => match regRF n a with
    | some c => some c
    | none => regRF n b
  | _ => none
theorem run_stv {P : Program} {a : Act} {o : Oper} {w w' : World} (T : TypeId) (x y : Operand) (p v : Value) (ho : o.op = .store T x y) (hx : a.eval x = p) (hy : a.eval y = v) (hr : (Instr.storeAt T p v).run P w = .ok () w') : (execOp a.eval o).run P w = .ok .skip w' := by
  unfold execOp
  rw [ho]
  simp only [hx, hy, Sem.run_bind, hr, Result.andThen_ok, Sem.run_pure]
theorem load_b {w : World} {b o : Nat} {x : Nat} (h : w.cell? ⟨b, o, none⟩ = some (.int .u8 (x : Nat))) : (Instr.loadAt 5 (.pointer (some ⟨b, o, none⟩))).run Try.prog w = .ok (.int .u8 (x : Nat)) w := by
  go_simp
theorem load_s {w : World} {B : Nat} {a : Option Addr} {n c : Nat} (h : w.cell? ⟨B, 0, none⟩ = some (.slice a n c)) : (Instr.loadAt 22 (.pointer (some ⟨B, 0, none⟩))).run Try.prog w = .ok (.slice a n c) w := by
  go_simp
theorem store_s {w : World} {B : Nat} {u : Value} {a : Option Addr} {n c : Nat} (h : w.cell? ⟨B, 0, none⟩ = some u) (hf : w.frozen? ⟨B, 0, none⟩ = false) : (Instr.storeAt 22 (.pointer (some ⟨B, 0, none⟩)) (.slice a n c)).run Try.prog w = .ok () (w.setCell ⟨B, 0, none⟩ (.slice a n c)) := by
  go_simp
set_option maxRecDepth 100000 in
set_option maxHeartbeats 8000000 in
theorem join_r {w w2 : World} {B b p g k q g2 q2 x0 x1 y : Nat} {s0 s1 s3 s4 s6 s7 s8 s9 s10 s11 s12 s13 s14 s15 s16 s17 s18 s19 s20 : Value}
    (l0 : (Instr.loadAt 22 (.pointer (some ⟨B, 0, none⟩))).run Try.prog w.drew = .ok (.slice (some ⟨g, 0, none⟩) k q) w.drew)
    (l1 : (Instr.loadAt 22 (.pointer (some ⟨B, 0, none⟩))).run Try.prog (w.drew.alloc (.cells #[.int .u8 (y : Nat)] 5)) = .ok (.slice (some ⟨g, 0, none⟩) k q) (w.drew.alloc (.cells #[.int .u8 (y : Nat)] 5)))
    (l2 : (Instr.loadAt 5 (.pointer (some ⟨b, p, none⟩))).run Try.prog w.drew = .ok (.int .u8 (x0 : Nat)) w.drew)
    (l3 : (Instr.loadAt 5 (.pointer (some ⟨b, p + 1, none⟩))).run Try.prog w.drew = .ok (.int .u8 (x1 : Nat)) w.drew)
    (h4 : ∀ w, (binOp .shl 5 (.int .u8 (x0 : Nat)) (.int .u64 4)).run Try.prog w = .ok (.int .u8 ((x0 * 16 : Nat) : Int)) w)
    (h8 : ∀ w, (binOp .or 5 (.int .u8 ((x0 * 16 : Nat) : Int)) (.int .u8 (x1 : Nat))).run Try.prog w = .ok (.int .u8 (y : Nat)) w)
    (happ : (Builtin.append_ #[22, 22] 22 #[.slice (some ⟨g, 0, none⟩) k q, .slice (some ⟨w.heap.size, 0, none⟩) 1 1]).run Try.prog (w.drew.alloc (.cells #[.int .u8 (y : Nat)] 5)) = .ok (.slice (some ⟨g2, 0, none⟩) (k + 1) q2) w2)
    (hst : (Instr.storeAt 22 (.pointer (some ⟨B, 0, none⟩)) (.slice (some ⟨g2, 0, none⟩) (k + 1) q2)).run Try.prog w2 = .ok () (w2.setCell ⟨B, 0, none⟩ (.slice (some ⟨g2, 0, none⟩) (k + 1) q2)))
    {Q : Exit → Act → World → Prop} (hQP : ∀ c (a : Act) d v w, Q (.panic c) (a.put d v) w → Q (.panic c) a w) (hQ : ∀ u9 u10 u11 u12 u13 u14 u15 u16 u17 u18 u19 : Value, Q .normal ⟨(s0 :: s1 :: .pointer (some ⟨B, 0, none⟩) :: s3 :: s4 :: .slice (some ⟨b, p, none⟩) 2 2 :: s6 :: s7 :: s8 :: u9 :: u10 :: u11 :: u12 :: u13 :: u14 :: u15 :: u16 :: u17 :: u18 :: u19 :: s20 :: []).toArray, []⟩ (w2.setCell ⟨B, 0, none⟩ (.slice (some ⟨g2, 0, none⟩) (k + 1) q2))) :
    wpAny Try.prog .any ((Try.f17.body.bind (regRF 3)).getD #[]) Q (((Try.f17.body.bind (regRF 3)).getD #[])).size (Array.replicate (((Try.f17.body.bind (regRF 3)).getD #[])).size false) ⟨(s0 :: s1 :: .pointer (some ⟨B, 0, none⟩) :: s3 :: s4 :: .slice (some ⟨b, p, none⟩) 2 2 :: s6 :: s7 :: s8 :: s9 :: s10 :: s11 :: s12 :: s13 :: s14 :: s15 :: s16 :: s17 :: s18 :: s19 :: s20 :: []).toArray, []⟩ w.drew := by
  have hn : (((Try.f17.body.bind (regRF 3)).getD #[])).size = 12 := by kernel_rfl
  rw [hn]
  have ST0_3_4_7_8_9_10_11 : ∀ (L : Array Bool) (F : Act), L = #[true, true, true, true, true, true, true, true, true, true, true, true] → F = ⟨(s0 :: s1 :: .pointer (some ⟨B, 0, none⟩) :: s3 :: s4 :: .slice (some ⟨b, p, none⟩) 2 2 :: s6 :: s7 :: s8 :: .slice (some ⟨g, 0, none⟩) k q :: .slice (some ⟨b, p, none⟩) 2 2 :: .pointer (some ⟨b, p, none⟩) :: .int .u8 (x0 : Nat) :: .int .u8 ((x0 * 16 : Nat) : Int) :: .slice (some ⟨b, p, none⟩) 2 2 :: .pointer (some ⟨b, p + 1, none⟩) :: .int .u8 (x1 : Nat) :: .int .u8 (y : Nat) :: .slice (some ⟨w.heap.size, 0, none⟩) 1 1 :: .slice (some ⟨g2, 0, none⟩) (k + 1) q2 :: s20 :: []).toArray, []⟩ → wpAny Try.prog .any ((Try.f17.body.bind (regRF 3)).getD #[]) Q 0 L F (w2.setCell ⟨B, 0, none⟩ (.slice (some ⟨g2, 0, none⟩) (k + 1) q2)) := by
    intro L F hL hF
    subst hL hF
    refine wpAny_done (by kernel_rfl) ?_ _
    exact hQ _ _ _ _ _ _ _ _ _ _ _
  have ST0_3_4_7_8_9_10 : ∀ (L : Array Bool) (F : Act), L = #[true, true, true, true, true, true, true, true, true, true, true, false] → F = ⟨(s0 :: s1 :: .pointer (some ⟨B, 0, none⟩) :: s3 :: s4 :: .slice (some ⟨b, p, none⟩) 2 2 :: s6 :: s7 :: s8 :: .slice (some ⟨g, 0, none⟩) k q :: .slice (some ⟨b, p, none⟩) 2 2 :: .pointer (some ⟨b, p, none⟩) :: .int .u8 (x0 : Nat) :: .int .u8 ((x0 * 16 : Nat) : Int) :: .slice (some ⟨b, p, none⟩) 2 2 :: .pointer (some ⟨b, p + 1, none⟩) :: .int .u8 (x1 : Nat) :: .int .u8 (y : Nat) :: .slice (some ⟨w.heap.size, 0, none⟩) 1 1 :: .slice (some ⟨g2, 0, none⟩) (k + 1) q2 :: s20 :: []).toArray, []⟩ → wpAny Try.prog .any ((Try.f17.body.bind (regRF 3)).getD #[]) Q 1 L F w2 := by
    intro L F hL hF
    subst hL hF
    refine wpAny_all (rs := [11]) (by kernel_rfl) (by decide) ?_
    intro i hi
    simp only [List.mem_cons, List.not_mem_nil, or_false] at hi
    subst hi
    refine op_skip rfl rfl (by kernel_rfl) (run_stv 22 (.tmp 2) (.tmp 19) (.pointer (some ⟨B, 0, none⟩)) (.slice (some ⟨g2, 0, none⟩) (k + 1) q2) rfl (by kernel_rfl) (by kernel_rfl) hst) ?_
    exact ST0_3_4_7_8_9_10_11 _ _ (by kernel_rfl) (by kernel_rfl)
  have ST0_3_4_7_8_9 : ∀ (L : Array Bool) (F : Act), L = #[true, true, true, true, true, true, true, true, true, true, false, false] → F = ⟨(s0 :: s1 :: .pointer (some ⟨B, 0, none⟩) :: s3 :: s4 :: .slice (some ⟨b, p, none⟩) 2 2 :: s6 :: s7 :: s8 :: .slice (some ⟨g, 0, none⟩) k q :: .slice (some ⟨b, p, none⟩) 2 2 :: .pointer (some ⟨b, p, none⟩) :: .int .u8 (x0 : Nat) :: .int .u8 ((x0 * 16 : Nat) : Int) :: .slice (some ⟨b, p, none⟩) 2 2 :: .pointer (some ⟨b, p + 1, none⟩) :: .int .u8 (x1 : Nat) :: .int .u8 (y : Nat) :: .slice (some ⟨w.heap.size, 0, none⟩) 1 1 :: s19 :: s20 :: []).toArray, []⟩ → wpAny Try.prog .any ((Try.f17.body.bind (regRF 3)).getD #[]) Q 2 L F (w.drew.alloc (.cells #[.int .u8 (y : Nat)] 5)) := by
    intro L F hL hF
    subst hL hF
    refine wpAny_all (rs := [10]) (by kernel_rfl) (by decide) ?_
    intro i hi
    simp only [List.mem_cons, List.not_mem_nil, or_false] at hi
    subst hi
    refine op_val (.slice (some ⟨g2, 0, none⟩) (k + 1) q2) rfl (by kernel_rfl) (run_app (.tmp 9) (.tmp 18) (.slice (some ⟨g, 0, none⟩) k q) (.slice (some ⟨w.heap.size, 0, none⟩) 1 1) _ rfl rfl (by kernel_rfl) (by kernel_rfl) happ) ?_
    exact ST0_3_4_7_8_9_10 _ _ (by kernel_rfl) (by kernel_rfl)
  have ST0_3_4_7_8 : ∀ (L : Array Bool) (F : Act), L = #[true, true, true, true, true, true, true, true, true, false, false, false] → F = ⟨(s0 :: s1 :: .pointer (some ⟨B, 0, none⟩) :: s3 :: s4 :: .slice (some ⟨b, p, none⟩) 2 2 :: s6 :: s7 :: s8 :: .slice (some ⟨g, 0, none⟩) k q :: .slice (some ⟨b, p, none⟩) 2 2 :: .pointer (some ⟨b, p, none⟩) :: .int .u8 (x0 : Nat) :: .int .u8 ((x0 * 16 : Nat) : Int) :: .slice (some ⟨b, p, none⟩) 2 2 :: .pointer (some ⟨b, p + 1, none⟩) :: .int .u8 (x1 : Nat) :: .int .u8 (y : Nat) :: s18 :: s19 :: s20 :: []).toArray, []⟩ → wpAny Try.prog .any ((Try.f17.body.bind (regRF 3)).getD #[]) Q 3 L F w.drew := by
    intro L F hL hF
    subst hL hF
    refine wpAny_all (rs := [9]) (by kernel_rfl) (by decide) ?_
    intro i hi
    simp only [List.mem_cons, List.not_mem_nil, or_false] at hi
    subst hi
    refine op_val (.slice (some ⟨w.heap.size, 0, none⟩) 1 1) rfl (by kernel_rfl) (w' := (w.drew.alloc (.cells #[.int .u8 (y : Nat)] 5))) (by kernel_rfl) ?_
    exact ST0_3_4_7_8_9 _ _ (by kernel_rfl) (by kernel_rfl)
  have ST3_4_7_8_9 : ∀ (L : Array Bool) (F : Act), L = #[false, true, true, true, true, true, true, true, true, true, false, false] → F = ⟨(s0 :: s1 :: .pointer (some ⟨B, 0, none⟩) :: s3 :: s4 :: .slice (some ⟨b, p, none⟩) 2 2 :: s6 :: s7 :: s8 :: s9 :: .slice (some ⟨b, p, none⟩) 2 2 :: .pointer (some ⟨b, p, none⟩) :: .int .u8 (x0 : Nat) :: .int .u8 ((x0 * 16 : Nat) : Int) :: .slice (some ⟨b, p, none⟩) 2 2 :: .pointer (some ⟨b, p + 1, none⟩) :: .int .u8 (x1 : Nat) :: .int .u8 (y : Nat) :: .slice (some ⟨w.heap.size, 0, none⟩) 1 1 :: s19 :: s20 :: []).toArray, []⟩ → wpAny Try.prog .any ((Try.f17.body.bind (regRF 3)).getD #[]) Q 3 L F (w.drew.alloc (.cells #[.int .u8 (y : Nat)] 5)) := by
    intro L F hL hF
    subst hL hF
    refine wpAny_all (rs := [0]) (by kernel_rfl) (by decide) ?_
    intro i hi
    simp only [List.mem_cons, List.not_mem_nil, or_false] at hi
    subst hi
    refine op_load 22 (.tmp 2) (.pointer (some ⟨B, 0, none⟩)) (.slice (some ⟨g, 0, none⟩) k q) rfl rfl (by kernel_rfl) (by kernel_rfl) (l1) ?_
    exact ST0_3_4_7_8_9 _ _ (by kernel_rfl) (by kernel_rfl)
  have ST0_3_4_7 : ∀ (L : Array Bool) (F : Act), L = #[true, true, true, true, true, true, true, true, false, false, false, false] → F = ⟨(s0 :: s1 :: .pointer (some ⟨B, 0, none⟩) :: s3 :: s4 :: .slice (some ⟨b, p, none⟩) 2 2 :: s6 :: s7 :: s8 :: .slice (some ⟨g, 0, none⟩) k q :: .slice (some ⟨b, p, none⟩) 2 2 :: .pointer (some ⟨b, p, none⟩) :: .int .u8 (x0 : Nat) :: .int .u8 ((x0 * 16 : Nat) : Int) :: .slice (some ⟨b, p, none⟩) 2 2 :: .pointer (some ⟨b, p + 1, none⟩) :: .int .u8 (x1 : Nat) :: s17 :: s18 :: s19 :: s20 :: []).toArray, []⟩ → wpAny Try.prog .any ((Try.f17.body.bind (regRF 3)).getD #[]) Q 4 L F w.drew := by
    intro L F hL hF
    subst hL hF
    refine wpAny_all (rs := [8]) (by kernel_rfl) (by decide) ?_
    intro i hi
    simp only [List.mem_cons, List.not_mem_nil, or_false] at hi
    subst hi
    refine op_sem (binOp .or 5 (.int .u8 ((x0 * 16 : Nat) : Int)) (.int .u8 (x1 : Nat))) (.int .u8 (y : Nat)) rfl (by kernel_rfl) (by kernel_rfl) (h8 _) ?_
    exact ST0_3_4_7_8 _ _ (by kernel_rfl) (by kernel_rfl)
  have ST3_4_7_8 : ∀ (L : Array Bool) (F : Act), L = #[false, true, true, true, true, true, true, true, true, false, false, false] → F = ⟨(s0 :: s1 :: .pointer (some ⟨B, 0, none⟩) :: s3 :: s4 :: .slice (some ⟨b, p, none⟩) 2 2 :: s6 :: s7 :: s8 :: s9 :: .slice (some ⟨b, p, none⟩) 2 2 :: .pointer (some ⟨b, p, none⟩) :: .int .u8 (x0 : Nat) :: .int .u8 ((x0 * 16 : Nat) : Int) :: .slice (some ⟨b, p, none⟩) 2 2 :: .pointer (some ⟨b, p + 1, none⟩) :: .int .u8 (x1 : Nat) :: .int .u8 (y : Nat) :: s18 :: s19 :: s20 :: []).toArray, []⟩ → wpAny Try.prog .any ((Try.f17.body.bind (regRF 3)).getD #[]) Q 4 L F w.drew := by
    intro L F hL hF
    subst hL hF
    refine wpAny_all (rs := [0, 9]) (by kernel_rfl) (by decide) ?_
    intro i hi
    simp only [List.mem_cons, List.not_mem_nil, or_false] at hi
    rcases hi with rfl | rfl
    · refine op_load 22 (.tmp 2) (.pointer (some ⟨B, 0, none⟩)) (.slice (some ⟨g, 0, none⟩) k q) rfl rfl (by kernel_rfl) (by kernel_rfl) (l0) ?_
      exact ST0_3_4_7_8 _ _ (by kernel_rfl) (by kernel_rfl)
    · refine op_val (.slice (some ⟨w.heap.size, 0, none⟩) 1 1) rfl (by kernel_rfl) (w' := (w.drew.alloc (.cells #[.int .u8 (y : Nat)] 5))) (by kernel_rfl) ?_
      exact ST3_4_7_8_9 _ _ (by kernel_rfl) (by kernel_rfl)
  have ST0_3_4 : ∀ (L : Array Bool) (F : Act), L = #[true, true, true, true, true, true, true, false, false, false, false, false] → F = ⟨(s0 :: s1 :: .pointer (some ⟨B, 0, none⟩) :: s3 :: s4 :: .slice (some ⟨b, p, none⟩) 2 2 :: s6 :: s7 :: s8 :: .slice (some ⟨g, 0, none⟩) k q :: .slice (some ⟨b, p, none⟩) 2 2 :: .pointer (some ⟨b, p, none⟩) :: .int .u8 (x0 : Nat) :: .int .u8 ((x0 * 16 : Nat) : Int) :: .slice (some ⟨b, p, none⟩) 2 2 :: .pointer (some ⟨b, p + 1, none⟩) :: s16 :: s17 :: s18 :: s19 :: s20 :: []).toArray, []⟩ → wpAny Try.prog .any ((Try.f17.body.bind (regRF 3)).getD #[]) Q 5 L F w.drew := by
    intro L F hL hF
    subst hL hF
    refine wpAny_all (rs := [7]) (by kernel_rfl) (by decide) ?_
    intro i hi
    simp only [List.mem_cons, List.not_mem_nil, or_false] at hi
    subst hi
    refine op_load 5 (.tmp 15) (.pointer (some ⟨b, p + 1, none⟩)) (.int .u8 (x1 : Nat)) rfl rfl (by kernel_rfl) (by kernel_rfl) l3 ?_
    exact ST0_3_4_7 _ _ (by kernel_rfl) (by kernel_rfl)
  have ST0_3_7 : ∀ (L : Array Bool) (F : Act), L = #[true, true, true, true, false, true, true, true, false, false, false, false] → F = ⟨(s0 :: s1 :: .pointer (some ⟨B, 0, none⟩) :: s3 :: s4 :: .slice (some ⟨b, p, none⟩) 2 2 :: s6 :: s7 :: s8 :: .slice (some ⟨g, 0, none⟩) k q :: .slice (some ⟨b, p, none⟩) 2 2 :: .pointer (some ⟨b, p, none⟩) :: .int .u8 (x0 : Nat) :: s13 :: .slice (some ⟨b, p, none⟩) 2 2 :: .pointer (some ⟨b, p + 1, none⟩) :: .int .u8 (x1 : Nat) :: s17 :: s18 :: s19 :: s20 :: []).toArray, []⟩ → wpAny Try.prog .any ((Try.f17.body.bind (regRF 3)).getD #[]) Q 5 L F w.drew := by
    intro L F hL hF
    subst hL hF
    refine wpAny_all (rs := [4]) (by kernel_rfl) (by decide) ?_
    intro i hi
    simp only [List.mem_cons, List.not_mem_nil, or_false] at hi
    subst hi
    refine op_sem (binOp .shl 5 (.int .u8 (x0 : Nat)) (.int .u64 4)) (.int .u8 ((x0 * 16 : Nat) : Int)) rfl (by kernel_rfl) (by kernel_rfl) (h4 _) ?_
    exact ST0_3_4_7 _ _ (by kernel_rfl) (by kernel_rfl)
  have ST3_4_7 : ∀ (L : Array Bool) (F : Act), L = #[false, true, true, true, true, true, true, true, false, false, false, false] → F = ⟨(s0 :: s1 :: .pointer (some ⟨B, 0, none⟩) :: s3 :: s4 :: .slice (some ⟨b, p, none⟩) 2 2 :: s6 :: s7 :: s8 :: s9 :: .slice (some ⟨b, p, none⟩) 2 2 :: .pointer (some ⟨b, p, none⟩) :: .int .u8 (x0 : Nat) :: .int .u8 ((x0 * 16 : Nat) : Int) :: .slice (some ⟨b, p, none⟩) 2 2 :: .pointer (some ⟨b, p + 1, none⟩) :: .int .u8 (x1 : Nat) :: s17 :: s18 :: s19 :: s20 :: []).toArray, []⟩ → wpAny Try.prog .any ((Try.f17.body.bind (regRF 3)).getD #[]) Q 5 L F w.drew := by
    intro L F hL hF
    subst hL hF
    refine wpAny_all (rs := [0, 8]) (by kernel_rfl) (by decide) ?_
    intro i hi
    simp only [List.mem_cons, List.not_mem_nil, or_false] at hi
    rcases hi with rfl | rfl
    · refine op_load 22 (.tmp 2) (.pointer (some ⟨B, 0, none⟩)) (.slice (some ⟨g, 0, none⟩) k q) rfl rfl (by kernel_rfl) (by kernel_rfl) (l0) ?_
      exact ST0_3_4_7 _ _ (by kernel_rfl) (by kernel_rfl)
    · refine op_sem (binOp .or 5 (.int .u8 ((x0 * 16 : Nat) : Int)) (.int .u8 (x1 : Nat))) (.int .u8 (y : Nat)) rfl (by kernel_rfl) (by kernel_rfl) (h8 _) ?_
      exact ST3_4_7_8 _ _ (by kernel_rfl) (by kernel_rfl)
  have ST0_3 : ∀ (L : Array Bool) (F : Act), L = #[true, true, true, true, false, true, true, false, false, false, false, false] → F = ⟨(s0 :: s1 :: .pointer (some ⟨B, 0, none⟩) :: s3 :: s4 :: .slice (some ⟨b, p, none⟩) 2 2 :: s6 :: s7 :: s8 :: .slice (some ⟨g, 0, none⟩) k q :: .slice (some ⟨b, p, none⟩) 2 2 :: .pointer (some ⟨b, p, none⟩) :: .int .u8 (x0 : Nat) :: s13 :: .slice (some ⟨b, p, none⟩) 2 2 :: .pointer (some ⟨b, p + 1, none⟩) :: s16 :: s17 :: s18 :: s19 :: s20 :: []).toArray, []⟩ → wpAny Try.prog .any ((Try.f17.body.bind (regRF 3)).getD #[]) Q 6 L F w.drew := by
    intro L F hL hF
    subst hL hF
    refine wpAny_all (rs := [4, 7]) (by kernel_rfl) (by decide) ?_
    intro i hi
    simp only [List.mem_cons, List.not_mem_nil, or_false] at hi
    rcases hi with rfl | rfl
    · refine op_sem (binOp .shl 5 (.int .u8 (x0 : Nat)) (.int .u64 4)) (.int .u8 ((x0 * 16 : Nat) : Int)) rfl (by kernel_rfl) (by kernel_rfl) (h4 _) ?_
      exact ST0_3_4 _ _ (by kernel_rfl) (by kernel_rfl)
    · refine op_load 5 (.tmp 15) (.pointer (some ⟨b, p + 1, none⟩)) (.int .u8 (x1 : Nat)) rfl rfl (by kernel_rfl) (by kernel_rfl) l3 ?_
      exact ST0_3_7 _ _ (by kernel_rfl) (by kernel_rfl)
  have ST0_7 : ∀ (L : Array Bool) (F : Act), L = #[true, true, true, false, false, true, true, true, false, false, false, false] → F = ⟨(s0 :: s1 :: .pointer (some ⟨B, 0, none⟩) :: s3 :: s4 :: .slice (some ⟨b, p, none⟩) 2 2 :: s6 :: s7 :: s8 :: .slice (some ⟨g, 0, none⟩) k q :: .slice (some ⟨b, p, none⟩) 2 2 :: .pointer (some ⟨b, p, none⟩) :: s12 :: s13 :: .slice (some ⟨b, p, none⟩) 2 2 :: .pointer (some ⟨b, p + 1, none⟩) :: .int .u8 (x1 : Nat) :: s17 :: s18 :: s19 :: s20 :: []).toArray, []⟩ → wpAny Try.prog .any ((Try.f17.body.bind (regRF 3)).getD #[]) Q 6 L F w.drew := by
    intro L F hL hF
    subst hL hF
    refine wpAny_all (rs := [3]) (by kernel_rfl) (by decide) ?_
    intro i hi
    simp only [List.mem_cons, List.not_mem_nil, or_false] at hi
    subst hi
    refine op_load 5 (.tmp 11) (.pointer (some ⟨b, p, none⟩)) (.int .u8 (x0 : Nat)) rfl rfl (by kernel_rfl) (by kernel_rfl) l2 ?_
    exact ST0_3_7 _ _ (by kernel_rfl) (by kernel_rfl)
  have ST3_4 : ∀ (L : Array Bool) (F : Act), L = #[false, true, true, true, true, true, true, false, false, false, false, false] → F = ⟨(s0 :: s1 :: .pointer (some ⟨B, 0, none⟩) :: s3 :: s4 :: .slice (some ⟨b, p, none⟩) 2 2 :: s6 :: s7 :: s8 :: s9 :: .slice (some ⟨b, p, none⟩) 2 2 :: .pointer (some ⟨b, p, none⟩) :: .int .u8 (x0 : Nat) :: .int .u8 ((x0 * 16 : Nat) : Int) :: .slice (some ⟨b, p, none⟩) 2 2 :: .pointer (some ⟨b, p + 1, none⟩) :: s16 :: s17 :: s18 :: s19 :: s20 :: []).toArray, []⟩ → wpAny Try.prog .any ((Try.f17.body.bind (regRF 3)).getD #[]) Q 6 L F w.drew := by
    intro L F hL hF
    subst hL hF
    refine wpAny_all (rs := [0, 7]) (by kernel_rfl) (by decide) ?_
    intro i hi
    simp only [List.mem_cons, List.not_mem_nil, or_false] at hi
    rcases hi with rfl | rfl
    · refine op_load 22 (.tmp 2) (.pointer (some ⟨B, 0, none⟩)) (.slice (some ⟨g, 0, none⟩) k q) rfl rfl (by kernel_rfl) (by kernel_rfl) (l0) ?_
      exact ST0_3_4 _ _ (by kernel_rfl) (by kernel_rfl)
    · refine op_load 5 (.tmp 15) (.pointer (some ⟨b, p + 1, none⟩)) (.int .u8 (x1 : Nat)) rfl rfl (by kernel_rfl) (by kernel_rfl) l3 ?_
      exact ST3_4_7 _ _ (by kernel_rfl) (by kernel_rfl)
  have ST3_7 : ∀ (L : Array Bool) (F : Act), L = #[false, true, true, true, false, true, true, true, false, false, false, false] → F = ⟨(s0 :: s1 :: .pointer (some ⟨B, 0, none⟩) :: s3 :: s4 :: .slice (some ⟨b, p, none⟩) 2 2 :: s6 :: s7 :: s8 :: s9 :: .slice (some ⟨b, p, none⟩) 2 2 :: .pointer (some ⟨b, p, none⟩) :: .int .u8 (x0 : Nat) :: s13 :: .slice (some ⟨b, p, none⟩) 2 2 :: .pointer (some ⟨b, p + 1, none⟩) :: .int .u8 (x1 : Nat) :: s17 :: s18 :: s19 :: s20 :: []).toArray, []⟩ → wpAny Try.prog .any ((Try.f17.body.bind (regRF 3)).getD #[]) Q 6 L F w.drew := by
    intro L F hL hF
    subst hL hF
    refine wpAny_all (rs := [0, 4]) (by kernel_rfl) (by decide) ?_
    intro i hi
    simp only [List.mem_cons, List.not_mem_nil, or_false] at hi
    rcases hi with rfl | rfl
    · refine op_load 22 (.tmp 2) (.pointer (some ⟨B, 0, none⟩)) (.slice (some ⟨g, 0, none⟩) k q) rfl rfl (by kernel_rfl) (by kernel_rfl) (l0) ?_
      exact ST0_3_7 _ _ (by kernel_rfl) (by kernel_rfl)
    · refine op_sem (binOp .shl 5 (.int .u8 (x0 : Nat)) (.int .u64 4)) (.int .u8 ((x0 * 16 : Nat) : Int)) rfl (by kernel_rfl) (by kernel_rfl) (h4 _) ?_
      exact ST3_4_7 _ _ (by kernel_rfl) (by kernel_rfl)
  have ST0 : ∀ (L : Array Bool) (F : Act), L = #[true, true, true, false, false, true, true, false, false, false, false, false] → F = ⟨(s0 :: s1 :: .pointer (some ⟨B, 0, none⟩) :: s3 :: s4 :: .slice (some ⟨b, p, none⟩) 2 2 :: s6 :: s7 :: s8 :: .slice (some ⟨g, 0, none⟩) k q :: .slice (some ⟨b, p, none⟩) 2 2 :: .pointer (some ⟨b, p, none⟩) :: s12 :: s13 :: .slice (some ⟨b, p, none⟩) 2 2 :: .pointer (some ⟨b, p + 1, none⟩) :: s16 :: s17 :: s18 :: s19 :: s20 :: []).toArray, []⟩ → wpAny Try.prog .any ((Try.f17.body.bind (regRF 3)).getD #[]) Q 7 L F w.drew := by
    intro L F hL hF
    subst hL hF
    refine wpAny_all (rs := [3, 7]) (by kernel_rfl) (by decide) ?_
    intro i hi
    simp only [List.mem_cons, List.not_mem_nil, or_false] at hi
    rcases hi with rfl | rfl
    · refine op_load 5 (.tmp 11) (.pointer (some ⟨b, p, none⟩)) (.int .u8 (x0 : Nat)) rfl rfl (by kernel_rfl) (by kernel_rfl) l2 ?_
      exact ST0_3 _ _ (by kernel_rfl) (by kernel_rfl)
    · refine op_load 5 (.tmp 15) (.pointer (some ⟨b, p + 1, none⟩)) (.int .u8 (x1 : Nat)) rfl rfl (by kernel_rfl) (by kernel_rfl) l3 ?_
      exact ST0_7 _ _ (by kernel_rfl) (by kernel_rfl)
  have ST3 : ∀ (L : Array Bool) (F : Act), L = #[false, true, true, true, false, true, true, false, false, false, false, false] → F = ⟨(s0 :: s1 :: .pointer (some ⟨B, 0, none⟩) :: s3 :: s4 :: .slice (some ⟨b, p, none⟩) 2 2 :: s6 :: s7 :: s8 :: s9 :: .slice (some ⟨b, p, none⟩) 2 2 :: .pointer (some ⟨b, p, none⟩) :: .int .u8 (x0 : Nat) :: s13 :: .slice (some ⟨b, p, none⟩) 2 2 :: .pointer (some ⟨b, p + 1, none⟩) :: s16 :: s17 :: s18 :: s19 :: s20 :: []).toArray, []⟩ → wpAny Try.prog .any ((Try.f17.body.bind (regRF 3)).getD #[]) Q 7 L F w.drew := by
    intro L F hL hF
    subst hL hF
    refine wpAny_all (rs := [0, 4, 7]) (by kernel_rfl) (by decide) ?_
    intro i hi
    simp only [List.mem_cons, List.not_mem_nil, or_false] at hi
    rcases hi with rfl | rfl | rfl
    · refine op_load 22 (.tmp 2) (.pointer (some ⟨B, 0, none⟩)) (.slice (some ⟨g, 0, none⟩) k q) rfl rfl (by kernel_rfl) (by kernel_rfl) (l0) ?_
      exact ST0_3 _ _ (by kernel_rfl) (by kernel_rfl)
    · refine op_sem (binOp .shl 5 (.int .u8 (x0 : Nat)) (.int .u64 4)) (.int .u8 ((x0 * 16 : Nat) : Int)) rfl (by kernel_rfl) (by kernel_rfl) (h4 _) ?_
      exact ST3_4 _ _ (by kernel_rfl) (by kernel_rfl)
    · refine op_load 5 (.tmp 15) (.pointer (some ⟨b, p + 1, none⟩)) (.int .u8 (x1 : Nat)) rfl rfl (by kernel_rfl) (by kernel_rfl) l3 ?_
      exact ST3_7 _ _ (by kernel_rfl) (by kernel_rfl)
  have ST7 : ∀ (L : Array Bool) (F : Act), L = #[false, true, true, false, false, true, true, true, false, false, false, false] → F = ⟨(s0 :: s1 :: .pointer (some ⟨B, 0, none⟩) :: s3 :: s4 :: .slice (some ⟨b, p, none⟩) 2 2 :: s6 :: s7 :: s8 :: s9 :: .slice (some ⟨b, p, none⟩) 2 2 :: .pointer (some ⟨b, p, none⟩) :: s12 :: s13 :: .slice (some ⟨b, p, none⟩) 2 2 :: .pointer (some ⟨b, p + 1, none⟩) :: .int .u8 (x1 : Nat) :: s17 :: s18 :: s19 :: s20 :: []).toArray, []⟩ → wpAny Try.prog .any ((Try.f17.body.bind (regRF 3)).getD #[]) Q 7 L F w.drew := by
    intro L F hL hF
    subst hL hF
    refine wpAny_all (rs := [0, 3]) (by kernel_rfl) (by decide) ?_
    intro i hi
    simp only [List.mem_cons, List.not_mem_nil, or_false] at hi
    rcases hi with rfl | rfl
    · refine op_load 22 (.tmp 2) (.pointer (some ⟨B, 0, none⟩)) (.slice (some ⟨g, 0, none⟩) k q) rfl rfl (by kernel_rfl) (by kernel_rfl) (l0) ?_
      exact ST0_7 _ _ (by kernel_rfl) (by kernel_rfl)
    · refine op_load 5 (.tmp 11) (.pointer (some ⟨b, p, none⟩)) (.int .u8 (x0 : Nat)) rfl rfl (by kernel_rfl) (by kernel_rfl) l2 ?_
      exact ST3_7 _ _ (by kernel_rfl) (by kernel_rfl)
  have ST : ∀ (L : Array Bool) (F : Act), L = #[false, true, true, false, false, true, true, false, false, false, false, false] → F = ⟨(s0 :: s1 :: .pointer (some ⟨B, 0, none⟩) :: s3 :: s4 :: .slice (some ⟨b, p, none⟩) 2 2 :: s6 :: s7 :: s8 :: s9 :: .slice (some ⟨b, p, none⟩) 2 2 :: .pointer (some ⟨b, p, none⟩) :: s12 :: s13 :: .slice (some ⟨b, p, none⟩) 2 2 :: .pointer (some ⟨b, p + 1, none⟩) :: s16 :: s17 :: s18 :: s19 :: s20 :: []).toArray, []⟩ → wpAny Try.prog .any ((Try.f17.body.bind (regRF 3)).getD #[]) Q 8 L F w.drew := by
    intro L F hL hF
    subst hL hF
    refine wpAny_all (rs := [0, 3, 7]) (by kernel_rfl) (by decide) ?_
    intro i hi
    simp only [List.mem_cons, List.not_mem_nil, or_false] at hi
    rcases hi with rfl | rfl | rfl
    · refine op_load 22 (.tmp 2) (.pointer (some ⟨B, 0, none⟩)) (.slice (some ⟨g, 0, none⟩) k q) rfl rfl (by kernel_rfl) (by kernel_rfl) (l0) ?_
      exact ST0 _ _ (by kernel_rfl) (by kernel_rfl)
    · refine op_load 5 (.tmp 11) (.pointer (some ⟨b, p, none⟩)) (.int .u8 (x0 : Nat)) rfl rfl (by kernel_rfl) (by kernel_rfl) l2 ?_
      exact ST3 _ _ (by kernel_rfl) (by kernel_rfl)
    · refine op_load 5 (.tmp 15) (.pointer (some ⟨b, p + 1, none⟩)) (.int .u8 (x1 : Nat)) rfl rfl (by kernel_rfl) (by kernel_rfl) l3 ?_
      exact ST7 _ _ (by kernel_rfl) (by kernel_rfl)
  refine wpAny_take (i := 1) (v := (.slice (some ⟨b, p, none⟩) 2 2)) rfl (by kernel_rfl) (by kernel_rfl) (by kernel_rfl) (fun c a w h => hQP c a _ _ w h) (Or.inl ⟨by kernel_rfl, fun w => by kernel_rfl⟩) ?_
  refine wpAny_take (i := 2) (v := (.pointer (some ⟨b, p, none⟩))) rfl (by kernel_rfl) (by kernel_rfl) (by kernel_rfl) (fun c a w h => hQP c a _ _ w h) (Or.inl ⟨by kernel_rfl, fun w => by kernel_rfl⟩) ?_
  refine wpAny_take (i := 5) (v := (.slice (some ⟨b, p, none⟩) 2 2)) rfl (by kernel_rfl) (by kernel_rfl) (by kernel_rfl) (fun c a w h => hQP c a _ _ w h) (Or.inl ⟨by kernel_rfl, fun w => by kernel_rfl⟩) ?_
  refine wpAny_take (i := 6) (v := (.pointer (some ⟨b, p + 1, none⟩))) rfl (by kernel_rfl) (by kernel_rfl) (by kernel_rfl) (fun c a w h => hQP c a _ _ w h) (Or.inl ⟨by kernel_rfl, fun w => by kernel_rfl⟩) ?_
  exact ST _ _ (by kernel_rfl) (by kernel_rfl)
end Go.Proofs.Ytaopmcpihdcaiaa
