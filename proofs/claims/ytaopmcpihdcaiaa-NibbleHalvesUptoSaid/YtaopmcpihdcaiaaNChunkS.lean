/- slices.Chunk of bytes, two by two: its contract. -/
import Derived.Test.YtaopmcpihdcaiaaNChunk
namespace Go.Proofs.Ytaopmcpihdcaiaa
open Go.RowKit Go.Shelf
attribute [local go_sem] Oper.semAt_some

set_option maxRecDepth 100000 in
set_option maxHeartbeats 2000000 in
theorem chunk0_in (n l Bs Bn cap : Nat) (a : Option Addr) (J : List { k : Nat // k < 0 } → World → Prop) (W : World)
    (hBs : Boxed W Bs 22 (.slice a 0 cap)) (h0 : J [] W) :
    CallsIn (FW none) n Try.prog 22 #[.func (.yield l) #[] #[], .pointer (some ⟨Bs, 0, none⟩), .pointer (some ⟨Bn, 0, none⟩)] W fun e W' => (∃ v, e = .returned v) ∧ J [] W' := by
  have c1 := hBs.cell
  refine callsIn_of_wp Try.func22 rfl trivial ?_ rfl
  simp only [Try.ntmps22, List.size_toArray, List.length_cons, List.length_nil, Nat.reduceAdd, Nat.reduceSub, Array.replicate_succ, Array.replicate_zero, List.push_toArray, List.append_toArray, List.nil_append, List.cons_append]
  gi_wp2
  gi_loopw [4] (fun i wr => i = .int .i64 0 ∧ W = wr) (fun _ _ => 0)
  case atStart => exact ⟨rfl, rfl⟩
  case round =>
    obtain ⟨rfl, rfl⟩ := hrel
    gi_wp2
    go_end0
    exact ⟨⟨_, rfl⟩, h0⟩
theorem boxed_below {W W' : World} {B : Nat} {t : TypeId} {v : Value} (h : Boxed W B t v) (hb : Below W.heap.size W W') : Boxed W' B t v := (hb.block B h.lt).trans h
/-- THE ITERATOR's CONTRACT. -/
theorem chunk_stops (n Bs Bn n₀ b o len cap m : Nat) (a : Option Addr) (hlen : len = 2 * m) (hm : m ≤ 4000000) (hcap : len ≤ cap) (ha : 0 < m → a = some ⟨b, o, none⟩) (w : World)
    (hBs : Boxed w Bs 22 (.slice a len cap)) (hBn : Boxed w Bn 3 (.int .i64 2)) :
    SeqStopsK (FW none) n Try.prog 22 #[.pointer (some ⟨Bs, 0, none⟩), .pointer (some ⟨Bn, 0, none⟩)] (fun x : { k : Nat // k < m } => #[pairV b o x.1]) (KpC n₀ Bs Bn (.slice a len cap)) (fun xs => xs = uptoK m m) (fun pre => ∃ k, k ≤ m ∧ pre = uptoK m k) m w := fun l J Jx W hW hJ hJx hY h0 => by
  rcases Nat.eq_zero_or_pos m with rfl | hp
  · obtain rfl : len = 0 := by omega
    refine (chunk0_in n l Bs Bn cap a J W (boxed_below hBs hW) h0).mono ?_
    rintro e W' ⟨he, hj⟩
    exact ⟨he, .inl ⟨[], rfl, hj⟩⟩
  · obtain rfl := ha hp
    exact chunk1_in n l Bs Bn n₀ b o len cap m hlen hm hcap J Jx W hJ hY (boxed_below hBs hW) (boxed_below hBn hW) h0
set_option maxRecDepth 100000 in
theorem chunk_any (a : Option Addr) (len cap : Nat) (w : World) : Calls Try.prog 20 #[.slice a len cap, .int .i64 2] w fun e w' => e = .returned (.func (.func 22) #[] #[.pointer (some ⟨w.heap.size, 0, none⟩), .pointer (some ⟨w.heap.size + 1, 0, none⟩)]) ∧ w' = (w.alloc (.cells #[.slice a len cap] 22)).alloc (.cells #[.int .i64 2] 3) := by
  go_enter Try.func20, Try.ntmps20
  go_wp2_with fail
  go_ret
  exact ⟨rfl, rfl⟩
end Go.Proofs.Ytaopmcpihdcaiaa
