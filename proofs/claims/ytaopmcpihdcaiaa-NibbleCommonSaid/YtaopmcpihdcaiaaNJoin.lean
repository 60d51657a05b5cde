/- nibble.join: pairs of nibbles as bytes, behind what there is. -/
import Derived.Test.YtaopmcpihdcaiaaNChunkS
import Derived.Test.YtaopmcpihdcaiaaNJoinR
namespace Go.Proofs.Ytaopmcpihdcaiaa
open Go.RowKit Go.Shelf
attribute [local go_sem] Oper.semAt_some

/-- The bytes of nibbles. -/
def jn (f : Nat → Nat) (j : Nat) : Nat := f (2 * j) * 16 + f (2 * j + 1)
/-- Some bytes, and others behind. -/
def catF (k : Nat) (g h : Nat → Nat) (j : Nat) : Nat := if j < k then g j else h (j - k)
theorem or8 (a b : Nat) (ha : a ≤ 15) (hb : b ≤ 15) : bits .or .u8 ((a * 16 : Nat) : Int) (b : Int) = ((a * 16 + b : Nat) : Int) := by
  have h : ∀ a b : Fin 16, bits .or .u8 (((a : Nat) * 16 : Nat) : Int) ((b : Nat) : Int) = (((a : Nat) * 16 + b : Nat) : Int) := by decide +kernel
  exact h ⟨a, by omega⟩ ⟨b, by omega⟩
theorem shl16 (a : Nat) (ha : a ≤ 15) (w : World) : (binOp .shl 5 (.int .u8 (a : Nat)) (.int .u64 4)).run Try.prog w = .ok (.int .u8 ((a * 16 : Nat) : Int)) w := by
  have h1 : IntKind.u8.wrap ((a : Int) * 2 ^ 4) = ((a * 16 : Nat) : Int) := by rw [IntKind.wrap_u8]; omega
  have h2 : IntKind.u8.wrap ((a : Int) * 16) = ((a * 16 : Nat) : Int) := by rw [IntKind.wrap_u8]; omega
  obtain ⟨y, hy⟩ : ∃ y : Nat, a * 16 = y := ⟨_, rfl⟩
  rw [hy] at h1 h2 ⊢
  go_simp
theorem or_run (a b : Nat) (ha : a ≤ 15) (hb : b ≤ 15) (w : World) : (binOp .or 5 (.int .u8 ((a * 16 : Nat) : Int)) (.int .u8 (b : Nat))).run Try.prog w = .ok (.int .u8 ((a * 16 + b : Nat) : Int)) w := by
  have h := or8 a b ha hb
  obtain ⟨y, hy⟩ : ∃ y : Nat, a * 16 + b = y := ⟨_, rfl⟩
  obtain ⟨x, hx⟩ : ∃ x : Nat, a * 16 = x := ⟨_, rfl⟩
  rw [hy, hx] at h
  rw [hy, hx]
  go_simp
theorem kpC_t {n₀ Bs Bn : Nat} {s : Value} {A B C : World} (h : KpC n₀ Bs Bn s A B) (k : KpC n₀ Bs Bn s B C) : KpC n₀ Bs Bn s A C := ⟨h.1.trans k.1, fun x => k.2.1 (h.2.1 x), fun x => k.2.2 (h.2.2 x)⟩
theorem boxed_put {W : World} {B l : Nat} {t : TypeId} {v : Value} {o : Obj} (o' : Obj) (h : Boxed W B t v) (hl : W.heap[l]? = some o) (ho : o.isCells = false) : Boxed (W.putObj l o') B t v := h.kept (grownBy_putObj' W l o') (fun e => by
  injection e with e
  subst e
  rw [show W.heap[B]? = _ from h] at hl
  cases hl
  cases ho)
theorem kpC_b {n₀ Bs Bn : Nat} {s : Value} {w : World} (hn : n₀ ≤ w.heap.size) (W : World) (l : Nat) (o o' : Obj) (hl : w.heap.size ≤ l) (hw : W.heap[l]? = some o) (hc : o.isCells = false) (hk : o.isWalk = false) : KpC n₀ Bs Bn s W (W.putObj l o') :=
  ⟨belowK_b hn W l o o' hl hw hc hk, fun h => boxed_put o' h hw hc, fun h => boxed_put o' h hw hc⟩
theorem boxed_step {W w1 : World} {n₀ Bs B : Nat} {t e : TypeId} {s v v' : Value} {size k : Nat} {xs : List Value} {tmp : Obj} (h : Boxed W Bs t s) (hte : t ≠ e) (hrow : W.ownsRow n₀ e size v k xs) (hgrow : (W.alloc tmp).grownBy w1 v.ownBlock) (hne : Bs ≠ B) : Boxed (w1.setCell ⟨B, 0, none⟩ v') Bs t s :=
  ((h.alloc tmp).kept hgrow (h.not_row hte hrow)).kept (grownBy_setCell' w1 B v') (by simpa using hne)
theorem any_ops {P : Program} {Q : Exit → Act → World → Prop} {a : Act} {w : World} {ops ops' : Array Oper} (e : ops = ops') (h : wpAny P .any ops' Q ops'.size (Array.replicate ops'.size false) a w) : wpAny P .any ops Q ops.size (Array.replicate ops.size false) a w := by
  subst e
  exact h
theorem uptoK_map {m k : Nat} (h : k ≤ m) (z : Nat → Value) : (uptoK m k).map (fun x => z x.1) = (List.range k).map z := by
  induction k with
  | zero => rfl
  | succ k ih => rw [uptoK_succ (by omega), List.map_append, ih (by omega), List.range_succ, List.map_append]; rfl
theorem p8_catF (k m : Nat) (g h : Nat → Nat) : p8 g k ++ (List.range m).map (fun j => Value.int .u8 (h j : Nat)) = p8 (catF k g h) (k + m) := by
  unfold p8
  rw [List.range_add, List.map_append, List.map_map]
  congr 1
  · apply List.map_congr_left
    intro j hj
    unfold catF
    rw [if_pos (by simpa using hj)]
  · apply List.map_congr_left
    intro j hj
    show _ = Value.int .u8 ((catF k g h (k + j) : Nat) : Int)
    unfold catF
    rw [if_neg (by omega), show k + j - k = j by omega]
set_option maxRecDepth 100000 in
set_option maxHeartbeats 4000000 in
-- WHAT join COMES TO.
theorem join_any {w0 w : World} {m k g0 q0 : Nat} {f g : Nat → Nat} {v : Value} (hn : m ≤ 4000000) (hk : k ≤ 10) (hf : ∀ j, j < 2 * m → f j ≤ 15) (hP : ArgB w0 v (2 * m) f) (hb : Below w0.heap.size w0 w) (hO : Own8 w0.heap.size g k (.slice (some ⟨g0, 0, none⟩) k q0) w) :
    Calls Try.prog 17 #[.slice (some ⟨g0, 0, none⟩) k q0, v] w fun e w' => ∃ v', e = .returned v' ∧ Own8 w0.heap.size (catF k g (jn f)) (k + m) v' w' ∧ Below w0.heap.size w0 w' := by
  refine (callsIn_wide (n := 9)).1 ?_
  obtain ⟨a, cap, rfl, hc, hn0, hr⟩ := hP
  obtain ⟨b, o, hab⟩ : ∃ b o, 0 < m → a = some ⟨b, o, none⟩ ∧ b < w0.heap.size ∧ ∀ j, j < 2 * m → w0.cell? ⟨b, o + j, none⟩ = some (.int .u8 (f j : Nat)) := by
    rcases hr with h | ⟨b, o, h1, h2, h3⟩
    · exact ⟨0, 0, fun h2 => by omega⟩
    · exact ⟨b, o, fun _ => ⟨h1, h2, h3⟩⟩
  have HF := Lib.hid (And.intro hf hab)
  have HO := Lib.hid hO
  have HB := Lib.hid hb
  have hsz := hb.size
  have HSZ := Lib.hid hsz
  clear hf hr hab hO hb hn0 hsz
  refine callsIn_of_wp_marks Try.func17 rfl trivial ?_ rfl
  simp only [Try.ntmps17, List.size_toArray, List.length_cons, List.length_nil, Nat.reduceAdd, Nat.reduceSub, Array.replicate_succ, Array.replicate_zero, List.push_toArray, List.append_toArray, List.nil_append, List.cons_append]
  gi_wp2_with (refine ⟨trivial, ?_⟩; gi_at_call 20; refine (calls_FW (chunk_any _ _ _ _)).mono ?_; rintro e w' ⟨rfl, rfl⟩)
  have bB := Boxed.new w 22 (.slice (some ⟨g0, 0, none⟩) k q0)
  have bS := Boxed.new (w.alloc (.cells #[.slice (some ⟨g0, 0, none⟩) k q0] 22)) 22 (.slice a (2 * m) cap)
  have bN := Boxed.new ((w.alloc (.cells #[.slice (some ⟨g0, 0, none⟩) k q0] 22)).alloc (.cells #[.slice a (2 * m) cap] 22)) 3 (.int .i64 2)
  rw [World.size_alloc] at bS
  rw [World.size_alloc, World.size_alloc] at bN
  have bB := (bB.alloc (.cells #[.slice a (2 * m) cap] 22)).alloc (.cells #[.int .i64 2] 3)
  have bS := bS.alloc (.cells #[.int .i64 2] 3)
  have hrow := ((HO.out.alloc (.cells #[.slice (some ⟨g0, 0, none⟩) k q0] 22)).alloc (.cells #[.slice a (2 * m) cap] 22)).alloc (.cells #[.int .i64 2] 3)
  have hBl := ((HB.out.alloc HSZ.out (.cells #[.slice (some ⟨g0, 0, none⟩) k q0] 22)).alloc (by simp; have := HSZ.out; omega) (.cells #[.slice a (2 * m) cap] 22)).alloc (by simp; have := HSZ.out; omega) (.cells #[.int .i64 2] 3)
  have hszW : (((w.alloc (.cells #[.slice (some ⟨g0, 0, none⟩) k q0] 22)).alloc (.cells #[.slice a (2 * m) cap] 22)).alloc (.cells #[.int .i64 2] 3)).heap.size = w.heap.size + 3 := by simp
  refine wpIn_rangeFunc_ownG (F := FW none) (n := 9) rfl (by omega) (gf := 22) (lb := #[.pointer (some ⟨w.heap.size + 1, 0, none⟩), .pointer (some ⟨w.heap.size + 1 + 1, 0, none⟩)]) rfl trivial (enters_of Try.func22 (by kernel_rfl) rfl)
    (chunk_stops (9 - 1) (w.heap.size + 1) (w.heap.size + 1 + 1) w0.heap.size b o (2 * m) cap m a rfl hn hc (fun h => (HF.out.2 h).1) _ bS bN) kpC_t (kpC_b (by rw [hszW]; have := HSZ.out; omega)) (Below.refl _ _) (fun _ => rfl)
    (fun (pre : List { k : Nat // k < m }) W => (∃ u, Boxed W w.heap.size 22 u ∧ W.ownsRow w0.heap.size 5 1 u (k + pre.length) (p8 g k ++ pre.map (fun x => Value.int .u8 (jn f x.1 : Nat))) ∧ ∃ g1 q1, u = .slice (some ⟨g1, 0, none⟩) (k + pre.length) q1) ∧ Below w0.heap.size w0 W)
    (fun _ _ _ => False)
    (OwnFrom.and (Own.from (holdsRow_own w0.heap.size w.heap.size 22 5 1 (fun (pre : List { k : Nat // k < m }) => k + pre.length) (fun (pre : List { k : Nat // k < m }) => p8 g k ++ pre.map (fun x => Value.int .u8 (jn f x.1 : Nat))) (fun (pre : List { k : Nat // k < m }) u => ∃ g1 q1, u = .slice (some ⟨g1, 0, none⟩) (k + pre.length) q1)) _) (ownFrom_below (Nat.le_refl _) (by rw [hszW]; have := HSZ.out; omega)))
    (fun _ _ _ _ _ hs _ _ => hs)
    ⟨⟨_, bB, by simpa using hrow, _, _, rfl⟩, hBl⟩
    (fun x => { tmps := #[.slice (some ⟨g0, 0, none⟩) k q0, .slice a (2 * m) cap, .pointer (some ⟨w.heap.size, 0, none⟩), undef, .slice none 0 0, pairV b o x.1, .slice a (2 * m) cap, .func (.func 22) #[] #[.pointer (some ⟨w.heap.size + 1, 0, none⟩), .pointer (some ⟨w.heap.size + 1 + 1, 0, none⟩)], pairV b o x.1, undef, undef, undef, undef, undef, undef, undef, undef, undef, undef, undef, undef], defers := [] }) ?assign ?body ?done ?stop
  case assign =>
    intro l x W K hK
    gi_wp2
    exact hK
  case body =>
    rintro l pre x W ⟨⟨u, hv, hrow2, g1, q1, rfl⟩, hB⟩ hlt
    obtain ⟨ha, hbl, hcell⟩ := HF.out.2 (by omega)
    have c0 := hcell (2 * x.1) (by have := x.2; omega)
    have c1 := hcell (2 * x.1 + 1) (by have := x.2; omega)
    have f0 := HF.out.1 (2 * x.1) (by have := x.2; omega)
    have f1 := HF.out.1 (2 * x.1 + 1) (by have := x.2; omega)
    have c0' : W.drew.cell? ⟨b, o + 2 * x.1, none⟩ = some (.int .u8 (f (2 * x.1) : Nat)) := (hB.drew.cell (p := ⟨b, o + 2 * x.1, none⟩) hbl).trans c0
    have c1' : W.drew.cell? ⟨b, o + 2 * x.1 + 1, none⟩ = some (.int .u8 (f (2 * x.1 + 1) : Nat)) := (hB.drew.cell (p := ⟨b, o + 2 * x.1 + 1, none⟩) hbl).trans c1
    have hvd : Boxed W.drew w.heap.size 22 (.slice (some ⟨g1, 0, none⟩) (k + pre.length) q1) := hv
    have hsW : w0.heap.size ≤ W.drew.heap.size := hB.size
    obtain ⟨v', w2, hrun, hown, ⟨g2, q2, rfl⟩, hgrow⟩ := app_ownV hrow2.drew hsW [jn f x.1] (by simp; omega) (by simp)
    obtain ⟨hv1, hv2, hr2, hk2, hb2⟩ := hvd.appended (by decide) hrow2.drew hsW (by have := HSZ.out; omega) hown hgrow
    gi_wp2
    refine region_in (r := some l) (by kernel_rfl) ?_ (by kernel_rfl) ?_
    · rintro ⟨a, w, h⟩
      exact h
    refine any_ops (ops' := ((Try.f17.body.bind (regRF 3)).getD #[])) (by kernel_rfl) ?_
    refine join_r (load_s hvd.cell) (load_s (hvd.alloc _).cell) (load_b c0') (load_b c1') (shl16 _ f0) (or_run _ _ f0 f1) hrun (store_s hv1.cell hv1.frozen) (fun _ _ _ _ _ h => h) ?_
    intro u9 u10 u11 u12 u13 u14 u15 u16 u17 u18 u19
    refine ⟨((KeepsOthers.drew W).trans hk2).from _, ⟨(Below.refl _ W).drew.trans hb2, fun h => boxed_step (W := W.drew) h (by decide) hrow2.drew hgrow (by omega), fun h => boxed_step (W := W.drew) h (by decide) hrow2.drew hgrow (by omega)⟩, ⟨_, hv2, ?_, g2, q2, ?_⟩, hB.drew.trans hb2⟩
    · simpa [Nat.add_assoc] using hr2
    · simp [Nat.add_assoc]
  case done =>
    rintro D ys W hD rfl ⟨⟨u, hv, hrow2, g1, q1, rfl⟩, hB⟩ hK
    rw [uptoK_length (Nat.le_refl m)] at hv hrow2
    have hc := hv.cell
    gi_wp2
    refine ⟨by simp, .inl ⟨_, _, rfl, run_takeDeferred hK, ?_⟩⟩
    refine ⟨_, results_tmp rfl _ _ _, _, rfl, ?_, hB.trans (belowK_b HSZ.out W D _ _ (by rw [hszW] at hD; omega) hK rfl rfl)⟩
    have e := ownsRow_putObj hrow2 (.deferred none) hK rfl
    rw [uptoK_map (Nat.le_refl m) (fun j => Value.int .u8 (jn f j : Nat)), p8_catF] at e
    exact e
  case stop =>
    rintro D c pre W _ _ h _
    exact h.elim
end Go.Proofs.Ytaopmcpihdcaiaa
