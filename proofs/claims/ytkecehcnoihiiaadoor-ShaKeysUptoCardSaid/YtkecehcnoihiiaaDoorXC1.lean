/- HMAC: the reference's, its last two statements. (With it, merged: SLaid · KOpen · KOpenU · SFill · SXor · SHmac · SRHmA · Lat · SRHmB.) -/
import Derived.Test.YtkecehcnoihiiaaDoorRows
import Derived.Test.YtkecehcnoihiiaaDoorM1
import Derived.Lib.LaidTab
import Derived.Test.YtkecehcnoihiiaaDoorCards
import Derived.Test.YtkecehcnoihiiaaDoorTie
import Derived.WalkKit
import Derived.ProofKit
import Derived.OpenShut
import Derived.ChangeSlices
import Derived.Deep.DeepHandedRow
import Derived.Test.YtkecehcnoihiiaaDoorM2
import Derived.Test.YtkecehcnoihiiaaDoorM3
import Derived.Test.YtkecehcnoihiiaaDoorM5
import Derived.Orders
import Derived.OrdersHeld
import Derived.Deep.AppendLies
namespace Go.Proofs.YtkecehcnoihiiaaDoor
open Go.RowKit

/-- One listed variable's reading. -/
def VReads (P : Program) (w : World) (n : String) (d : DataW Unit) : Prop :=
  ∃ g t cs fuel p, P.globalNamed n = some g ∧ (P.globals[g]?).map (·.type) = some t ∧ w.var? P n = some cs ∧ DataW.trod (fun _ => ()) P w 0 (fun _ => true) false fuel t cs.toList = some (d, p)
theorem laidVars_reads {P : Program} {w : World} : ∀ {l : List (String × DataW Unit)} {ps : List MemPlace}, DataW.LaidVars P w l ps → ∀ n d, (n, d) ∈ l → VReads P w n d
  | [], _, _, _, _, hm => by cases hm
  | (n', d') :: r, ps, h, n, d, hm => by
    obtain ⟨g, t, cs, fuel, p, q, h1, h2, h3, h4, h5, _⟩ := h
    rcases List.mem_cons.1 hm with e | e
    · cases e
      exact ⟨g, t, cs, fuel, p, h1, h2, h3, h4⟩
    · exact laidVars_reads h5 n d e
theorem laid_reads {P : Program} {w : World} {l : List (String × DataW Unit)} (h : laidMet P l w) {n : String} {d : DataW Unit} (hm : (n, d) ∈ l) : VReads P w n d :=
  let ⟨_, hv, _⟩ := h
  laidVars_reads hv n d hm
theorem tab1_cell {P : Program} {w : World} {nm : String} {zs : List Int} {g : Nat} {t e : TypeId} {n : Nat} {k : IntKind} (h : VReads P w nm (Lib.tabData k zs)) (hg : P.globalNamed nm = some g) (hty : (P.globals[g]?).map (·.type) = some t)
    (ht : P.underlying t = some (.array n e)) (he : P.underlying e = some (.int k)) (hce : P.cellsOf e = 1) (hct : P.cellsOf t = n) (hz : zs.length = n) (j : Nat) (hj : j < n) : w.cell? ⟨g, j, none⟩ = some (.int k (zs.getD j 0)) := by
  obtain ⟨g', t', cs, fuel, p, hg', ht', hvar, hd⟩ := h
  obtain rfl := Option.some.inj (hg.symm.trans hg')
  obtain rfl := Option.some.inj (hty.symm.trans ht')
  have h1 := Lib.cells_of_tab ht he hce hct hd
  rw [World.var?_cell hg hvar j, ← Array.getElem?_toList, h1, List.getElem?_map, List.getD_eq_getElem?_getD, List.getElem?_eq_getElem (by omega)]
  rfl
theorem tab_rounds {w : World} (h : VReads Tryd.prog w "bailiwick/sha.rounds" Rows.laid_bailiwick_sha_rounds) : STab w := fun j hj => by
  rw [tab1_cell (zs := [1116352408, 1899447441, 3049323471, 3921009573, 961987163, 1508970993, 2453635748, 2870763221, 3624381080, 310598401, 607225278, 1426881987, 1925078388, 2162078206, 2614888103, 3248222580, 3835390401, 4022224774, 264347078, 604807628, 770255983, 1249150122, 1555081692, 1996064986, 2554220882, 2821834349, 2952996808, 3210313671, 3336571891, 3584528711, 113926993, 338241895, 666307205, 773529912, 1294757372, 1396182291, 1695183700, 1986661051, 2177026350, 2456956037, 2730485921, 2820302411, 3259730800, 3345764771, 3516065817, 3600352804, 4094571909, 275423344, 430227734, 506948616, 659060556, 883997877, 958139571, 1322822218, 1537002063, 1747873779, 1955562222, 2024104815, 2227730452, 2361852424, 2428436474, 2756734187, 3204031479, 3329325298]) h (by kernel_rfl) (by kernel_rfl) Tryd.underlying61 Tryd.underlying38 (by kernel_rfl) (by kernel_rfl) rfl j hj]
  have h2 : ∀ j : Fin 64, ([1116352408, 1899447441, 3049323471, 3921009573, 961987163, 1508970993, 2453635748, 2870763221, 3624381080, 310598401, 607225278, 1426881987, 1925078388, 2162078206, 2614888103, 3248222580, 3835390401, 4022224774, 264347078, 604807628, 770255983, 1249150122, 1555081692, 1996064986, 2554220882, 2821834349, 2952996808, 3210313671, 3336571891, 3584528711, 113926993, 338241895, 666307205, 773529912, 1294757372, 1396182291, 1695183700, 1986661051, 2177026350, 2456956037, 2730485921, 2820302411, 3259730800, 3345764771, 3516065817, 3600352804, 4094571909, 275423344, 430227734, 506948616, 659060556, 883997877, 958139571, 1322822218, 1537002063, 1747873779, 1955562222, 2024104815, 2227730452, 2361852424, 2428436474, 2756734187, 3204031479, 3329325298] : List Int).getD j 0 = kT j := by decide +kernel
  exact congrArg (fun z => some (Value.int .u32 z)) (h2 ⟨j, hj⟩)
/-- The table lies as the row lists it. -/
theorem stab_of {w : World} {l : List (String × DataW Unit)} (h : laidMet Tryd.prog l w) (m : ("bailiwick/sha.rounds", Rows.laid_bailiwick_sha_rounds) ∈ l) : STab w := tab_rounds (laid_reads h m)
end Go.Proofs.YtkecehcnoihiiaaDoor
namespace Go.Proofs.YtkecehcnoihiiaaDoor
open Go.ChangeShapes Go.WideShapes Go.ChangeAt Go.RowKit

theorem ownF : ownKnob Tryd.prog.godebug = none := by kernel_rfl
theorem laidOutF : laidOutB Tryd.prog = true := by kernel_rfl
theorem cellsU8 : Tryd.prog.cellsOf 5 = 1 := by kernel_rfl
theorem ints_of_arr {H : Type} {enc : TypeId × Value → H} {P : Program} {w : World} {base : Nat} {sp : Nat → Bool} {held : Bool} {fuel : Nat} {t e : TypeId} {n : Nat} {k : IntKind} {cs : List Value} {d : DataW H} {p : List MemPlace}
    (ht : P.underlying t = some (.array n e)) (he : P.underlying e = some (.int k)) (hce : P.cellsOf e = 1)
    (h : DataW.trod enc P w base sp held fuel t cs = some (d, p)) : ∀ i, i < n → ∃ z, cs[i]? = some (.int k z) ∧ (Lit.int k z).wf = true := by
  cases fuel with
  | zero => simp [DataW.trod] at h
  | succ fuel =>
    simp only [DataW.trod, ht, hce, Nat.mul_one] at h
    split at h
    · rename_i hl
      obtain ⟨xs, hm, hx⟩ := Option.map_eq_some_iff.1 h
      intro i hi
      obtain ⟨b, hb, hf⟩ := Lib.mapM_at hm i i (by simp [hi])
      obtain ⟨z, hc, -, hw⟩ := DataW.trod_int he hf
      refine ⟨z, ?_, hw⟩
      have := congrArg (·[0]?) hc
      simpa [List.getElem?_take, List.getElem?_drop] using this
    · cases h
set_option maxRecDepth 100000 in
/-- AN ARRAY OF INTEGERS AMONG THE ARGUMENTS. -/
theorem open_arr {H : Type} {enc : TypeId × Value → H} {W : World} {base b2 : Nat} {sp : Nat → Bool} {hd : Bool} {v : Value} {d : DataW H} {ps : List MemPlace} {t e : TypeId} {n : Nat} {k : IntKind}
    (ht : Tryd.prog.underlying t = some (.array n e)) (he : Tryd.prog.underlying e = some (.int k)) (hce : Tryd.prog.cellsOf e = 1) (hct : Tryd.prog.cellsOf t = n)
    (hv : Value.okWide Tryd.prog W .any base t v) (h : DataW.Trod enc Tryd.prog W b2 sp hd t v d ps) : ∃ f : Nat → Int, v = .agg (ar k n f) ∧ ∀ i, i < n → (Lit.int k (f i)).wf = true := by
  obtain ⟨cs, rfl, hsz, _⟩ : ∃ cs, v = .agg cs ∧ cs.size = Tryd.prog.cellsOf t ∧ Row.okWide Tryd.prog W .any base t cs := by
    simpa [Value.okWide, ht] using hv
  rw [hct] at hsz
  obtain ⟨fuel, hf⟩ := h
  have h1 := ints_of_arr ht he hce hf
  refine ⟨fun i => if hi : i < n then Classical.choose (h1 i hi) else 0, ?_, fun i hi => ?_⟩
  · congr 1
    apply Array.ext
    · rw [hsz, ar_size]
    · intro i a b
      have hi : i < n := by omega
      have h2 := (Classical.choose_spec (h1 i hi)).1
      have h3 : cs[i]? = some (.int k (Classical.choose (h1 i hi))) := by simpa [Value.cells] using h2
      have h4 := ar_at k n (fun i => if hi : i < n then Classical.choose (h1 i hi) else 0) i hi
      rw [Array.getElem?_eq_getElem b] at h4
      rw [Array.getElem?_eq_getElem a] at h3
      have h5 := Option.some.inj h3
      have h6 := Option.some.inj h4
      rw [h5, h6]
      simp [hi]
  · simp only [hi, dif_pos]
    exact (Classical.choose_spec (h1 i hi)).2
theorem lits_len {H : Type} (k : IntKind) (zs : List Int) : (lits (H := H) k zs).length = zs.length := by simp [lits]
theorem range_u8' {zs : List Int} (hw : ∀ n ∈ zs, (Lit.int .u8 n).wf = true) (j : Nat) : 0 ≤ zs.getD j 0 ∧ zs.getD j 0 ≤ 255 := by
  rcases Nat.lt_or_ge j zs.length with h | h
  · have h1 := hw (zs.getD j 0) (by rw [List.getD_eq_getElem?_getD, List.getElem?_eq_getElem h]; exact List.getElem_mem h)
    simpa [Lit.wf, IntKind.min, IntKind.max, IntKind.signed, IntKind.bits] using h1
  · rw [List.getD_eq_getElem?_getD, List.getElem?_eq_none h]
    decide
set_option maxRecDepth 100000 in
/-- BYTES AMONG THE ARGUMENTS. -/
theorem open_bytesS {H : Type} {enc : TypeId × Value → H} {W : World} {base b2 : Nat} {hd : Bool} {v : Value} {d : DataW H} {ps : List MemPlace}
    (hv : Value.okWide Tryd.prog W .any base 22 v) (h : DataW.Trod enc Tryd.prog W b2 (fun _ => true) hd 22 v d ps) :
    ∃ (n : Nat) (f : Nat → Nat), ArgB W v n f ∧ (∀ j, f j < 256) ∧ (n = 0 ∨ ∃ l s, d = .slice l s ∧ l.length = n) := by
  obtain ⟨a0, len, cap, rfl⟩ := okWide_slice Tryd.underlying22 hv
  obtain ⟨fuel, hf⟩ := h
  rcases open_ints Tryd.underlying22 Tryd.underlying5 cellsU8 hf with ⟨hcs, -⟩ | ⟨a, len', cap', zs, hcs, -, hl, hm, hz, hx, hcell, hwz⟩
  · simp [Value.cells] at hcs
    obtain ⟨rfl, rfl, rfl⟩ := hcs
    exact ⟨0, fun _ => 0, ⟨none, 0, rfl, Nat.le_refl _, fun _ => rfl, .inl rfl⟩, fun j => (by show (0 : Nat) < 256; omega), .inl rfl⟩
  · simp [Value.cells] at hcs
    obtain ⟨rfl, rfl, rfl⟩ := hcs
    simp only [if_true] at hz
    have hr := fun j => range_u8' hwz j
    have hd' : d = .slice (lits .u8 (zs.take len)) (lits .u8 (zs.drop len)) := congrArg Prod.fst hx
    refine ⟨len, fun j => (zs.getD j 0).toNat, ⟨some a, cap, rfl, hl, (fun h => by cases h), ?_⟩, fun j => ?_, .inr ⟨_, _, hd', by rw [lits_len, List.length_take]; omega⟩⟩
    · rcases Nat.eq_zero_or_pos len with h0 | h0
      · exact .inl h0
      · obtain ⟨ab, ao, spot⟩ := a
        have hspot : spot = none := by simpa [Addr.add] using World.cell?_spot (hcell 0 (by omega))
        subst hspot
        refine .inr ⟨ab, ao, rfl, by simpa [Addr.add] using World.block_lt_of_cell? W _ (hcell 0 (by omega)), fun j hj => ?_⟩
        have hc := hcell j (by omega)
        rw [Addr.add_lit] at hc
        rw [hc]
        have h1 := hr j
        show _ = some (Value.int .u8 (((zs.getD j 0).toNat : Nat) : Int))
        rw [Int.toNat_of_nonneg h1.1]
    · have h1 := hr j
      show (zs.getD j 0).toNat < 256
      omega
theorem bulk_one {H : Type} (d : DataW H) : 1 ≤ Rows.uptoBulk d := by
  cases d with
  | lit l => cases l <;> simp [Rows.uptoBulk]
  | nil => simp [Rows.uptoBulk]
  | ptr d => simp [Rows.uptoBulk]
  | slice elems spare => simp [Rows.uptoBulk]
  | agg parts => simp [Rows.uptoBulk]
  | iface t d => simp [Rows.uptoBulk]
  | map entries => simp [Rows.uptoBulk]
  | held h => simp [Rows.uptoBulk]
theorem bulk_len {H : Type} (l : List (DataW H)) : l.length ≤ Rows.uptoBulkAll l := by
  induction l with
  | nil => simp [Rows.uptoBulkAll]
  | cons x r ih => have := bulk_one x; simp only [Rows.uptoBulkAll, List.length_cons]; omega
theorem bulk_in {H : Type} {d : DataW H} {l : List (DataW H)} (h : d ∈ l) : Rows.uptoBulk d ≤ Rows.uptoBulkAll l := by
  induction l with
  | nil => cases h
  | cons x r ih =>
    simp only [Rows.uptoBulkAll]
    rcases List.mem_cons.1 h with e | e
    · subst e; omega
    · have := ih e; omega
/-- WHAT THE BOUND SAYS of a list. -/
theorem bulk_list {H : Type} {ds : List (DataW H)} (hk : Rows.uptoSmall H ds = true) {d : DataW H} (hd : d ∈ ds) {n : Nat} (hn : n = 0 ∨ ∃ l s, d = .slice l s ∧ l.length = n) : n ≤ 1048576 := by
  rcases hn with rfl | ⟨l, s, rfl, rfl⟩
  · omega
  · have h1 : Rows.uptoBulkAll ds ≤ 1048576 := of_decide_eq_true hk
    have h2 := bulk_in hd
    have h3 := bulk_len l
    simp only [Rows.uptoBulk] at h2
    omega
/-- The cells of a table as a row lists it. -/
def valsIn : DataW Unit → List Value
  | .agg l => l.map fun x => match x with
    | .lit (.int k z) => Value.int k z
    | _ => undef
  | _ => []
def valsOf : DataW Unit → Array Value
  | .agg l => (l.flatMap fun x => match x with
    | .lit (.int k z) => [Value.int k z]
    | y => valsIn y).toArray
  | _ => #[]
def layAt (w : World) (b : Nat) (vs : Array Value) : World := { w with heap := w.heap.modify b fun
      | .cells _ t frozen => .cells vs t frozen
      | o => o }
/-- A WORLD FOR THE WITNESS: the settled one, the tables holding what their initialisers lay. -/
noncomputable def laidWorld (os : Os) : World :=
  layAt (World.holding Tryd.prog os ⟨#[], #[], []⟩) 0 (valsOf Rows.laid_bailiwick_sha_rounds)
theorem cellsU64 : Tryd.prog.cellsOf 47 = 1 := by kernel_rfl
theorem wf_u64 {z : Int} (h : (Lit.int .u64 z).wf = true) : 0 ≤ z ∧ z < 18446744073709551616 := by
  simp [Lit.wf, IntKind.min, IntKind.max, IntKind.signed, IntKind.bits] at h
  omega
end Go.Proofs.YtkecehcnoihiiaaDoor
namespace Go.Proofs.YtkecehcnoihiiaaDoor
open Go.ChangeShapes Go.WideShapes Go.ChangeAt Go.RowKit

theorem cellsU16 : Tryd.prog.cellsOf 29 = 1 := by kernel_rfl
theorem range_u16 {zs : List Int} (hw : ∀ n ∈ zs, (Lit.int .u16 n).wf = true) (j : Nat) : 0 ≤ zs.getD j 0 ∧ zs.getD j 0 ≤ 65535 := by
  rcases Nat.lt_or_ge j zs.length with h | h
  · have h1 := hw (zs.getD j 0) (by rw [List.getD_eq_getElem?_getD, List.getElem?_eq_getElem h]; exact List.getElem_mem h)
    simpa [Lit.wf, IntKind.min, IntKind.max, IntKind.signed, IntKind.bits] using h1
  · rw [List.getD_eq_getElem?_getD, List.getElem?_eq_none h]
    decide
set_option maxRecDepth 100000 in
/-- NUMBERS OF 16 BITS AMONG THE ARGUMENTS. -/
theorem open_u16S {H : Type} {enc : TypeId × Value → H} {W : World} {base b2 : Nat} {hd : Bool} {v : Value} {d : DataW H} {ps : List MemPlace}
    (hv : Value.okWide Tryd.prog W .any base 23 v) (h : DataW.Trod enc Tryd.prog W b2 (fun _ => true) hd 23 v d ps) :
    ∃ (n : Nat) (f : Nat → Nat), Arg16 W v n f ∧ (∀ j, f j < 65536) ∧ (n = 0 ∨ ∃ l s, d = .slice l s ∧ l.length = n) := by
  obtain ⟨a0, len, cap, rfl⟩ := okWide_slice Tryd.underlying23 hv
  obtain ⟨fuel, hf⟩ := h
  rcases open_ints Tryd.underlying23 Tryd.underlying29 cellsU16 hf with ⟨hcs, -⟩ | ⟨a, len', cap', zs, hcs, -, hl, hm, hz, hx, hcell, hwz⟩
  · simp [Value.cells] at hcs
    obtain ⟨rfl, rfl, rfl⟩ := hcs
    exact ⟨0, fun _ => 0, ⟨none, 0, rfl, Nat.le_refl _, .inl rfl⟩, fun j => (by show (0 : Nat) < 65536; omega), .inl rfl⟩
  · simp [Value.cells] at hcs
    obtain ⟨rfl, rfl, rfl⟩ := hcs
    simp only [if_true] at hz
    have hr := fun j => range_u16 hwz j
    have hd' : d = .slice (lits .u16 (zs.take len)) (lits .u16 (zs.drop len)) := congrArg Prod.fst hx
    refine ⟨len, fun j => (zs.getD j 0).toNat, ⟨some a, cap, rfl, hl, ?_⟩, fun j => ?_, .inr ⟨_, _, hd', by rw [lits_len, List.length_take]; omega⟩⟩
    · rcases Nat.eq_zero_or_pos len with h0 | h0
      · exact .inl h0
      · obtain ⟨ab, ao, spot⟩ := a
        have hspot : spot = none := by simpa [Addr.add] using World.cell?_spot (hcell 0 (by omega))
        subst hspot
        refine .inr ⟨ab, ao, rfl, by simpa [Addr.add] using World.block_lt_of_cell? W _ (hcell 0 (by omega)), fun j hj => ?_⟩
        have hc := hcell j (by omega)
        rw [Addr.add_lit] at hc
        rw [hc]
        have h1 := hr j
        show _ = some (Value.int .u16 (((zs.getD j 0).toNat : Nat) : Int))
        rw [Int.toNat_of_nonneg h1.1]
    · have h1 := hr j
      show (zs.getD j 0).toNat < 65536
      omega
end Go.Proofs.YtkecehcnoihiiaaDoor
namespace Go.Proofs.YtkecehcnoihiiaaDoor
open Go.RowKit

theorem z64b : ar .u8 64 (fun _ => ((0 : Nat) : Int)) = #[.int .u8 0, .int .u8 0, .int .u8 0, .int .u8 0, .int .u8 0, .int .u8 0, .int .u8 0, .int .u8 0, .int .u8 0, .int .u8 0, .int .u8 0, .int .u8 0, .int .u8 0, .int .u8 0, .int .u8 0, .int .u8 0, .int .u8 0, .int .u8 0, .int .u8 0, .int .u8 0, .int .u8 0, .int .u8 0, .int .u8 0, .int .u8 0, .int .u8 0, .int .u8 0, .int .u8 0, .int .u8 0, .int .u8 0, .int .u8 0, .int .u8 0, .int .u8 0, .int .u8 0, .int .u8 0, .int .u8 0, .int .u8 0, .int .u8 0, .int .u8 0, .int .u8 0, .int .u8 0, .int .u8 0, .int .u8 0, .int .u8 0, .int .u8 0, .int .u8 0, .int .u8 0, .int .u8 0, .int .u8 0, .int .u8 0, .int .u8 0, .int .u8 0, .int .u8 0, .int .u8 0, .int .u8 0, .int .u8 0, .int .u8 0, .int .u8 0, .int .u8 0, .int .u8 0, .int .u8 0, .int .u8 0, .int .u8 0, .int .u8 0, .int .u8 0] := by kernel_rfl
/-- A byte of a hash. -/
def shaN (f : Nat → Nat) (n j : Nat) : Nat := (shaH f n j).toNat
theorem shaN_cast (f : Nat → Nat) (n j : Nat) : ((shaN f n j : Nat) : Int) = shaH f n j := by
  unfold shaN shaH sby
  omega
theorem shaN_lt (f : Nat → Nat) (n j : Nat) : shaN f n j < 256 := by
  unfold shaN shaH sby
  omega
/-- The key, or its hash, with noughts behind. -/
def keyN (f : Nat → Nat) (n j : Nat) : Nat := if n ≤ 64 then (if j < n then f j else 0) else (if j < 32 then shaN f n j else 0)
theorem keyN_lt {f : Nat → Nat} (hf : ∀ j, f j < 256) (n j : Nat) : keyN f n j < 256 := by
  unfold keyN
  split
  · split
    · exact hf j
    · decide
  · split
    · exact shaN_lt _ _ _
    · decide
theorem lay_64 (g : Nat → Nat) (c : Nat) (hc : c ≤ 64) : ((ar .u8 64 (fun _ => ((0 : Nat) : Int))).toList.take 0 ++ p8 g c ++ (ar .u8 64 (fun _ => ((0 : Nat) : Int))).toList.drop (0 + (p8 g c).length)).toArray = ar .u8 64 (fun j => ((if j < c then g j else 0 : Nat) : Int)) := by
  have hl : (ar .u8 64 (fun _ => ((0 : Nat) : Int))).toList.length = 64 := by rw [Array.length_toList, ar_size]
  have hp := p8_len g c
  have g2 : ∀ j, j < 64 → (ar .u8 64 (fun _ => ((0 : Nat) : Int))).toList[j]? = some (.int .u8 (0 : Nat)) := fun j hj => by rw [Array.getElem?_toList]; exact ar_at _ _ _ _ hj
  have gp : ∀ j, j < c → (p8 g c)[j]? = some (.int .u8 (g j : Nat)) := fun j hj => p8_at _ _ _ hj
  generalize (ar .u8 64 (fun _ => ((0 : Nat) : Int))).toList = X at *
  generalize p8 g c = P at *
  have get := splice_at X P 0 (by omega)
  rw [hp] at get ⊢
  apply Array.ext_getElem?
  intro j
  rw [List.getElem?_toArray, get, if_neg (by omega)]
  by_cases j64 : j < 64
  · rw [ar_at _ _ _ _ j64]
    by_cases jc : j < c
    · rw [if_pos (by omega), if_pos jc]
      exact gp j jc
    · rw [if_neg (by omega), if_neg jc]
      exact g2 j j64
  · rw [if_neg (by omega), List.getElem?_eq_none (by omega), Array.getElem?_eq_none (by rw [ar_size]; omega)]
/-- A key copied into an empty block. -/
theorem copy_key {w : World} {B n cap : Nat} {g : Nat → Nat} {a : Option Addr} (hn : n ≤ 64) (hB : w.heap[B]? = some (.cells #[.int .u8 0, .int .u8 0, .int .u8 0, .int .u8 0, .int .u8 0, .int .u8 0, .int .u8 0, .int .u8 0, .int .u8 0, .int .u8 0, .int .u8 0, .int .u8 0, .int .u8 0, .int .u8 0, .int .u8 0, .int .u8 0, .int .u8 0, .int .u8 0, .int .u8 0, .int .u8 0, .int .u8 0, .int .u8 0, .int .u8 0, .int .u8 0, .int .u8 0, .int .u8 0, .int .u8 0, .int .u8 0, .int .u8 0, .int .u8 0, .int .u8 0, .int .u8 0, .int .u8 0, .int .u8 0, .int .u8 0, .int .u8 0, .int .u8 0, .int .u8 0, .int .u8 0, .int .u8 0, .int .u8 0, .int .u8 0, .int .u8 0, .int .u8 0, .int .u8 0, .int .u8 0, .int .u8 0, .int .u8 0, .int .u8 0, .int .u8 0, .int .u8 0, .int .u8 0, .int .u8 0, .int .u8 0, .int .u8 0, .int .u8 0, .int .u8 0, .int .u8 0, .int .u8 0, .int .u8 0, .int .u8 0, .int .u8 0, .int .u8 0, .int .u8 0] 46 (0, 0))) (hA : ArgB w (.slice a n cap) n g) :
    ∃ w', (Builtin.copy_ #[22, 22] 3 #[.slice (some ⟨B, 0, none⟩) 64 64, .slice a n cap]).run Tryd.prog w = .ok (.int .i64 (n : Nat)) w' ∧ Bt B w w' ∧ w'.heap[B]? = some (.cells (ar .u8 64 (fun j => ((if j < n then g j else 0 : Nat) : Int))) 46 (0, 0)) := by
  rw [← z64b] at hB
  have hz : n = 0 → ar .u8 64 (fun j => ((if j < n then g j else 0 : Nat) : Int)) = ar .u8 64 (fun _ => ((0 : Nat) : Int)) := fun e => ar_congr fun j _ => by rw [if_neg (by omega)]
  obtain ⟨a', cap', hv, hcap, hno, hr⟩ := hA
  injection hv with e1 _ e3
  subst e1 e3
  have key : ∀ q : Addr, (∀ j, j < n → w.cell? (q.add j) = some (.int .u8 (g j : Nat))) → (Builtin.copy_ #[22, 22] 3 #[.slice (some ⟨B, 0, none⟩) 64 64, .slice (some q) n cap]).run Tryd.prog w = .ok (.int .i64 (n : Nat)) (w.setRow B (ar .u8 64 (fun j => ((if j < n then g j else 0 : Nat) : Int)))) := fun q hg => by
    have hx := run_copy_row (P := Tryd.prog) w 22 22 3 5 B 0 64 64 q n cap (ar .u8 64 (fun _ => ((0 : Nat) : Int))) 46 (p8 g n) Tryd.underlying22 info1b hB (by rw [p8_len]; exact (Nat.min_eq_left hn).symm) (fun j v hv => by
      have hj : j < n := by
        have := (List.getElem?_eq_some_iff.1 hv).1
        rwa [p8_len] at this
      rw [p8_at _ _ _ hj] at hv
      cases hv
      exact hg j hj) (by rw [p8_len, ar_size]; omega) (p8_one _ _)
    rw [hx, lay_64 g n hn, p8_len]
    rfl
  rcases Nat.eq_zero_or_pos n with h0 | h0
  · rcases a with _ | q
    · have hc0 := hno rfl
      subst hc0 h0
      refine ⟨w, ?_, Bt.refl _ _, by rw [hz rfl]; exact hB⟩
      exact run_copy_nil (P := Tryd.prog) w 22 22 3 5 _ 64 64 Tryd.underlying22 (by kernel_rfl)
    · exact ⟨_, key q (fun j hj => by omega), (Bt.refl _ _).row _, setRow_heap _ _ _ _ _ _ hB⟩
  · rcases hr with hr | ⟨b, o, hr, hl, hg⟩
    · omega
    · subst hr
      exact ⟨_, key ⟨b, o, none⟩ (fun j hj => by rw [Addr.add_lit]; exact hg j hj), (Bt.refl _ _).row _, setRow_heap _ _ _ _ _ _ hB⟩
theorem wpList_semThat {P : Program} {ops : Array Oper} {rest : List Oper} {o : Oper} {a : Act} {w w' : World} {Q : Exit → Act → World → Prop} (x : Op) (_hx : o.op = x) (hgd : o.guard = none) (s : Sem Value) (v : Value) (ho : execOp a.eval o = (do let x ← s; pure (.value x))) (hr : s.run P w = .ok v w')
    (h : wpList P ops Q rest (a.put o.dst v) w') : wpList P ops Q (o :: rest) a w := wpList_sem hgd s v ho hr h
set_option maxRecDepth 100000 in
set_option maxHeartbeats 4000000 in
-- WHAT fill COMES TO.
theorem hfill {n : Nat} {f : Nat → Nat} {v : Value} (hn : n + 72 < 1125899906842624) (hf : ∀ j, f j < 256) (w : World) (hT : STab w) (hA : ArgB w v n f) :
    Calls Tryd.prog 20 #[v] w fun e w' => e = .returned (.agg (ar .u8 64 fun j => ((keyN f n j : Nat) : Int))) ∧ Below w.heap.size w w' := by
  have hA0 := hA
  obtain ⟨a, cap, rfl, hcap, -, -⟩ := hA0
  have hb1 : Below w.heap.size w (w.alloc (.cells #[.int .u8 0, .int .u8 0, .int .u8 0, .int .u8 0, .int .u8 0, .int .u8 0, .int .u8 0, .int .u8 0, .int .u8 0, .int .u8 0, .int .u8 0, .int .u8 0, .int .u8 0, .int .u8 0, .int .u8 0, .int .u8 0, .int .u8 0, .int .u8 0, .int .u8 0, .int .u8 0, .int .u8 0, .int .u8 0, .int .u8 0, .int .u8 0, .int .u8 0, .int .u8 0, .int .u8 0, .int .u8 0, .int .u8 0, .int .u8 0, .int .u8 0, .int .u8 0, .int .u8 0, .int .u8 0, .int .u8 0, .int .u8 0, .int .u8 0, .int .u8 0, .int .u8 0, .int .u8 0, .int .u8 0, .int .u8 0, .int .u8 0, .int .u8 0, .int .u8 0, .int .u8 0, .int .u8 0, .int .u8 0, .int .u8 0, .int .u8 0, .int .u8 0, .int .u8 0, .int .u8 0, .int .u8 0, .int .u8 0, .int .u8 0, .int .u8 0, .int .u8 0, .int .u8 0, .int .u8 0, .int .u8 0, .int .u8 0, .int .u8 0, .int .u8 0] 46)) := (Below.refl _ _).alloc (Nat.le_refl _) _
  have HU := Lib.hid (show Below w.heap.size w (w.alloc (.cells #[.int .u8 0, .int .u8 0, .int .u8 0, .int .u8 0, .int .u8 0, .int .u8 0, .int .u8 0, .int .u8 0, .int .u8 0, .int .u8 0, .int .u8 0, .int .u8 0, .int .u8 0, .int .u8 0, .int .u8 0, .int .u8 0, .int .u8 0, .int .u8 0, .int .u8 0, .int .u8 0, .int .u8 0, .int .u8 0, .int .u8 0, .int .u8 0, .int .u8 0, .int .u8 0, .int .u8 0, .int .u8 0, .int .u8 0, .int .u8 0, .int .u8 0, .int .u8 0, .int .u8 0, .int .u8 0, .int .u8 0, .int .u8 0, .int .u8 0, .int .u8 0, .int .u8 0, .int .u8 0, .int .u8 0, .int .u8 0, .int .u8 0, .int .u8 0, .int .u8 0, .int .u8 0, .int .u8 0, .int .u8 0, .int .u8 0, .int .u8 0, .int .u8 0, .int .u8 0, .int .u8 0, .int .u8 0, .int .u8 0, .int .u8 0, .int .u8 0, .int .u8 0, .int .u8 0, .int .u8 0, .int .u8 0, .int .u8 0, .int .u8 0, .int .u8 0] 46)) ∧ (w.alloc (.cells #[.int .u8 0, .int .u8 0, .int .u8 0, .int .u8 0, .int .u8 0, .int .u8 0, .int .u8 0, .int .u8 0, .int .u8 0, .int .u8 0, .int .u8 0, .int .u8 0, .int .u8 0, .int .u8 0, .int .u8 0, .int .u8 0, .int .u8 0, .int .u8 0, .int .u8 0, .int .u8 0, .int .u8 0, .int .u8 0, .int .u8 0, .int .u8 0, .int .u8 0, .int .u8 0, .int .u8 0, .int .u8 0, .int .u8 0, .int .u8 0, .int .u8 0, .int .u8 0, .int .u8 0, .int .u8 0, .int .u8 0, .int .u8 0, .int .u8 0, .int .u8 0, .int .u8 0, .int .u8 0, .int .u8 0, .int .u8 0, .int .u8 0, .int .u8 0, .int .u8 0, .int .u8 0, .int .u8 0, .int .u8 0, .int .u8 0, .int .u8 0, .int .u8 0, .int .u8 0, .int .u8 0, .int .u8 0, .int .u8 0, .int .u8 0, .int .u8 0, .int .u8 0, .int .u8 0, .int .u8 0, .int .u8 0, .int .u8 0, .int .u8 0, .int .u8 0] 46)).heap[w.heap.size]? = some (.cells #[.int .u8 0, .int .u8 0, .int .u8 0, .int .u8 0, .int .u8 0, .int .u8 0, .int .u8 0, .int .u8 0, .int .u8 0, .int .u8 0, .int .u8 0, .int .u8 0, .int .u8 0, .int .u8 0, .int .u8 0, .int .u8 0, .int .u8 0, .int .u8 0, .int .u8 0, .int .u8 0, .int .u8 0, .int .u8 0, .int .u8 0, .int .u8 0, .int .u8 0, .int .u8 0, .int .u8 0, .int .u8 0, .int .u8 0, .int .u8 0, .int .u8 0, .int .u8 0, .int .u8 0, .int .u8 0, .int .u8 0, .int .u8 0, .int .u8 0, .int .u8 0, .int .u8 0, .int .u8 0, .int .u8 0, .int .u8 0, .int .u8 0, .int .u8 0, .int .u8 0, .int .u8 0, .int .u8 0, .int .u8 0, .int .u8 0, .int .u8 0, .int .u8 0, .int .u8 0, .int .u8 0, .int .u8 0, .int .u8 0, .int .u8 0, .int .u8 0, .int .u8 0, .int .u8 0, .int .u8 0, .int .u8 0, .int .u8 0, .int .u8 0, .int .u8 0] 46 (0, 0)) ∧ ArgB (w.alloc (.cells #[.int .u8 0, .int .u8 0, .int .u8 0, .int .u8 0, .int .u8 0, .int .u8 0, .int .u8 0, .int .u8 0, .int .u8 0, .int .u8 0, .int .u8 0, .int .u8 0, .int .u8 0, .int .u8 0, .int .u8 0, .int .u8 0, .int .u8 0, .int .u8 0, .int .u8 0, .int .u8 0, .int .u8 0, .int .u8 0, .int .u8 0, .int .u8 0, .int .u8 0, .int .u8 0, .int .u8 0, .int .u8 0, .int .u8 0, .int .u8 0, .int .u8 0, .int .u8 0, .int .u8 0, .int .u8 0, .int .u8 0, .int .u8 0, .int .u8 0, .int .u8 0, .int .u8 0, .int .u8 0, .int .u8 0, .int .u8 0, .int .u8 0, .int .u8 0, .int .u8 0, .int .u8 0, .int .u8 0, .int .u8 0, .int .u8 0, .int .u8 0, .int .u8 0, .int .u8 0, .int .u8 0, .int .u8 0, .int .u8 0, .int .u8 0, .int .u8 0, .int .u8 0, .int .u8 0, .int .u8 0, .int .u8 0, .int .u8 0, .int .u8 0, .int .u8 0] 46)) (.slice a n cap) n f from ⟨hb1, heap_alloc_new _ _, hA.below hb1⟩)
  have HS := Lib.hid (hsum hn hf (w.alloc (.cells #[.int .u8 0, .int .u8 0, .int .u8 0, .int .u8 0, .int .u8 0, .int .u8 0, .int .u8 0, .int .u8 0, .int .u8 0, .int .u8 0, .int .u8 0, .int .u8 0, .int .u8 0, .int .u8 0, .int .u8 0, .int .u8 0, .int .u8 0, .int .u8 0, .int .u8 0, .int .u8 0, .int .u8 0, .int .u8 0, .int .u8 0, .int .u8 0, .int .u8 0, .int .u8 0, .int .u8 0, .int .u8 0, .int .u8 0, .int .u8 0, .int .u8 0, .int .u8 0, .int .u8 0, .int .u8 0, .int .u8 0, .int .u8 0, .int .u8 0, .int .u8 0, .int .u8 0, .int .u8 0, .int .u8 0, .int .u8 0, .int .u8 0, .int .u8 0, .int .u8 0, .int .u8 0, .int .u8 0, .int .u8 0, .int .u8 0, .int .u8 0, .int .u8 0, .int .u8 0, .int .u8 0, .int .u8 0, .int .u8 0, .int .u8 0, .int .u8 0, .int .u8 0, .int .u8 0, .int .u8 0, .int .u8 0, .int .u8 0, .int .u8 0, .int .u8 0] 46)) (hT.below hb1) (hA.below hb1))
  have hn0 : (0 : Int) ≤ n := by omega
  have hn1 : (n : Int) < 1125899906842624 := by omega
  clear hb1 hA hT hf hcap hn
  by_cases h64 : n ≤ 64
  · have hlt : ¬ (64 : Int) < n := by omega
    go_enter Tryd.func20, Tryd.ntmps20
    obtain ⟨w1, hw1⟩ : ∃ z, w.alloc (.cells #[.int .u8 0, .int .u8 0, .int .u8 0, .int .u8 0, .int .u8 0, .int .u8 0, .int .u8 0, .int .u8 0, .int .u8 0, .int .u8 0, .int .u8 0, .int .u8 0, .int .u8 0, .int .u8 0, .int .u8 0, .int .u8 0, .int .u8 0, .int .u8 0, .int .u8 0, .int .u8 0, .int .u8 0, .int .u8 0, .int .u8 0, .int .u8 0, .int .u8 0, .int .u8 0, .int .u8 0, .int .u8 0, .int .u8 0, .int .u8 0, .int .u8 0, .int .u8 0, .int .u8 0, .int .u8 0, .int .u8 0, .int .u8 0, .int .u8 0, .int .u8 0, .int .u8 0, .int .u8 0, .int .u8 0, .int .u8 0, .int .u8 0, .int .u8 0, .int .u8 0, .int .u8 0, .int .u8 0, .int .u8 0, .int .u8 0, .int .u8 0, .int .u8 0, .int .u8 0, .int .u8 0, .int .u8 0, .int .u8 0, .int .u8 0, .int .u8 0, .int .u8 0, .int .u8 0, .int .u8 0, .int .u8 0, .int .u8 0, .int .u8 0, .int .u8 0] 46) = z := ⟨_, rfl⟩
    rw [hw1] at HU
    clear HS
    obtain ⟨O, hO⟩ : ∃ O, w1.heap.size = O := ⟨_, rfl⟩
    have hO1 : w.heap.size < O := by rw [← hO]; exact (Array.getElem?_eq_some_iff.1 HU.out.2.1).1
    obtain ⟨w5, hrun, hbt, hrow⟩ := copy_key (w := w1.alloc (.cells #[.int .u8 0, .int .u8 0, .int .u8 0, .int .u8 0, .int .u8 0, .int .u8 0, .int .u8 0, .int .u8 0, .int .u8 0, .int .u8 0, .int .u8 0, .int .u8 0, .int .u8 0, .int .u8 0, .int .u8 0, .int .u8 0, .int .u8 0, .int .u8 0, .int .u8 0, .int .u8 0, .int .u8 0, .int .u8 0, .int .u8 0, .int .u8 0, .int .u8 0, .int .u8 0, .int .u8 0, .int .u8 0, .int .u8 0, .int .u8 0, .int .u8 0, .int .u8 0, .int .u8 0, .int .u8 0, .int .u8 0, .int .u8 0, .int .u8 0, .int .u8 0, .int .u8 0, .int .u8 0, .int .u8 0, .int .u8 0, .int .u8 0, .int .u8 0, .int .u8 0, .int .u8 0, .int .u8 0, .int .u8 0, .int .u8 0, .int .u8 0, .int .u8 0, .int .u8 0, .int .u8 0, .int .u8 0, .int .u8 0, .int .u8 0, .int .u8 0, .int .u8 0, .int .u8 0, .int .u8 0, .int .u8 0, .int .u8 0, .int .u8 0, .int .u8 0] 46)) (B := O) (n := n) (cap := cap) (g := f) (a := a) (by omega) (by rw [← hO]; exact heap_alloc_new _ _) (HU.out.2.2.below ((Below.refl _ _).alloc (Nat.le_refl _) _))
    obtain ⟨y, hy⟩ : ∃ y : Nat → Int, (fun j => ((if j < n then f j else 0 : Nat) : Int)) = y := ⟨_, rfl⟩
    have HE := Lib.hid (show (fun j => ((keyN f n j : Nat) : Int)) = y from by rw [← hy]; funext j; unfold keyN; rw [if_pos h64])
    rw [hy] at hrow
    have hs : w.heap.size ≤ w1.heap.size := HU.out.1.size
    have hb : Below w.heap.size w (w1.alloc (.cells #[.int .u8 0, .int .u8 0, .int .u8 0, .int .u8 0, .int .u8 0, .int .u8 0, .int .u8 0, .int .u8 0, .int .u8 0, .int .u8 0, .int .u8 0, .int .u8 0, .int .u8 0, .int .u8 0, .int .u8 0, .int .u8 0, .int .u8 0, .int .u8 0, .int .u8 0, .int .u8 0, .int .u8 0, .int .u8 0, .int .u8 0, .int .u8 0, .int .u8 0, .int .u8 0, .int .u8 0, .int .u8 0, .int .u8 0, .int .u8 0, .int .u8 0, .int .u8 0, .int .u8 0, .int .u8 0, .int .u8 0, .int .u8 0, .int .u8 0, .int .u8 0, .int .u8 0, .int .u8 0, .int .u8 0, .int .u8 0, .int .u8 0, .int .u8 0, .int .u8 0, .int .u8 0, .int .u8 0, .int .u8 0, .int .u8 0, .int .u8 0, .int .u8 0, .int .u8 0, .int .u8 0, .int .u8 0, .int .u8 0, .int .u8 0, .int .u8 0, .int .u8 0, .int .u8 0, .int .u8 0, .int .u8 0, .int .u8 0, .int .u8 0, .int .u8 0] 46)) := HU.out.1.alloc hs _
    have H5 := Lib.hid (show Below w.heap.size w w5 ∧ w5.heap[w.heap.size]? = some (.cells #[.int .u8 0, .int .u8 0, .int .u8 0, .int .u8 0, .int .u8 0, .int .u8 0, .int .u8 0, .int .u8 0, .int .u8 0, .int .u8 0, .int .u8 0, .int .u8 0, .int .u8 0, .int .u8 0, .int .u8 0, .int .u8 0, .int .u8 0, .int .u8 0, .int .u8 0, .int .u8 0, .int .u8 0, .int .u8 0, .int .u8 0, .int .u8 0, .int .u8 0, .int .u8 0, .int .u8 0, .int .u8 0, .int .u8 0, .int .u8 0, .int .u8 0, .int .u8 0, .int .u8 0, .int .u8 0, .int .u8 0, .int .u8 0, .int .u8 0, .int .u8 0, .int .u8 0, .int .u8 0, .int .u8 0, .int .u8 0, .int .u8 0, .int .u8 0, .int .u8 0, .int .u8 0, .int .u8 0, .int .u8 0, .int .u8 0, .int .u8 0, .int .u8 0, .int .u8 0, .int .u8 0, .int .u8 0, .int .u8 0, .int .u8 0, .int .u8 0, .int .u8 0, .int .u8 0, .int .u8 0, .int .u8 0, .int .u8 0, .int .u8 0, .int .u8 0] 46 (0, 0)) ∧ w5.heap[O]? = some (.cells (ar .u8 64 y) 46 (0, 0)) from ⟨hbt.below hb (Nat.le_of_lt hO1) hb.size, (hbt.block _ (by omega) (by simp; omega)).trans ((heap_alloc_old _ _ (by omega)).trans HU.out.2.1), hrow⟩)
    have HRUN := Lib.hid hrun
    have HI : Hid ((Tryd.prog.info? 46).map (·.size) = some (ar .u8 64 y).size) := Lib.hid (by rw [ar_size]; exact info64b)
    clear hrun hbt hrow hy hs hb hO1 HU
    go_wp2_with (first | (refine wpList_semThat (.call { callee := .builtin .copy, args := #[.tmp 11, .tmp 12], argTypes := #[22, 22] }) rfl rfl (Builtin.copy_ #[22, 22] 3 #[.slice (some ⟨O, 0, none⟩) 64 64, .slice (a) n cap]) (.int .i64 (n : Nat)) (by kernel_rfl) HRUN.out ?_) | (refine wpList_load_row rfl 46 _ rfl O rfl 46 _ (0, 0) _ H5.out.2.2 Tryd.underlying46 rfl HI.out ?_) | (refine wpList_store_row rfl 46 _ _ rfl w.heap.size (ar .u8 64 y) rfl rfl 46 _ H5.out.2.1 HI.out (by rw [ar_size]; rfl) (ar_one _ _ _) ?_))
    refine bodyPost_ret (v := .agg (ar .u8 64 y)) (results_cell_row (p := 2) rfl _ _ w.heap.size 46 _ (0, 0) _ rfl (setRow_heap _ _ _ _ _ _ H5.out.2.1) Tryd.underlying46 rfl HI.out) rfl ⟨by rw [HE.out], below_setRow H5.out.1 (Nat.le_refl _) _⟩
  · have hlt : (64 : Int) < n := by omega
    go_enter Tryd.func20, Tryd.ntmps20
    go_wp2_with fail
    refine HS.out.mono ?_
    rintro e u ⟨rfl, hbu⟩
    obtain ⟨H, hH⟩ : ∃ H, u.heap.size = H := ⟨_, rfl⟩
    have hs1 : w.heap.size < u.heap.size := Nat.lt_of_lt_of_le (by simp) hbu.size
    have HR := Lib.hid (show (u.alloc (.cells #[.int .u8 0, .int .u8 0, .int .u8 0, .int .u8 0, .int .u8 0, .int .u8 0, .int .u8 0, .int .u8 0, .int .u8 0, .int .u8 0, .int .u8 0, .int .u8 0, .int .u8 0, .int .u8 0, .int .u8 0, .int .u8 0, .int .u8 0, .int .u8 0, .int .u8 0, .int .u8 0, .int .u8 0, .int .u8 0, .int .u8 0, .int .u8 0, .int .u8 0, .int .u8 0, .int .u8 0, .int .u8 0, .int .u8 0, .int .u8 0, .int .u8 0, .int .u8 0] 25)).heap[H]? = some (.cells #[.int .u8 0, .int .u8 0, .int .u8 0, .int .u8 0, .int .u8 0, .int .u8 0, .int .u8 0, .int .u8 0, .int .u8 0, .int .u8 0, .int .u8 0, .int .u8 0, .int .u8 0, .int .u8 0, .int .u8 0, .int .u8 0, .int .u8 0, .int .u8 0, .int .u8 0, .int .u8 0, .int .u8 0, .int .u8 0, .int .u8 0, .int .u8 0, .int .u8 0, .int .u8 0, .int .u8 0, .int .u8 0, .int .u8 0, .int .u8 0, .int .u8 0, .int .u8 0] 25 (0, 0)) from by rw [← hH]; exact heap_alloc_new _ _)
    have HI3 : Hid ((Tryd.prog.info? 25).map (·.size) = some (ar .u8 32 (shaH f n)).size) := Lib.hid (by rw [ar_size]; exact info32s)
    have HX := Lib.hid (show Below w.heap.size w ((u.alloc (.cells #[.int .u8 0, .int .u8 0, .int .u8 0, .int .u8 0, .int .u8 0, .int .u8 0, .int .u8 0, .int .u8 0, .int .u8 0, .int .u8 0, .int .u8 0, .int .u8 0, .int .u8 0, .int .u8 0, .int .u8 0, .int .u8 0, .int .u8 0, .int .u8 0, .int .u8 0, .int .u8 0, .int .u8 0, .int .u8 0, .int .u8 0, .int .u8 0, .int .u8 0, .int .u8 0, .int .u8 0, .int .u8 0, .int .u8 0, .int .u8 0, .int .u8 0, .int .u8 0] 25)).setRow H (ar .u8 32 (shaH f n))) ∧ ((u.alloc (.cells #[.int .u8 0, .int .u8 0, .int .u8 0, .int .u8 0, .int .u8 0, .int .u8 0, .int .u8 0, .int .u8 0, .int .u8 0, .int .u8 0, .int .u8 0, .int .u8 0, .int .u8 0, .int .u8 0, .int .u8 0, .int .u8 0, .int .u8 0, .int .u8 0, .int .u8 0, .int .u8 0, .int .u8 0, .int .u8 0, .int .u8 0, .int .u8 0, .int .u8 0, .int .u8 0, .int .u8 0, .int .u8 0, .int .u8 0, .int .u8 0, .int .u8 0, .int .u8 0] 25)).setRow H (ar .u8 32 (shaH f n))).heap[w.heap.size]? = some (.cells #[.int .u8 0, .int .u8 0, .int .u8 0, .int .u8 0, .int .u8 0, .int .u8 0, .int .u8 0, .int .u8 0, .int .u8 0, .int .u8 0, .int .u8 0, .int .u8 0, .int .u8 0, .int .u8 0, .int .u8 0, .int .u8 0, .int .u8 0, .int .u8 0, .int .u8 0, .int .u8 0, .int .u8 0, .int .u8 0, .int .u8 0, .int .u8 0, .int .u8 0, .int .u8 0, .int .u8 0, .int .u8 0, .int .u8 0, .int .u8 0, .int .u8 0, .int .u8 0, .int .u8 0, .int .u8 0, .int .u8 0, .int .u8 0, .int .u8 0, .int .u8 0, .int .u8 0, .int .u8 0, .int .u8 0, .int .u8 0, .int .u8 0, .int .u8 0, .int .u8 0, .int .u8 0, .int .u8 0, .int .u8 0, .int .u8 0, .int .u8 0, .int .u8 0, .int .u8 0, .int .u8 0, .int .u8 0, .int .u8 0, .int .u8 0, .int .u8 0, .int .u8 0, .int .u8 0, .int .u8 0, .int .u8 0, .int .u8 0, .int .u8 0, .int .u8 0] 46 (0, 0)) ∧ ArgB ((u.alloc (.cells #[.int .u8 0, .int .u8 0, .int .u8 0, .int .u8 0, .int .u8 0, .int .u8 0, .int .u8 0, .int .u8 0, .int .u8 0, .int .u8 0, .int .u8 0, .int .u8 0, .int .u8 0, .int .u8 0, .int .u8 0, .int .u8 0, .int .u8 0, .int .u8 0, .int .u8 0, .int .u8 0, .int .u8 0, .int .u8 0, .int .u8 0, .int .u8 0, .int .u8 0, .int .u8 0, .int .u8 0, .int .u8 0, .int .u8 0, .int .u8 0, .int .u8 0, .int .u8 0] 25)).setRow H (ar .u8 32 (shaH f n))) (.slice (some ⟨H, 0, none⟩) 32 32) 32 (shaN f n) from by
      have hb2 : Below w.heap.size w (u.alloc (.cells #[.int .u8 0, .int .u8 0, .int .u8 0, .int .u8 0, .int .u8 0, .int .u8 0, .int .u8 0, .int .u8 0, .int .u8 0, .int .u8 0, .int .u8 0, .int .u8 0, .int .u8 0, .int .u8 0, .int .u8 0, .int .u8 0, .int .u8 0, .int .u8 0, .int .u8 0, .int .u8 0, .int .u8 0, .int .u8 0, .int .u8 0, .int .u8 0, .int .u8 0, .int .u8 0, .int .u8 0, .int .u8 0, .int .u8 0, .int .u8 0, .int .u8 0, .int .u8 0] 25)) := (HU.out.1.trans (hbu.mono (by simp))).alloc (by omega) _
      have hr2 : ((u.alloc (.cells #[.int .u8 0, .int .u8 0, .int .u8 0, .int .u8 0, .int .u8 0, .int .u8 0, .int .u8 0, .int .u8 0, .int .u8 0, .int .u8 0, .int .u8 0, .int .u8 0, .int .u8 0, .int .u8 0, .int .u8 0, .int .u8 0, .int .u8 0, .int .u8 0, .int .u8 0, .int .u8 0, .int .u8 0, .int .u8 0, .int .u8 0, .int .u8 0, .int .u8 0, .int .u8 0, .int .u8 0, .int .u8 0, .int .u8 0, .int .u8 0, .int .u8 0, .int .u8 0] 25)).setRow H (ar .u8 32 (shaH f n))).heap[H]? = some (.cells (ar .u8 32 (shaH f n)) 25 (0, 0)) := setRow_heap _ _ _ _ _ _ HR.out
      refine ⟨below_setRow hb2 (by omega) _, (setRow_other _ _ _ _ (by omega)).trans ((heap_alloc_old _ _ hs1).trans ((hbu.block _ (by simp)).trans HU.out.2.1)), some ⟨H, 0, none⟩, 32, rfl, by omega, nofun, .inr ⟨H, 0, rfl, (Array.getElem?_eq_some_iff.1 hr2).1, fun j hj => ?_⟩⟩
      rw [shaN_cast, Nat.zero_add]
      exact (cell_of_row _ _ j _ _ _ hr2).trans (ar_at _ _ _ _ hj))
    clear hbu hs1 HS HU
    go_upto_region 3 with (refine wpList_store_row rfl 25 _ _ rfl H (ar .u8 32 (shaH f n)) rfl rfl 25 _ HR.out HI3.out (by rw [ar_size]; rfl) (ar_one _ _ _) ?_)
    obtain ⟨w1, hw1⟩ : ∃ z, (u.alloc (.cells #[.int .u8 0, .int .u8 0, .int .u8 0, .int .u8 0, .int .u8 0, .int .u8 0, .int .u8 0, .int .u8 0, .int .u8 0, .int .u8 0, .int .u8 0, .int .u8 0, .int .u8 0, .int .u8 0, .int .u8 0, .int .u8 0, .int .u8 0, .int .u8 0, .int .u8 0, .int .u8 0, .int .u8 0, .int .u8 0, .int .u8 0, .int .u8 0, .int .u8 0, .int .u8 0, .int .u8 0, .int .u8 0, .int .u8 0, .int .u8 0, .int .u8 0, .int .u8 0] 25)).setRow H (ar .u8 32 (shaH f n)) = z := ⟨_, rfl⟩
    rw [hw1] at HX ⊢
    have HU := HX
    clear hw1 HX HR HI3 hH
    obtain ⟨O, hO⟩ : ∃ O, w1.heap.size = O := ⟨_, rfl⟩
    have hO1 : w.heap.size < O := by rw [← hO]; exact (Array.getElem?_eq_some_iff.1 HU.out.2.1).1
    obtain ⟨w5, hrun, hbt, hrow⟩ := copy_key (w := w1.alloc (.cells #[.int .u8 0, .int .u8 0, .int .u8 0, .int .u8 0, .int .u8 0, .int .u8 0, .int .u8 0, .int .u8 0, .int .u8 0, .int .u8 0, .int .u8 0, .int .u8 0, .int .u8 0, .int .u8 0, .int .u8 0, .int .u8 0, .int .u8 0, .int .u8 0, .int .u8 0, .int .u8 0, .int .u8 0, .int .u8 0, .int .u8 0, .int .u8 0, .int .u8 0, .int .u8 0, .int .u8 0, .int .u8 0, .int .u8 0, .int .u8 0, .int .u8 0, .int .u8 0, .int .u8 0, .int .u8 0, .int .u8 0, .int .u8 0, .int .u8 0, .int .u8 0, .int .u8 0, .int .u8 0, .int .u8 0, .int .u8 0, .int .u8 0, .int .u8 0, .int .u8 0, .int .u8 0, .int .u8 0, .int .u8 0, .int .u8 0, .int .u8 0, .int .u8 0, .int .u8 0, .int .u8 0, .int .u8 0, .int .u8 0, .int .u8 0, .int .u8 0, .int .u8 0, .int .u8 0, .int .u8 0, .int .u8 0, .int .u8 0, .int .u8 0, .int .u8 0] 46)) (B := O) (n := 32) (cap := 32) (g := (shaN f n)) (a := some ⟨H, 0, none⟩) (by omega) (by rw [← hO]; exact heap_alloc_new _ _) (HU.out.2.2.below ((Below.refl _ _).alloc (Nat.le_refl _) _))
    obtain ⟨y, hy⟩ : ∃ y : Nat → Int, (fun j => ((if j < 32 then (shaN f n) j else 0 : Nat) : Int)) = y := ⟨_, rfl⟩
    have HE := Lib.hid (show (fun j => ((keyN f n j : Nat) : Int)) = y from by rw [← hy]; funext j; unfold keyN; rw [if_neg h64])
    rw [hy] at hrow
    have hs : w.heap.size ≤ w1.heap.size := HU.out.1.size
    have hb : Below w.heap.size w (w1.alloc (.cells #[.int .u8 0, .int .u8 0, .int .u8 0, .int .u8 0, .int .u8 0, .int .u8 0, .int .u8 0, .int .u8 0, .int .u8 0, .int .u8 0, .int .u8 0, .int .u8 0, .int .u8 0, .int .u8 0, .int .u8 0, .int .u8 0, .int .u8 0, .int .u8 0, .int .u8 0, .int .u8 0, .int .u8 0, .int .u8 0, .int .u8 0, .int .u8 0, .int .u8 0, .int .u8 0, .int .u8 0, .int .u8 0, .int .u8 0, .int .u8 0, .int .u8 0, .int .u8 0, .int .u8 0, .int .u8 0, .int .u8 0, .int .u8 0, .int .u8 0, .int .u8 0, .int .u8 0, .int .u8 0, .int .u8 0, .int .u8 0, .int .u8 0, .int .u8 0, .int .u8 0, .int .u8 0, .int .u8 0, .int .u8 0, .int .u8 0, .int .u8 0, .int .u8 0, .int .u8 0, .int .u8 0, .int .u8 0, .int .u8 0, .int .u8 0, .int .u8 0, .int .u8 0, .int .u8 0, .int .u8 0, .int .u8 0, .int .u8 0, .int .u8 0, .int .u8 0] 46)) := HU.out.1.alloc hs _
    have H5 := Lib.hid (show Below w.heap.size w w5 ∧ w5.heap[w.heap.size]? = some (.cells #[.int .u8 0, .int .u8 0, .int .u8 0, .int .u8 0, .int .u8 0, .int .u8 0, .int .u8 0, .int .u8 0, .int .u8 0, .int .u8 0, .int .u8 0, .int .u8 0, .int .u8 0, .int .u8 0, .int .u8 0, .int .u8 0, .int .u8 0, .int .u8 0, .int .u8 0, .int .u8 0, .int .u8 0, .int .u8 0, .int .u8 0, .int .u8 0, .int .u8 0, .int .u8 0, .int .u8 0, .int .u8 0, .int .u8 0, .int .u8 0, .int .u8 0, .int .u8 0, .int .u8 0, .int .u8 0, .int .u8 0, .int .u8 0, .int .u8 0, .int .u8 0, .int .u8 0, .int .u8 0, .int .u8 0, .int .u8 0, .int .u8 0, .int .u8 0, .int .u8 0, .int .u8 0, .int .u8 0, .int .u8 0, .int .u8 0, .int .u8 0, .int .u8 0, .int .u8 0, .int .u8 0, .int .u8 0, .int .u8 0, .int .u8 0, .int .u8 0, .int .u8 0, .int .u8 0, .int .u8 0, .int .u8 0, .int .u8 0, .int .u8 0, .int .u8 0] 46 (0, 0)) ∧ w5.heap[O]? = some (.cells (ar .u8 64 y) 46 (0, 0)) from ⟨hbt.below hb (Nat.le_of_lt hO1) hb.size, (hbt.block _ (by omega) (by simp; omega)).trans ((heap_alloc_old _ _ (by omega)).trans HU.out.2.1), hrow⟩)
    have HRUN := Lib.hid hrun
    have HI : Hid ((Tryd.prog.info? 46).map (·.size) = some (ar .u8 64 y).size) := Lib.hid (by rw [ar_size]; exact info64b)
    clear hrun hbt hrow hy hs hb hO1 HU
    go_wp2_with (first | (refine wpList_semThat (.call { callee := .builtin .copy, args := #[.tmp 11, .tmp 12], argTypes := #[22, 22] }) rfl rfl (Builtin.copy_ #[22, 22] 3 #[.slice (some ⟨O, 0, none⟩) 64 64, .slice (some ⟨H, 0, none⟩) 32 32]) (.int .i64 (32 : Nat)) (by kernel_rfl) HRUN.out ?_) | (refine wpList_load_row rfl 46 _ rfl O rfl 46 _ (0, 0) _ H5.out.2.2 Tryd.underlying46 rfl HI.out ?_) | (refine wpList_store_row rfl 46 _ _ rfl w.heap.size (ar .u8 64 y) rfl rfl 46 _ H5.out.2.1 HI.out (by rw [ar_size]; rfl) (ar_one _ _ _) ?_))
    refine bodyPost_ret (v := .agg (ar .u8 64 y)) (results_cell_row (p := 2) rfl _ _ w.heap.size 46 _ (0, 0) _ rfl (setRow_heap _ _ _ _ _ _ H5.out.2.1) Tryd.underlying46 rfl HI.out) rfl ⟨by rw [HE.out], below_setRow H5.out.1 (Nat.le_refl _) _⟩
end Go.Proofs.YtkecehcnoihiiaaDoor
namespace Go.Proofs.YtkecehcnoihiiaaDoor
open Go.RowKit

theorem xor_36 : ∀ j : Fin 256, bits .xor .u8 ((j : Nat) : Int) 54 = (((j : Nat) ^^^ 54 : Nat) : Int) := by decide +kernel
theorem xor_5c : ∀ j : Fin 256, bits .xor .u8 ((j : Nat) : Int) 92 = (((j : Nat) ^^^ 92 : Nat) : Int) := by decide +kernel
/-- The block while it is xored. -/
def xbD (f : Nat → Nat) (x k j : Nat) : Nat := if j < k then f j ^^^ x else f j
theorem xbD_next (f : Nat → Nat) (x k : Nat) : updI (fun j => ((xbD f x k j : Nat) : Int)) k ((f k ^^^ x : Nat) : Int) = fun j => ((xbD f x (k + 1) j : Nat) : Int) := by
  funext j
  unfold updI xbD
  dsimp only
  by_cases e : j = k
  · subst e; rw [if_pos rfl, if_pos (by omega)]
  · rw [if_neg e]
    by_cases e2 : j < k
    · rw [if_pos e2, if_pos (by omega)]
    · rw [if_neg e2, if_neg (by omega)]
theorem xbD_at (f : Nat → Nat) (x k : Nat) : xbD f x k k = f k := by unfold xbD; rw [if_neg (by omega)]
theorem xbD_0 (f : Nat → Nat) (x : Nat) : (fun j => ((xbD f x 0 j : Nat) : Int)) = fun j => ((f j : Nat) : Int) := by funext j; unfold xbD; rw [if_neg (by omega)]
set_option maxRecDepth 100000 in
set_option maxHeartbeats 4000000 in
-- WHAT xored COMES TO.
theorem hxored {f : Nat → Nat} (hf : ∀ j, f j < 256) (X : Int) (x : Nat) (hx : ∀ a, a < 256 → bits .xor .u8 ((a : Nat) : Int) X = ((a ^^^ x : Nat) : Int)) (w : World) :
    Calls Tryd.prog 21 #[.agg (ar .u8 64 fun j => ((f j : Nat) : Int)), .int .u8 X] w fun e w' => ∃ g, e = .returned (.slice (some ⟨g, 0, none⟩) 64 64) ∧ w.heap.size ≤ g ∧ g < w'.heap.size ∧ (∀ j, j < 64 → w'.cell? ⟨g, j, none⟩ = some (.int .u8 ((f j ^^^ x : Nat) : Int))) ∧ Below w.heap.size w w' := by
  have HX := Lib.hid (And.intro hf hx)
  have H0 := Lib.hid (show Below w.heap.size w (w.alloc (.cells (ar .u8 64 fun j => ((f j : Nat) : Int)) 46)) ∧ (w.alloc (.cells (ar .u8 64 fun j => ((f j : Nat) : Int)) 46)).heap[w.heap.size]? = some (.cells (ar .u8 64 fun j => ((xbD f x 0 j : Nat) : Int)) 46 (0, 0)) from ⟨(Below.refl _ _).alloc (Nat.le_refl _) _, by rw [xbD_0]; exact heap_alloc_new _ _⟩)
  clear hf hx
  go_enter Tryd.func21, Tryd.ntmps21
  go_wp2_with fail
  go_loopw [6] (fun i wr => ∃ k : Nat, k ≤ 64 ∧ i = .int .i64 k ∧ Hid (Below w.heap.size w wr ∧ wr.heap[w.heap.size]? = some (.cells (ar .u8 64 fun j => ((xbD f x k j : Nat) : Int)) 46 (0, 0)))) (fun i _ => 64 - (intOf i).toNat)
  case atStart => exact ⟨0, by omega, rfl, H0⟩
  case round =>
    obtain ⟨k, hk, rfl, H⟩ := hrel
    clear H0
    have hk0 : (0 : Int) ≤ k := by omega
    by_cases hlt : k < 64
    · have hlt' : (k : Int) < 64 := by omega
      have HK := Lib.hid hlt
      have HN := Lib.hid (xbD_next f x k)
      have ck := (cell_of_row wr _ k _ _ _ H.out.2).trans (ar_at _ _ _ _ hlt)
      have fo := frozen_of_row _ _ k _ _ H.out.2
      rw [xbD_at] at ck
      have hy := HX.out.2 (f k) (HX.out.1 k)
      obtain ⟨a, ha⟩ : ∃ a, f k = a := ⟨_, rfl⟩
      obtain ⟨y, hy'⟩ : ∃ y, a ^^^ x = y := ⟨_, rfl⟩
      rw [ha] at ck hy HN
      rw [hy'] at hy HN
      have H5 := Lib.hid (show Below w.heap.size w (wr.setCell ⟨w.heap.size, k, none⟩ (.int .u8 (y : Nat))) ∧ (wr.setCell ⟨w.heap.size, k, none⟩ (.int .u8 (y : Nat))).heap[w.heap.size]? = some (.cells (ar .u8 64 fun j => ((xbD f x (k + 1) j : Nat) : Int)) 46 (0, 0)) from ⟨H.out.1.setCell (Nat.le_refl _) _, (heap_setCell_same _ _ _ _ _ _ H.out.2).trans (by rw [ar_set _ _ _ _ _ HK.out, HN.out])⟩)
      clear ha hy' H HN
      go_wp2_with fail
      go_roundw
      case rel => exact ⟨k + 1, by omega, by go_num, H5⟩
      case measure => simp [intOf]; omega
    · obtain rfl : k = 64 := by omega
      have H5 := Lib.hid (show w.heap.size < wr.heap.size ∧ (∀ j, j < 64 → wr.cell? ⟨w.heap.size, j, none⟩ = some (.int .u8 ((f j ^^^ x : Nat) : Int))) ∧ Below w.heap.size w wr from ⟨(Array.getElem?_eq_some_iff.1 H.out.2).1, fun j hj => by
        have h := (cell_of_row wr _ j _ _ _ H.out.2).trans (ar_at _ _ _ _ hj)
        rw [h]
        unfold xbD
        rw [if_pos hj], H.out.1⟩)
      clear H
      go_wp2_with fail
      go_ret
      exact ⟨_, rfl, Nat.le_refl _, H5.out.1, H5.out.2.1, H5.out.2.2⟩
/-- Bytes behind bytes. -/
def catB (k : Nat) (f g : Nat → Nat) (j : Nat) : Nat := if j < k then f j else g (j - k)
theorem catB_lt {k : Nat} {f g : Nat → Nat} (hf : ∀ j, f j < 256) (hg : ∀ j, g j < 256) (j : Nat) : catB k f g j < 256 := by
  unfold catB
  split
  · exact hf _
  · exact hg _
theorem ArgB.congr {w : World} {v : Value} {n : Nat} {f g : Nat → Nat} (h : ArgB w v n f) (e : ∀ j, j < n → f j = g j) : ArgB w v n g := by
  obtain ⟨a, cap, h1, h2, h3, h4⟩ := h
  refine ⟨a, cap, h1, h2, h3, ?_⟩
  rcases h4 with h4 | ⟨b, o, h4, h5, h6⟩
  · exact .inl h4
  · exact .inr ⟨b, o, h4, h5, fun j hj => by rw [h6 j hj, e j hj]⟩
theorem hsum2 {n m P : Nat} {f g : Nat → Nat} {u v : Value} {tt : TypeId} (hb : n + m + 72 < 1125899906842624) (hf : ∀ j, f j < 256) (hg : ∀ j, g j < 256) (w : World) (hT : STab w) (hP : w.heap[P]? = some (.cells #[u, v] tt (0, 0))) (hu : ArgB w u n f) (hv : ArgB w v m g) :
    Calls Tryd.prog 17 #[.slice (some ⟨P, 0, none⟩) 2 2] w fun e w' => e = .returned (.agg (ar .u8 32 (shaH (catB n f g) (n + m)))) ∧ Below w.heap.size w w' :=
  hsumof (n := 2) (P := P) (vs := fun i => if i = 0 then u else v) (off := fun i => if i = 0 then 0 else if i = 1 then n else n + m) (F := catB n f g) (catB_lt hf hg) rfl
    (fun i hi => by
      rcases (show i = 0 ∨ i = 1 by omega) with rfl | rfl
      · exact Nat.zero_le _
      · exact Nat.le_add_right _ _)
    (fun i hi => by
      rcases (show i = 0 ∨ i = 1 ∨ i = 2 by omega) with rfl | rfl | rfl
      · exact Nat.zero_le _
      · exact Nat.le_add_right _ _
      · exact Nat.le_refl _) hb (by decide) w hT
    (fun i hi => by
      rcases (show i = 0 ∨ i = 1 by omega) with rfl | rfl
      · exact cell_of_row _ _ 0 _ _ _ hP
      · exact cell_of_row _ _ 1 _ _ _ hP)
    (fun i hi => by
      rcases (show i = 0 ∨ i = 1 by omega) with rfl | rfl
      · refine ArgB.congr (g := fun j => catB n f g (0 + j)) hu (fun j hj => ?_)
        rw [Nat.zero_add]
        unfold catB
        rw [if_pos (show j < n from hj)]
      · show ArgB w v (n + m - n) (fun j => catB n f g (n + j))
        rw [Nat.add_sub_cancel_left]
        refine ArgB.congr hv (fun j hj => ?_)
        unfold catB
        rw [if_neg (by omega), Nat.add_sub_cancel_left]) (Array.getElem?_eq_some_iff.1 hP).1
end Go.Proofs.YtkecehcnoihiiaaDoor
namespace Go.Proofs.YtkecehcnoihiiaaDoor
open Go.RowKit

section
variable {P : Program} {ops : Array Oper} {Q : Exit → Act → World → Prop} {C : World → Prop} {φ : Nat → Value → World → Prop} {R : World → World → Prop}
theorem st_run {k : Nat} {o : Oper} {a : Act} {w w' : World} (v : Value) (hw : Region.wanted o (yielded ops a.tmps) = true) (hd : ∃ d, o.dst = some d) (hr : (execOp a.eval o).run P w = .ok (.value v) w') (hC : C w') (hv : φ k v w') (hR : R w w') : Step P ops Q C φ R k o a w := by
  unfold Step
  rw [if_pos hw]
  unfold Oper.wp
  rw [hr]
  exact ⟨v, rfl, hC, hv, hR, fun h => by obtain ⟨d, hd⟩ := hd; rw [hd] at h; cases h⟩
end
/-- The hash of m bytes with a key of n. -/
def hmacH (f : Nat → Nat) (n : Nat) (g : Nat → Nat) (m : Nat) : Nat → Int := shaH (catB 64 (fun j => keyN f n j ^^^ 92) (shaN (catB 64 (fun j => keyN f n j ^^^ 54) g) (64 + m))) (64 + 32)
theorem xor_lt {a b : Nat} (ha : a < 256) (hb : b < 256) : a ^^^ b < 256 := Nat.xor_lt_two_pow (n := 8) ha hb
theorem run_st {P : Program} {a : Act} {o : Oper} {w w' : World} (t : TypeId) (p q : Operand) (u v : Value) (ho : o.op = .store t p q) (hp : a.eval p = u) (hq : a.eval q = v) (h : (Instr.storeAt t u v).run P w = .ok () w') : (execOp a.eval o).run P w = .ok .skip w' := by
  unfold execOp
  rw [ho]
  simp only [hp, hq, Sem.run_bind, h, Result.andThen_ok, Sem.run_pure]
theorem run_b2 (g T : Nat) (w : World) : (Instr.buildSlice 59 2 #[(0, .slice (some ⟨g, 0, none⟩) 64 64), (1, .slice (some ⟨T, 0, none⟩) 32 32)]).run Tryd.prog w = .ok (.slice (some ⟨w.heap.size, 0, none⟩) 2 2) (w.alloc (.cells #[.slice (some ⟨g, 0, none⟩) 64 64, .slice (some ⟨T, 0, none⟩) 32 32] 22)) := by
  go_simp
theorem sl32 (T : Nat) (w : World) : (Instr.sliceAt 25 (.pointer (some ⟨T, 0, none⟩)) none none none).run Tryd.prog w = .ok (.slice (some ⟨T, 0, none⟩) 32 32) w := by
  go_simp
theorem ld64 {w : World} {A : Nat} {b : Nat → Int} (h : w.heap[A]? = some (.cells (ar .u8 64 b) 46 (0, 0))) : (Instr.loadAt 46 (.pointer (some ⟨A, 0, none⟩))).run Tryd.prog w = .ok (.agg (ar .u8 64 b)) w := by
  simp only [Instr.loadAt, Instr.sureAddr, Sem.run_bind, Sem.run_pure, Result.andThen_ok, run_loadVar_row w A 46 46 _ (0, 0) _ h Tryd.underlying46 rfl (by rw [ar_size]; exact info64b)]
theorem st32 {w : World} {g : Nat} {cs : Array Value} {y : Nat → Int} (hs : cs.size = 32) (hg : w.heap[g]? = some (.cells cs 25 (0, 0))) : (Instr.storeAt 25 (.pointer (some ⟨g, 0, none⟩)) (.agg (ar .u8 32 y))).run Tryd.prog w = .ok () (w.setRow g (ar .u8 32 y)) := by
  simp only [Instr.storeAt, Instr.sureAddr, Sem.run_bind, Sem.run_pure, Result.andThen_ok]
  exact run_storeVar_row w g 25 25 _ _ hg (by rw [ar_size]; exact info32s) (by rw [ar_size, hs]) (ar_one _ _ _)
/-- The worlds of HMAC's end: the key's block at K, the inner hash at T. -/
structure CHm (w : World) (K T : Nat) (k y : Nat → Int) (wx : World) : Prop where
  old : Below w.heap.size w wx
  rB : ∃ cs, cs.size = 32 ∧ wx.heap[w.heap.size]? = some (.cells cs 25 (0, 0))
  rK : wx.heap[K]? = some (.cells (ar .u8 64 k) 46 (0, 0))
  rT : wx.heap[T]? = some (.cells (ar .u8 32 y) 25 (0, 0))
  hK : w.heap.size < K
  hT : w.heap.size < T
section
variable {w wx w' : World} {K T : Nat} {k y : Nat → Int}
theorem CHm.lt (c : CHm w K T k y wx) : w.heap.size < wx.heap.size := by
  obtain ⟨cs, -, h⟩ := c.rB
  exact (Array.getElem?_eq_some_iff.1 h).1
theorem CHm.below (c : CHm w K T k y wx) (hb : Below wx.heap.size wx w') : CHm w K T k y w' := by
  have l := c.lt
  obtain ⟨cs, h1, h2⟩ := c.rB
  exact ⟨c.old.trans (hb.mono (by omega)), ⟨cs, h1, (hb.block _ l).trans h2⟩, (hb.block _ (Array.getElem?_eq_some_iff.1 c.rK).1).trans c.rK, (hb.block _ (Array.getElem?_eq_some_iff.1 c.rT).1).trans c.rT, c.hK, c.hT⟩
theorem CHm.row (c : CHm w K T k y wx) (z : Nat → Int) : CHm w K T k y (wx.setRow w.heap.size (ar .u8 32 z)) ∧ (wx.setRow w.heap.size (ar .u8 32 z)).heap[w.heap.size]? = some (.cells (ar .u8 32 z) 25 (0, 0)) := by
  obtain ⟨cs, h1, h2⟩ := c.rB
  have h3 : (wx.setRow w.heap.size (ar .u8 32 z)).heap[w.heap.size]? = some (.cells (ar .u8 32 z) 25 (0, 0)) := setRow_heap _ _ _ _ _ _ h2
  exact ⟨⟨below_setRow c.old (Nat.le_refl _) _, ⟨_, by rw [ar_size], h3⟩, (setRow_other _ _ _ _ (by have := c.hK; omega)).trans c.rK, (setRow_other _ _ _ _ (by have := c.hT; omega)).trans c.rT, c.hK, c.hT⟩, h3⟩
end
/-- Nothing turns but the answer, and the answer stays once it stands. -/
def RH (B : Nat) (z : Nat → Int) (wa wb : World) : Prop := wa.heap.size ≤ wb.heap.size ∧ (∀ j, j ≠ B → j < wa.heap.size → wb.heap[j]? = wa.heap[j]?) ∧ (wa.heap[B]? = some (.cells (ar .u8 32 z) 25 (0, 0)) → wb.heap[B]? = some (.cells (ar .u8 32 z) 25 (0, 0)))
theorem RH.refl (B : Nat) (z : Nat → Int) (w : World) : RH B z w w := ⟨Nat.le_refl _, fun _ _ _ => rfl, id⟩
theorem RH.of {B : Nat} {z : Nat → Int} {wa wb : World} (hB : B < wa.heap.size) (hb : Below wa.heap.size wa wb) : RH B z wa wb := ⟨hb.size, fun j _ hj => hb.block j hj, fun e => (hb.block B hB).trans e⟩
/-- A block xored. -/
def XS (B g : Nat) (f : Nat → Nat) (wx : World) : Prop := B < g ∧ g < wx.heap.size ∧ ∀ j, j < 64 → wx.cell? ⟨g, j, none⟩ = some (.int .u8 (f j : Nat))
theorem XS.keep {B g : Nat} {f : Nat → Nat} {z : Nat → Int} {wa wb : World} (h : XS B g f wa) (hR : RH B z wa wb) : XS B g f wb :=
  ⟨h.1, Nat.lt_of_lt_of_le h.2.1 hR.1, fun j hj => (World.cell?_of_block (w := wa) (a := ⟨g, j, none⟩) (hR.2.1 g (by have := h.1; omega) h.2.1)).trans (h.2.2 j hj)⟩
set_option maxRecDepth 100000 in
set_option maxHeartbeats 8000000 in
-- WHAT HMAC COMES TO.
theorem hhmac {n m : Nat} {f g : Nat → Nat} {u v : Value} (hn : n + 72 < 1125899906842624) (hm : m + 136 < 1125899906842624) (hf : ∀ j, f j < 256) (hg : ∀ j, g j < 256) (w : World) (hT : STab w) (hu : ArgB w u n f) (hv : ArgB w v m g) :
    Calls Tryd.prog 12 #[u, v] w fun e w' => e = .returned (.agg (ar .u8 32 (hmacH f n g m))) ∧ Below w.heap.size w w' := by
  have hv0 := hv
  obtain ⟨a, cap, rfl, -, -, -⟩ := hv0
  have hb0 : Below w.heap.size w (w.alloc (.cells #[.int .u8 0, .int .u8 0, .int .u8 0, .int .u8 0, .int .u8 0, .int .u8 0, .int .u8 0, .int .u8 0, .int .u8 0, .int .u8 0, .int .u8 0, .int .u8 0, .int .u8 0, .int .u8 0, .int .u8 0, .int .u8 0, .int .u8 0, .int .u8 0, .int .u8 0, .int .u8 0, .int .u8 0, .int .u8 0, .int .u8 0, .int .u8 0, .int .u8 0, .int .u8 0, .int .u8 0, .int .u8 0, .int .u8 0, .int .u8 0, .int .u8 0, .int .u8 0] 25)) := (Below.refl _ _).alloc (Nat.le_refl _) _
  have HFL := Lib.hid (hfill hn hf (w.alloc (.cells #[.int .u8 0, .int .u8 0, .int .u8 0, .int .u8 0, .int .u8 0, .int .u8 0, .int .u8 0, .int .u8 0, .int .u8 0, .int .u8 0, .int .u8 0, .int .u8 0, .int .u8 0, .int .u8 0, .int .u8 0, .int .u8 0, .int .u8 0, .int .u8 0, .int .u8 0, .int .u8 0, .int .u8 0, .int .u8 0, .int .u8 0, .int .u8 0, .int .u8 0, .int .u8 0, .int .u8 0, .int .u8 0, .int .u8 0, .int .u8 0, .int .u8 0, .int .u8 0] 25)) (hT.below hb0) (hu.below hb0))
  have H0 := Lib.hid (And.intro hb0 (heap_alloc_new w (.cells #[.int .u8 0, .int .u8 0, .int .u8 0, .int .u8 0, .int .u8 0, .int .u8 0, .int .u8 0, .int .u8 0, .int .u8 0, .int .u8 0, .int .u8 0, .int .u8 0, .int .u8 0, .int .u8 0, .int .u8 0, .int .u8 0, .int .u8 0, .int .u8 0, .int .u8 0, .int .u8 0, .int .u8 0, .int .u8 0, .int .u8 0, .int .u8 0, .int .u8 0, .int .u8 0, .int .u8 0, .int .u8 0, .int .u8 0, .int .u8 0, .int .u8 0, .int .u8 0] 25)))
  have HH : Hid (hmacH f n g m = shaH (catB 64 (fun j => keyN f n j ^^^ 92) (shaN (catB 64 (fun j => keyN f n j ^^^ 54) g) (64 + m))) (64 + 32)) := Lib.hid rfl
  have hkl := keyN_lt hf n
  obtain ⟨k, hk⟩ : ∃ k, keyN f n = k := ⟨_, rfl⟩
  rw [hk] at HFL HH hkl
  have HV := Lib.hid (And.intro hv (And.intro hT (And.intro hg (And.intro hkl hm))))
  clear hb0 hu hv hT hf hg hn hm hk hkl
  go_enter Tryd.func12, Tryd.ntmps12
  go_wp2_with fail
  refine HFL.out.mono ?_
  rintro e u1 ⟨rfl, hb1⟩
  obtain ⟨K, hK⟩ : ∃ K, u1.heap.size = K := ⟨_, rfl⟩
  have hBK : w.heap.size < K := by rw [← hK]; exact Nat.lt_of_lt_of_le (by simp) hb1.size
  have HR := Lib.hid (show (u1.alloc (.cells #[.int .u8 0, .int .u8 0, .int .u8 0, .int .u8 0, .int .u8 0, .int .u8 0, .int .u8 0, .int .u8 0, .int .u8 0, .int .u8 0, .int .u8 0, .int .u8 0, .int .u8 0, .int .u8 0, .int .u8 0, .int .u8 0, .int .u8 0, .int .u8 0, .int .u8 0, .int .u8 0, .int .u8 0, .int .u8 0, .int .u8 0, .int .u8 0, .int .u8 0, .int .u8 0, .int .u8 0, .int .u8 0, .int .u8 0, .int .u8 0, .int .u8 0, .int .u8 0, .int .u8 0, .int .u8 0, .int .u8 0, .int .u8 0, .int .u8 0, .int .u8 0, .int .u8 0, .int .u8 0, .int .u8 0, .int .u8 0, .int .u8 0, .int .u8 0, .int .u8 0, .int .u8 0, .int .u8 0, .int .u8 0, .int .u8 0, .int .u8 0, .int .u8 0, .int .u8 0, .int .u8 0, .int .u8 0, .int .u8 0, .int .u8 0, .int .u8 0, .int .u8 0, .int .u8 0, .int .u8 0, .int .u8 0, .int .u8 0, .int .u8 0, .int .u8 0] 46)).heap[K]? = some (.cells #[.int .u8 0, .int .u8 0, .int .u8 0, .int .u8 0, .int .u8 0, .int .u8 0, .int .u8 0, .int .u8 0, .int .u8 0, .int .u8 0, .int .u8 0, .int .u8 0, .int .u8 0, .int .u8 0, .int .u8 0, .int .u8 0, .int .u8 0, .int .u8 0, .int .u8 0, .int .u8 0, .int .u8 0, .int .u8 0, .int .u8 0, .int .u8 0, .int .u8 0, .int .u8 0, .int .u8 0, .int .u8 0, .int .u8 0, .int .u8 0, .int .u8 0, .int .u8 0, .int .u8 0, .int .u8 0, .int .u8 0, .int .u8 0, .int .u8 0, .int .u8 0, .int .u8 0, .int .u8 0, .int .u8 0, .int .u8 0, .int .u8 0, .int .u8 0, .int .u8 0, .int .u8 0, .int .u8 0, .int .u8 0, .int .u8 0, .int .u8 0, .int .u8 0, .int .u8 0, .int .u8 0, .int .u8 0, .int .u8 0, .int .u8 0, .int .u8 0, .int .u8 0, .int .u8 0, .int .u8 0, .int .u8 0, .int .u8 0, .int .u8 0, .int .u8 0] 46 (0, 0)) from by rw [← hK]; exact heap_alloc_new _ _)
  obtain ⟨kz, hkz⟩ : ∃ kz : Nat → Int, (fun j => ((k j : Nat) : Int)) = kz := ⟨_, rfl⟩
  rw [hkz]
  have HKZ := Lib.hid hkz
  clear hkz
  have HRK := Lib.hid (show ((u1.alloc (.cells #[.int .u8 0, .int .u8 0, .int .u8 0, .int .u8 0, .int .u8 0, .int .u8 0, .int .u8 0, .int .u8 0, .int .u8 0, .int .u8 0, .int .u8 0, .int .u8 0, .int .u8 0, .int .u8 0, .int .u8 0, .int .u8 0, .int .u8 0, .int .u8 0, .int .u8 0, .int .u8 0, .int .u8 0, .int .u8 0, .int .u8 0, .int .u8 0, .int .u8 0, .int .u8 0, .int .u8 0, .int .u8 0, .int .u8 0, .int .u8 0, .int .u8 0, .int .u8 0, .int .u8 0, .int .u8 0, .int .u8 0, .int .u8 0, .int .u8 0, .int .u8 0, .int .u8 0, .int .u8 0, .int .u8 0, .int .u8 0, .int .u8 0, .int .u8 0, .int .u8 0, .int .u8 0, .int .u8 0, .int .u8 0, .int .u8 0, .int .u8 0, .int .u8 0, .int .u8 0, .int .u8 0, .int .u8 0, .int .u8 0, .int .u8 0, .int .u8 0, .int .u8 0, .int .u8 0, .int .u8 0, .int .u8 0, .int .u8 0, .int .u8 0, .int .u8 0] 46)).setRow K (ar .u8 64 kz)).heap[K]? = some (.cells (ar .u8 64 kz) 46 (0, 0)) from setRow_heap _ _ _ _ _ _ HR.out)
  have HI : Hid ((Tryd.prog.info? 46).map (·.size) = some (ar .u8 64 kz).size) := Lib.hid (by rw [ar_size]; exact info64b)
  have H1 := Lib.hid (show Below w.heap.size w ((u1.alloc (.cells #[.int .u8 0, .int .u8 0, .int .u8 0, .int .u8 0, .int .u8 0, .int .u8 0, .int .u8 0, .int .u8 0, .int .u8 0, .int .u8 0, .int .u8 0, .int .u8 0, .int .u8 0, .int .u8 0, .int .u8 0, .int .u8 0, .int .u8 0, .int .u8 0, .int .u8 0, .int .u8 0, .int .u8 0, .int .u8 0, .int .u8 0, .int .u8 0, .int .u8 0, .int .u8 0, .int .u8 0, .int .u8 0, .int .u8 0, .int .u8 0, .int .u8 0, .int .u8 0, .int .u8 0, .int .u8 0, .int .u8 0, .int .u8 0, .int .u8 0, .int .u8 0, .int .u8 0, .int .u8 0, .int .u8 0, .int .u8 0, .int .u8 0, .int .u8 0, .int .u8 0, .int .u8 0, .int .u8 0, .int .u8 0, .int .u8 0, .int .u8 0, .int .u8 0, .int .u8 0, .int .u8 0, .int .u8 0, .int .u8 0, .int .u8 0, .int .u8 0, .int .u8 0, .int .u8 0, .int .u8 0, .int .u8 0, .int .u8 0, .int .u8 0, .int .u8 0] 46)).setRow K (ar .u8 64 kz)) ∧ ((u1.alloc (.cells #[.int .u8 0, .int .u8 0, .int .u8 0, .int .u8 0, .int .u8 0, .int .u8 0, .int .u8 0, .int .u8 0, .int .u8 0, .int .u8 0, .int .u8 0, .int .u8 0, .int .u8 0, .int .u8 0, .int .u8 0, .int .u8 0, .int .u8 0, .int .u8 0, .int .u8 0, .int .u8 0, .int .u8 0, .int .u8 0, .int .u8 0, .int .u8 0, .int .u8 0, .int .u8 0, .int .u8 0, .int .u8 0, .int .u8 0, .int .u8 0, .int .u8 0, .int .u8 0, .int .u8 0, .int .u8 0, .int .u8 0, .int .u8 0, .int .u8 0, .int .u8 0, .int .u8 0, .int .u8 0, .int .u8 0, .int .u8 0, .int .u8 0, .int .u8 0, .int .u8 0, .int .u8 0, .int .u8 0, .int .u8 0, .int .u8 0, .int .u8 0, .int .u8 0, .int .u8 0, .int .u8 0, .int .u8 0, .int .u8 0, .int .u8 0, .int .u8 0, .int .u8 0, .int .u8 0, .int .u8 0, .int .u8 0, .int .u8 0, .int .u8 0, .int .u8 0] 46)).setRow K (ar .u8 64 kz)).heap[w.heap.size]? = some (.cells #[.int .u8 0, .int .u8 0, .int .u8 0, .int .u8 0, .int .u8 0, .int .u8 0, .int .u8 0, .int .u8 0, .int .u8 0, .int .u8 0, .int .u8 0, .int .u8 0, .int .u8 0, .int .u8 0, .int .u8 0, .int .u8 0, .int .u8 0, .int .u8 0, .int .u8 0, .int .u8 0, .int .u8 0, .int .u8 0, .int .u8 0, .int .u8 0, .int .u8 0, .int .u8 0, .int .u8 0, .int .u8 0, .int .u8 0, .int .u8 0, .int .u8 0, .int .u8 0] 25 (0, 0)) from
    ⟨below_setRow ((H0.out.1.trans (hb1.mono (by simp))).alloc (by omega) _) (by omega) _, (setRow_other _ _ _ _ (by omega)).trans ((heap_alloc_old _ _ (by omega)).trans ((hb1.block _ (by simp)).trans H0.out.2))⟩)
  have HB := Lib.hid hBK
  clear hb1 H0 HFL hBK
  go_wp2_with (first | (refine wpList_store_row rfl 46 _ _ rfl K (ar .u8 64 kz) rfl rfl 46 _ HR.out HI.out (by rw [ar_size]; rfl) (ar_one _ _ _) ?_) | (refine wpList_load_row rfl 46 _ rfl K rfl 46 _ (0, 0) _ HRK.out Tryd.underlying46 rfl HI.out ?_))
  have HX54 := hxored (f := k) HV.out.2.2.2.1 54 54 (fun a ha => xor_36 ⟨a, ha⟩) ((u1.alloc (.cells #[.int .u8 0, .int .u8 0, .int .u8 0, .int .u8 0, .int .u8 0, .int .u8 0, .int .u8 0, .int .u8 0, .int .u8 0, .int .u8 0, .int .u8 0, .int .u8 0, .int .u8 0, .int .u8 0, .int .u8 0, .int .u8 0, .int .u8 0, .int .u8 0, .int .u8 0, .int .u8 0, .int .u8 0, .int .u8 0, .int .u8 0, .int .u8 0, .int .u8 0, .int .u8 0, .int .u8 0, .int .u8 0, .int .u8 0, .int .u8 0, .int .u8 0, .int .u8 0, .int .u8 0, .int .u8 0, .int .u8 0, .int .u8 0, .int .u8 0, .int .u8 0, .int .u8 0, .int .u8 0, .int .u8 0, .int .u8 0, .int .u8 0, .int .u8 0, .int .u8 0, .int .u8 0, .int .u8 0, .int .u8 0, .int .u8 0, .int .u8 0, .int .u8 0, .int .u8 0, .int .u8 0, .int .u8 0, .int .u8 0, .int .u8 0, .int .u8 0, .int .u8 0, .int .u8 0, .int .u8 0, .int .u8 0, .int .u8 0, .int .u8 0, .int .u8 0] 46)).setRow K (ar .u8 64 kz))
  rw [HKZ.out] at HX54
  refine HX54.mono ?_
  rintro e u2 ⟨g1, rfl, hg1, hg1l, hc1, hb2⟩
  clear HX54
  obtain ⟨wK, hwK⟩ : ∃ z, (u1.alloc (.cells #[.int .u8 0, .int .u8 0, .int .u8 0, .int .u8 0, .int .u8 0, .int .u8 0, .int .u8 0, .int .u8 0, .int .u8 0, .int .u8 0, .int .u8 0, .int .u8 0, .int .u8 0, .int .u8 0, .int .u8 0, .int .u8 0, .int .u8 0, .int .u8 0, .int .u8 0, .int .u8 0, .int .u8 0, .int .u8 0, .int .u8 0, .int .u8 0, .int .u8 0, .int .u8 0, .int .u8 0, .int .u8 0, .int .u8 0, .int .u8 0, .int .u8 0, .int .u8 0, .int .u8 0, .int .u8 0, .int .u8 0, .int .u8 0, .int .u8 0, .int .u8 0, .int .u8 0, .int .u8 0, .int .u8 0, .int .u8 0, .int .u8 0, .int .u8 0, .int .u8 0, .int .u8 0, .int .u8 0, .int .u8 0, .int .u8 0, .int .u8 0, .int .u8 0, .int .u8 0, .int .u8 0, .int .u8 0, .int .u8 0, .int .u8 0, .int .u8 0, .int .u8 0, .int .u8 0, .int .u8 0, .int .u8 0, .int .u8 0, .int .u8 0, .int .u8 0] 46)).setRow K (ar .u8 64 kz) = z := ⟨_, rfl⟩
  rw [hwK] at H1 HRK hg1 hb2
  have hKl := (Array.getElem?_eq_some_iff.1 HRK.out).1
  have hg1B : w.heap.size < g1 := by have := HB.out; omega
  have H2 := Lib.hid (show Below w.heap.size w u2 ∧ u2.heap[w.heap.size]? = some (.cells #[.int .u8 0, .int .u8 0, .int .u8 0, .int .u8 0, .int .u8 0, .int .u8 0, .int .u8 0, .int .u8 0, .int .u8 0, .int .u8 0, .int .u8 0, .int .u8 0, .int .u8 0, .int .u8 0, .int .u8 0, .int .u8 0, .int .u8 0, .int .u8 0, .int .u8 0, .int .u8 0, .int .u8 0, .int .u8 0, .int .u8 0, .int .u8 0, .int .u8 0, .int .u8 0, .int .u8 0, .int .u8 0, .int .u8 0, .int .u8 0, .int .u8 0, .int .u8 0] 25 (0, 0)) ∧ u2.heap[K]? = some (.cells (ar .u8 64 kz) 46 (0, 0)) from ⟨H1.out.1.trans (hb2.mono H1.out.1.size), (hb2.block _ (by have := HB.out; omega)).trans H1.out.2, (hb2.block _ hKl).trans HRK.out⟩)
  have hba : Below u2.heap.size u2 (u2.alloc (.cells #[.slice (some ⟨g1, 0, none⟩) 64 64, .slice a m cap] 22)) := (Below.refl _ _).alloc (Nat.le_refl _) _
  have hbw := H2.out.1.trans (hba.mono H2.out.1.size)
  have HS2 := Lib.hid (hsum2 (n := 64) (m := m) (P := u2.heap.size) (f := fun j => k j ^^^ 54) (g := g) (u := .slice (some ⟨g1, 0, none⟩) 64 64) (v := .slice a m cap) (by have := HV.out.2.2.2.2; omega) (fun j => xor_lt (HV.out.2.2.2.1 j) (by decide)) HV.out.2.2.1 (u2.alloc (.cells #[.slice (some ⟨g1, 0, none⟩) 64 64, .slice a m cap] 22)) (HV.out.2.1.below hbw) (heap_alloc_new _ _)
    ⟨some ⟨g1, 0, none⟩, 64, rfl, by omega, nofun, .inr ⟨g1, 0, rfl, by simp; omega, fun j hj => by
      rw [Nat.zero_add]
      exact (hba.cell (p := ⟨g1, j, none⟩) hg1l).trans (hc1 j hj)⟩⟩ (HV.out.1.below hbw))
  have H3 := Lib.hid (And.intro hbw (And.intro ((heap_alloc_old _ (.cells #[.slice (some ⟨g1, 0, none⟩) 64 64, .slice a m cap] 22) (Array.getElem?_eq_some_iff.1 H2.out.2.1).1).trans H2.out.2.1) ((heap_alloc_old _ (.cells #[.slice (some ⟨g1, 0, none⟩) 64 64, .slice a m cap] 22) (Array.getElem?_eq_some_iff.1 H2.out.2.2).1).trans H2.out.2.2)))
  clear hwK hKl hg1B H2 hba hbw hg1 hg1l hc1 hb2 H1 HRK HR hK
  go_wp2_with fail
  refine HS2.out.mono ?_
  rintro e u3 ⟨rfl, hb3⟩
  obtain ⟨T, hT⟩ : ∃ T, u3.heap.size = T := ⟨_, rfl⟩
  obtain ⟨q, hq⟩ : ∃ q : Nat → Nat, shaN (catB 64 (fun j => k j ^^^ 54) g) (64 + m) = q := ⟨_, rfl⟩
  have hqc : shaH (catB 64 (fun j => k j ^^^ 54) g) (64 + m) = fun j => ((q j : Nat) : Int) := by funext j; rw [← hq, shaN_cast]
  have hql : ∀ j, q j < 256 := by rw [← hq]; exact fun j => shaN_lt _ _ j
  rw [hq] at HH
  rw [hqc]
  obtain ⟨y, hy⟩ : ∃ y : Nat → Int, (fun j => ((q j : Nat) : Int)) = y := ⟨_, rfl⟩
  rw [hy]
  have HY := Lib.hid (And.intro hy hql)
  have HR := Lib.hid (show (u3.alloc (.cells #[.int .u8 0, .int .u8 0, .int .u8 0, .int .u8 0, .int .u8 0, .int .u8 0, .int .u8 0, .int .u8 0, .int .u8 0, .int .u8 0, .int .u8 0, .int .u8 0, .int .u8 0, .int .u8 0, .int .u8 0, .int .u8 0, .int .u8 0, .int .u8 0, .int .u8 0, .int .u8 0, .int .u8 0, .int .u8 0, .int .u8 0, .int .u8 0, .int .u8 0, .int .u8 0, .int .u8 0, .int .u8 0, .int .u8 0, .int .u8 0, .int .u8 0, .int .u8 0] 25)).heap[T]? = some (.cells #[.int .u8 0, .int .u8 0, .int .u8 0, .int .u8 0, .int .u8 0, .int .u8 0, .int .u8 0, .int .u8 0, .int .u8 0, .int .u8 0, .int .u8 0, .int .u8 0, .int .u8 0, .int .u8 0, .int .u8 0, .int .u8 0, .int .u8 0, .int .u8 0, .int .u8 0, .int .u8 0, .int .u8 0, .int .u8 0, .int .u8 0, .int .u8 0, .int .u8 0, .int .u8 0, .int .u8 0, .int .u8 0, .int .u8 0, .int .u8 0, .int .u8 0, .int .u8 0] 25 (0, 0)) from by rw [← hT]; exact heap_alloc_new _ _)
  have HI3 : Hid ((Tryd.prog.info? 25).map (·.size) = some (ar .u8 32 y).size) := Lib.hid (by rw [ar_size]; exact info32s)
  have hl0 := (Array.getElem?_eq_some_iff.1 H3.out.2.1).1
  have hlK := (Array.getElem?_eq_some_iff.1 H3.out.2.2).1
  have hs3 := hb3.size
  have HC := Lib.hid (show CHm w K T kz y ((u3.alloc (.cells #[.int .u8 0, .int .u8 0, .int .u8 0, .int .u8 0, .int .u8 0, .int .u8 0, .int .u8 0, .int .u8 0, .int .u8 0, .int .u8 0, .int .u8 0, .int .u8 0, .int .u8 0, .int .u8 0, .int .u8 0, .int .u8 0, .int .u8 0, .int .u8 0, .int .u8 0, .int .u8 0, .int .u8 0, .int .u8 0, .int .u8 0, .int .u8 0, .int .u8 0, .int .u8 0, .int .u8 0, .int .u8 0, .int .u8 0, .int .u8 0, .int .u8 0, .int .u8 0] 25)).setRow T (ar .u8 32 y)) from
    ⟨below_setRow ((H3.out.1.trans (hb3.mono H3.out.1.size)).alloc (by omega) _) (by omega) _, ⟨_, rfl, (setRow_other _ _ _ _ (by omega)).trans ((heap_alloc_old _ _ (by omega)).trans ((hb3.block _ hl0).trans H3.out.2.1))⟩, (setRow_other _ _ _ _ (by omega)).trans ((heap_alloc_old _ _ (by omega)).trans ((hb3.block _ hlK).trans H3.out.2.2)), setRow_heap _ _ _ _ _ _ HR.out, HB.out, by omega⟩)
  clear hb3 hq hqc hql hy hl0 hlK hs3 H3 HS2
  go_upto_region 3 with (refine wpList_store_row rfl 25 _ _ rfl T (ar .u8 32 y) rfl rfl 25 _ HR.out HI3.out (by rw [ar_size]; rfl) (ar_one _ _ _) ?_)
  obtain ⟨w3, hw3⟩ : ∃ z, (u3.alloc (.cells #[.int .u8 0, .int .u8 0, .int .u8 0, .int .u8 0, .int .u8 0, .int .u8 0, .int .u8 0, .int .u8 0, .int .u8 0, .int .u8 0, .int .u8 0, .int .u8 0, .int .u8 0, .int .u8 0, .int .u8 0, .int .u8 0, .int .u8 0, .int .u8 0, .int .u8 0, .int .u8 0, .int .u8 0, .int .u8 0, .int .u8 0, .int .u8 0, .int .u8 0, .int .u8 0, .int .u8 0, .int .u8 0, .int .u8 0, .int .u8 0, .int .u8 0, .int .u8 0] 25)).setRow T (ar .u8 32 y) = z := ⟨_, rfl⟩
  rw [hw3] at HC ⊢
  clear hw3 hT HR HI3
  obtain ⟨z, hz⟩ : ∃ z, hmacH f n g m = z := ⟨_, rfl⟩
  rw [hz] at HH
  have HZ := Lib.hid hz
  clear hz
  refine region_inv (CHm w K T kz y) (fun i v wx => match i with | 0 => v = .agg (ar .u8 64 kz) | 1 => ∃ g2, v = .slice (some ⟨g2, 0, none⟩) 64 64 ∧ XS w.heap.size g2 (fun j => k j ^^^ 92) wx | 2 => v = .slice (some ⟨T, 0, none⟩) 32 32 | 3 => ∃ P g2, v = .slice (some ⟨P, 0, none⟩) 2 2 ∧ w.heap.size < P ∧ wx.heap[P]? = some (.cells #[.slice (some ⟨g2, 0, none⟩) 64 64, .slice (some ⟨T, 0, none⟩) 32 32] 22 (0, 0)) ∧ XS w.heap.size g2 (fun j => k j ^^^ 92) wx | 4 => v = .agg (ar .u8 32 z) | 5 => wx.heap[w.heap.size]? = some (.cells (ar .u8 32 z) 25 (0, 0)) | _ => True) (RH w.heap.size z) (by kernel_rfl) (by kernel_rfl) ?_ ?_ ?_ ?_
  · exact ⟨HC.out.old.drew, HC.out.rB, HC.out.rK, HC.out.rT, HC.out.hK, HC.out.hT⟩
  · intro i v wa wb hR h
    match i, h with
    | 0, h => exact h
    | 1, ⟨g2, h1, h2⟩ => exact ⟨g2, h1, h2.keep hR⟩
    | 2, h => exact h
    | 3, ⟨P, g2, h1, h2, h3, h4⟩ => exact ⟨P, g2, h1, h2, (hR.2.1 P (by omega) (Array.getElem?_eq_some_iff.1 h3).1).trans h3, h4.keep hR⟩
    | 4, h => exact h
    | 5, h => exact hR.2.2 h
    | _ + 6, _ => trivial
  · refine ⟨fun a wx hC hK => ?_, fun a wx hC hK => ?_, fun a wx hC hK => ?_, fun a wx hC hK => ?_, fun a wx hC hK => ?_, fun a wx hC hK => ?_, trivial⟩
    · exact st_load 46 (.tmp 5) (.pointer (some ⟨K, 0, none⟩)) (.agg (ar .u8 64 kz)) rfl (by kernel_rfl) (fun h => by cases h) (hK.1 5 (by kernel_rfl)) (ld64 hC.rK) hC rfl (RH.refl _ _ _)
    · have h0 : a.tmps.getD 14 undef = .agg (ar .u8 64 kz) := hK.2 ⟨0, .data⟩ (by simp) rfl _ rfl
      refine st_call 21 #[a.tmps.getD 14 undef, .int .u8 92] (by kernel_rfl) ⟨_, rfl⟩ (by kernel_rfl) ?_
      rw [h0]
      have hx := hxored (f := k) HV.out.2.2.2.1 92 92 (fun a ha => xor_5c ⟨a, ha⟩) wx
      rw [HKZ.out] at hx
      refine hx.mono ?_
      rintro e w' ⟨g2, rfl, hg, hgl, hc, hb⟩
      exact ⟨_, rfl, hC.below hb, ⟨g2, rfl, by have := hC.lt; omega, hgl, hc⟩, RH.of hC.lt hb⟩
    · have h0 : a.tmps.getD 6 undef = .pointer (some ⟨T, 0, none⟩) := hK.1 6 (by kernel_rfl)
      refine st_val (.slice (some ⟨T, 0, none⟩) 32 32) (by kernel_rfl) (fun h => by cases h) ?_ hC rfl (RH.refl _ _ _)
      show (do let v ← Instr.sliceAt 25 (a.tmps.getD 6 undef) none none none; pure (Next.value v) : Sem Next).run Tryd.prog wx = _
      rw [h0]
      simp only [Sem.run_bind, sl32, Result.andThen_ok, Sem.run_pure]
    · obtain ⟨g2, e1, hX⟩ : ∃ g2, a.tmps.getD 15 undef = .slice (some ⟨g2, 0, none⟩) 64 64 ∧ XS w.heap.size g2 (fun j => k j ^^^ 92) wx := hK.2 ⟨1, .data⟩ (by simp) rfl _ rfl
      have h2 : a.tmps.getD 16 undef = .slice (some ⟨T, 0, none⟩) 32 32 := hK.2 ⟨2, .data⟩ (by simp) rfl _ rfl
      have hba : Below wx.heap.size wx (wx.alloc (.cells #[.slice (some ⟨g2, 0, none⟩) 64 64, .slice (some ⟨T, 0, none⟩) 32 32] 22)) := (Below.refl _ _).alloc (Nat.le_refl _) _
      refine st_run (.slice (some ⟨wx.heap.size, 0, none⟩) 2 2) (by kernel_rfl) ⟨_, rfl⟩ ?_ (hC.below hba) ⟨wx.heap.size, g2, rfl, hC.lt, heap_alloc_new _ _, hX.keep (z := z) (RH.of hC.lt hba)⟩ (RH.of hC.lt hba)
      have e1' : a.eval (.tmp 15) = .slice (some ⟨g2, 0, none⟩) 64 64 := e1
      have h2' : a.eval (.tmp 16) = .slice (some ⟨T, 0, none⟩) 32 32 := h2
      unfold execOp
      simp only [List.map_toArray, List.map_cons, List.map_nil, e1', h2', Sem.run_bind, run_b2, Result.andThen_ok, Sem.run_pure]
    · obtain ⟨P, g2, e1, hP, hrow, hX⟩ : ∃ P g2, a.tmps.getD 17 undef = .slice (some ⟨P, 0, none⟩) 2 2 ∧ w.heap.size < P ∧ wx.heap[P]? = some (.cells #[.slice (some ⟨g2, 0, none⟩) 64 64, .slice (some ⟨T, 0, none⟩) 32 32] 22 (0, 0)) ∧ XS w.heap.size g2 (fun j => k j ^^^ 92) wx := hK.2 ⟨3, .data⟩ (by simp) rfl _ rfl
      refine st_call 17 #[a.tmps.getD 17 undef] (by kernel_rfl) ⟨_, rfl⟩ (by kernel_rfl) ?_
      rw [e1]
      have hs := hsum2 (n := 64) (m := 32) (P := P) (f := fun j => k j ^^^ 92) (g := q) (by decide) (fun j => xor_lt (HV.out.2.2.2.1 j) (by decide)) HY.out.2 wx (HV.out.2.1.below hC.old) hrow
        ⟨some ⟨g2, 0, none⟩, 64, rfl, by omega, nofun, .inr ⟨g2, 0, rfl, hX.2.1, fun j hj => by rw [Nat.zero_add]; exact hX.2.2 j hj⟩⟩
        ⟨some ⟨T, 0, none⟩, 32, rfl, by omega, nofun, .inr ⟨T, 0, rfl, (Array.getElem?_eq_some_iff.1 hC.rT).1, fun j hj => by
          rw [Nat.zero_add]
          refine ((cell_of_row wx _ j _ _ _ hC.rT).trans (ar_at _ _ _ _ hj)).trans ?_
          rw [← HY.out.1]⟩⟩
      rw [← HH.out] at hs
      exact hs.mono fun e w' h => ⟨_, h.1, hC.below h.2, rfl, RH.of hC.lt h.2⟩
    · have h0 : a.tmps.getD 18 undef = .agg (ar .u8 32 z) := hK.2 ⟨4, .data⟩ (by simp) rfl _ rfl
      obtain ⟨cs, h1, h2⟩ := hC.rB
      exact st_store (by kernel_rfl) (run_st 25 (.tmp 4) (.tmp 18) _ _ rfl (hK.1 4 (by kernel_rfl)) h0 (st32 h1 h2)) (hC.row z).1 (hC.row z).2 ⟨by rw [setRow_size]; exact Nat.le_refl _, fun j hj _ => setRow_other _ _ _ _ hj, fun _ => (hC.row z).2⟩
  · intro fv wx hC hf
    have h6 : wx.heap[w.heap.size]? = some (.cells (ar .u8 32 z) 25 (0, 0)) := hf 5 _ rfl
    generalize hA : putAll _ _ _ = A
    have h4 : A.tmps.getD 4 undef = Value.pointer (some ⟨w.heap.size, 0, none⟩) := by subst hA; kernel_rfl
    have hd : A.defers = [] := by subst hA; kernel_rfl
    clear hA hf
    go_wp2
    (try simp only [Exit.inBlock, Exit.then])
    exact bodyPost_ret (v := .agg (ar .u8 32 z)) (results_cell_row (p := 4) rfl _ _ w.heap.size 25 _ (0, 0) _ h4 h6 Tryd.underlying25 rfl (by rw [ar_size]; exact info32s)) hd ⟨by rw [HZ.out], hC.old⟩
end Go.Proofs.YtkecehcnoihiiaaDoor
namespace Go.Proofs.YtkecehcnoihiiaaDoor
open Go.RowKit

/-- The worlds while the two lists are made. -/
structure CTw (w0 : World) (x y : Nat → Nat) (p q : Value) (k : Nat) (wx : World) : Prop where
  old : Below w0.heap.size w0 wx
  op : Own8 w0.heap.size x k p wx
  oq : Own8 w0.heap.size y k q wx
  ne : p.ownBlock ≠ q.ownBlock
theorem own_ne {w : World} {B k g c g3 : Nat} {f : Nat → Nat} {v : Value} (h : Own8 B f k v w) (hs : ∃ g c, v = .slice (some ⟨g, 0, none⟩) k c) (hne : v.ownBlock ≠ (Value.slice (some ⟨g, 0, none⟩) k c).ownBlock) (hat : (Value.slice (some ⟨g, 0, none⟩) k c).ownBlock = some g3 ∨ w.heap.size ≤ g3) (c3 : Nat) : v.ownBlock ≠ (Value.slice (some ⟨g3, 0, none⟩) (k + 1) c3).ownBlock := by
  obtain ⟨gv, cv, rfl⟩ := hs
  have hl := h.lt gv rfl
  rcases hat with hat | hat
  · rw [hat] at hne
    exact hne
  · intro e
    have e2 : some gv = some g3 := e
    injection e2 with e2
    omega
set_option maxRecDepth 100000 in
set_option maxHeartbeats 8000000 in
-- THE TWO LISTS.
theorem hm_b0 {w0 wa : World} {nk ck D1 D2 : Nat} {ak : Option Addr} {fk x y : Nat → Nat} (hf : ∀ j, fk j < 256) (hK : RdB w0 ak nk fk) (hx : ∀ j, j < 64 → x j = (if j < nk then fk j else 0) ^^^ 54) (hy : ∀ j, j < 64 → y j = (if j < nk then fk j else 0) ^^^ 92) (hc : CTw w0 x y (.slice (some ⟨D1, 0, none⟩) 0 0) (.slice (some ⟨D2, 0, none⟩) 0 0) 0 wa) {Q : Exit → Act → World → Prop}
    {s1 s2 s3 s4 s5 s6 s7 s11 s12 s13 s14 s15 s16 s17 s18 s19 s20 s21 s22 s23 s24 s25 s26 s27 s28 s29 s30 s31 s32 s33 s34 s35 s36 s37 s38 s39 s40 s41 s42 s43 s44 s45 s46 s47 s48 s49 s50 s51 s52 s53 s54 s55 s56 s57 s58 s59 s60 : Value} (hQ : ∀ (u11 u27 u28 u29 u30 u31 u32 u33 u34 u35 u36 u37 u38 u39 u40 u41 u42 u43 u44 u45 u46 u47 u48 : Value) (g1 c1 g2 c2 : Nat) (wx : World), CTw w0 x y (.slice (some ⟨g1, 0, none⟩) 64 c1) (.slice (some ⟨g2, 0, none⟩) 64 c2) 64 wx → Q .normal ⟨(.slice ak nk ck :: s1 :: s2 :: s3 :: s4 :: s5 :: s6 :: s7 :: .slice (some ⟨g1, 0, none⟩) 64 c1 :: .slice (some ⟨g2, 0, none⟩) 64 c2 :: .int .i64 64 :: u11 :: s12 :: s13 :: s14 :: s15 :: s16 :: s17 :: s18 :: s19 :: s20 :: s21 :: s22 :: s23 :: s24 :: s25 :: s26 :: u27 :: u28 :: u29 :: u30 :: u31 :: u32 :: u33 :: u34 :: u35 :: u36 :: u37 :: u38 :: u39 :: u40 :: u41 :: u42 :: u43 :: u44 :: u45 :: u46 :: u47 :: u48 :: s49 :: s50 :: s51 :: s52 :: s53 :: s54 :: s55 :: s56 :: s57 :: s58 :: s59 :: s60 :: []).toArray, []⟩ wx) : ((Tryd.f13.body.bind (blkIn 0)).getD .skip).wp Tryd.prog Q ⟨(.slice ak nk ck :: s1 :: s2 :: s3 :: s4 :: s5 :: s6 :: s7 :: .slice (some ⟨D1, 0, none⟩) 0 0 :: .slice (some ⟨D2, 0, none⟩) 0 0 :: .int .i64 0 :: s11 :: s12 :: s13 :: s14 :: s15 :: s16 :: s17 :: s18 :: s19 :: s20 :: s21 :: s22 :: s23 :: s24 :: s25 :: s26 :: s27 :: s28 :: s29 :: s30 :: s31 :: s32 :: s33 :: s34 :: s35 :: s36 :: s37 :: s38 :: s39 :: s40 :: s41 :: s42 :: s43 :: s44 :: s45 :: s46 :: s47 :: s48 :: s49 :: s50 :: s51 :: s52 :: s53 :: s54 :: s55 :: s56 :: s57 :: s58 :: s59 :: s60 :: []).toArray, []⟩ wa := by
  conv => arg 2; whnf
  have HQ := Lib.hid hQ
  have HX := Lib.hid (And.intro hx hy)
  have HF := Lib.hid (And.intro hf hK)
  have H0 := Lib.hid hc
  clear hQ hx hy hf hK hc
  obtain ⟨i0, hi, hz0, hz1, hz2⟩ := info_partsB info8
  have hnk0 : (0 : Int) ≤ nk := by omega
  go_wp2_with fail
  go_loopw [8, 9, 10] (fun p q i wr => ∃ k g1 c1 g2 c2 : Nat, k ≤ 64 ∧ i = .int .i64 (k : Nat) ∧ p = .slice (some ⟨g1, 0, none⟩) k c1 ∧ q = .slice (some ⟨g2, 0, none⟩) k c2 ∧ Hid (CTw w0 x y p q k wr)) (fun _ _ i _ => 64 - (intOf i).toNat)
  case atStart => exact ⟨0, D1, 0, D2, 0, by omega, rfl, rfl, rfl, H0⟩
  case round =>
    obtain ⟨k, g1, c1, g2, c2, hk, rfl, rfl, rfl, H⟩ := hrel
    clear H0
    have hk0 : (0 : Int) ≤ k := by omega
    by_cases hlt : k < 64
    · have hlt' : (k : Int) < 64 := by omega
      by_cases hkn : k < nk
      · have hkn' : (k : Int) < nk := by omega
        have hc256 := HF.out.1 k
        obtain ⟨p, hix, hpl, hpc⟩ := RdB.at_ HF.out.2 ck k hkn
        have cp := (H.out.old.cell hpl).trans hpc
        obtain ⟨c, hcc⟩ : ∃ c, fk k = c := ⟨_, rfl⟩
        have hcv : (if k < nk then fk k else 0) = c := (if_pos hkn).trans hcc
        rw [hcc] at hc256 cp
        clear hpl hpc hcc
        have hxk := HX.out.1 k hlt
        have hyk := HX.out.2 k hlt
        have b1 := xor_36 ⟨c, hc256⟩
        have b2 := xor_5c ⟨c, hc256⟩
        simp only at b1 b2
        rw [hcv] at hxk hyk
        rw [← hxk] at b1
        rw [← hyk] at b2
        have HPX := Lib.hid (p8_next x k)
        have HPY := Lib.hid (p8_next y k)
        obtain ⟨e1, he1⟩ : ∃ e, x k = e := ⟨_, rfl⟩
        obtain ⟨e2, he2⟩ : ∃ e, y k = e := ⟨_, rfl⟩
        rw [he1] at b1 HPX
        rw [he2] at b2 HPY
        have hsz : w0.heap.size ≤ wr.heap.size := H.out.old.size
        clear hxk hyk hcv he1 he2 hc256
        go_wp2_with (first | (at_builtin; refine wpList_append_lies _ rfl _ _ 22 rfl w0.heap.size 5 i0 (.int .u8 0) 1 1 Tryd.underlying22 hi hz0 hz1 hz2 rfl (by decide) (.slice (some ⟨g1, 0, none⟩) k c1) k (p8 x k) rfl (World.ownsRow.alloc H.out.op _) ⟨wr.heap.size, 0, none⟩ 1 1 [.int .u8 (e1 : Nat)] rfl rfl (cell_one_new _ _ _) (by intro u hu; simp at hu; subst hu; rfl) (by omega) (by unfold maxLen; omega) (by omega) (by simp; omega) (wr.heap.size + 1) (by simp) ?_; intro g3 c3 w3 hown3 hgrow hat hlt3; (have hsz3 : w0.heap.size ≤ w3.heap.size := Nat.le_trans hsz (Nat.le_trans (by simp) hgrow.size)); (rw [HPX.out] at hown3); (have HA2 := Lib.hid (show Below w0.heap.size w0 w3 ∧ Own8 w0.heap.size x (k + 1) (.slice (some ⟨g3, 0, none⟩) (k + 1) c3) w3 ∧ Own8 w0.heap.size y k (.slice (some ⟨g2, 0, none⟩) k c2) w3 ∧ (Value.slice (some ⟨g2, 0, none⟩) k c2).ownBlock ≠ (Value.slice (some ⟨g3, 0, none⟩) (k + 1) c3).ownBlock from ⟨own_below H.out.op H.out.old hsz hgrow, hown3, (World.ownsRow.alloc H.out.oq _).kept hgrow (.inr (Ne.symm H.out.ne)), own_ne H.out.oq ⟨_, _, rfl⟩ (Ne.symm H.out.ne) (hat.imp id fun h => by omega) _⟩)); clear hgrow hat hlt3 hown3) | (at_builtin; refine wpList_append_lies _ rfl _ _ 22 rfl w0.heap.size 5 i0 (.int .u8 0) 1 1 Tryd.underlying22 hi hz0 hz1 hz2 rfl (by decide) (.slice (some ⟨g2, 0, none⟩) k c2) k (p8 y k) rfl (World.ownsRow.alloc HA2.out.2.2.1 _) ⟨w3.heap.size, 0, none⟩ 1 1 [.int .u8 (e2 : Nat)] rfl rfl (cell_one_new _ _ _) (by intro u hu; simp at hu; subst hu; rfl) (by omega) (by unfold maxLen; omega) (by omega) (by simp; omega) (w3.heap.size + 1) (by simp) ?_; intro g4 c4 w4 hown4 hgrow4 hat4 hlt4; (rw [HPY.out] at hown4); (have HQ1 := Lib.hid (show CTw w0 x y (.slice (some ⟨g3, 0, none⟩) (k + 1) c3) (.slice (some ⟨g4, 0, none⟩) (k + 1) c4) (k + 1) w4 from ⟨own_below HA2.out.2.2.1 HA2.out.1 hsz3 hgrow4, (World.ownsRow.alloc HA2.out.2.1 _).kept hgrow4 (.inr (Ne.symm HA2.out.2.2.2)), hown4, fun e => by have h1 := own_ne (w := w3) HA2.out.2.1 ⟨_, _, rfl⟩ (k := k + 1) (g := g2) (c := c2) (g3 := g4) (fun h => HA2.out.2.2.2 h.symm) (hat4.imp id fun h => by omega) c4; exact h1 e⟩)); clear hgrow4 hat4 hlt4 hown4))
        clear H
        go_roundw
        case rel => exact ⟨k + 1, g3, c3, g4, c4, by omega, by go_num, rfl, rfl, HQ1⟩
        case measure => simp [intOf]; omega
      · have hkn' : ¬ ((k : Int) < nk) := by omega
        have hcv : (if k < nk then fk k else 0) = 0 := if_neg hkn
        have hxk := HX.out.1 k hlt
        have hyk := HX.out.2 k hlt
        have b1 := xor_36 ⟨0, by decide⟩
        have b2 := xor_5c ⟨0, by decide⟩
        simp only at b1 b2
        rw [show ((0 : Nat) : Int) = 0 from rfl] at b1 b2
        rw [hcv] at hxk hyk
        rw [← hxk] at b1
        rw [← hyk] at b2
        have HPX := Lib.hid (p8_next x k)
        have HPY := Lib.hid (p8_next y k)
        obtain ⟨e1, he1⟩ : ∃ e, x k = e := ⟨_, rfl⟩
        obtain ⟨e2, he2⟩ : ∃ e, y k = e := ⟨_, rfl⟩
        rw [he1] at b1 HPX
        rw [he2] at b2 HPY
        have hsz : w0.heap.size ≤ wr.heap.size := H.out.old.size
        clear hxk hyk hcv he1 he2
        go_wp2_with (first | (at_builtin; refine wpList_append_lies _ rfl _ _ 22 rfl w0.heap.size 5 i0 (.int .u8 0) 1 1 Tryd.underlying22 hi hz0 hz1 hz2 rfl (by decide) (.slice (some ⟨g1, 0, none⟩) k c1) k (p8 x k) rfl (World.ownsRow.alloc H.out.op _) ⟨wr.heap.size, 0, none⟩ 1 1 [.int .u8 (e1 : Nat)] rfl rfl (cell_one_new _ _ _) (by intro u hu; simp at hu; subst hu; rfl) (by omega) (by unfold maxLen; omega) (by omega) (by simp; omega) (wr.heap.size + 1) (by simp) ?_; intro g3 c3 w3 hown3 hgrow hat hlt3; (have hsz3 : w0.heap.size ≤ w3.heap.size := Nat.le_trans hsz (Nat.le_trans (by simp) hgrow.size)); (rw [HPX.out] at hown3); (have HA2 := Lib.hid (show Below w0.heap.size w0 w3 ∧ Own8 w0.heap.size x (k + 1) (.slice (some ⟨g3, 0, none⟩) (k + 1) c3) w3 ∧ Own8 w0.heap.size y k (.slice (some ⟨g2, 0, none⟩) k c2) w3 ∧ (Value.slice (some ⟨g2, 0, none⟩) k c2).ownBlock ≠ (Value.slice (some ⟨g3, 0, none⟩) (k + 1) c3).ownBlock from ⟨own_below H.out.op H.out.old hsz hgrow, hown3, (World.ownsRow.alloc H.out.oq _).kept hgrow (.inr (Ne.symm H.out.ne)), own_ne H.out.oq ⟨_, _, rfl⟩ (Ne.symm H.out.ne) (hat.imp id fun h => by omega) _⟩)); clear hgrow hat hlt3 hown3) | (at_builtin; refine wpList_append_lies _ rfl _ _ 22 rfl w0.heap.size 5 i0 (.int .u8 0) 1 1 Tryd.underlying22 hi hz0 hz1 hz2 rfl (by decide) (.slice (some ⟨g2, 0, none⟩) k c2) k (p8 y k) rfl (World.ownsRow.alloc HA2.out.2.2.1 _) ⟨w3.heap.size, 0, none⟩ 1 1 [.int .u8 (e2 : Nat)] rfl rfl (cell_one_new _ _ _) (by intro u hu; simp at hu; subst hu; rfl) (by omega) (by unfold maxLen; omega) (by omega) (by simp; omega) (w3.heap.size + 1) (by simp) ?_; intro g4 c4 w4 hown4 hgrow4 hat4 hlt4; (rw [HPY.out] at hown4); (have HQ1 := Lib.hid (show CTw w0 x y (.slice (some ⟨g3, 0, none⟩) (k + 1) c3) (.slice (some ⟨g4, 0, none⟩) (k + 1) c4) (k + 1) w4 from ⟨own_below HA2.out.2.2.1 HA2.out.1 hsz3 hgrow4, (World.ownsRow.alloc HA2.out.2.1 _).kept hgrow4 (.inr (Ne.symm HA2.out.2.2.2)), hown4, fun e => by have h1 := own_ne (w := w3) HA2.out.2.1 ⟨_, _, rfl⟩ (k := k + 1) (g := g2) (c := c2) (g3 := g4) (fun h => HA2.out.2.2.2 h.symm) (hat4.imp id fun h => by omega) c4; exact h1 e⟩)); clear hgrow4 hat4 hlt4 hown4))
        clear H
        go_roundw
        case rel => exact ⟨k + 1, g3, c3, g4, c4, by omega, by go_num, rfl, rfl, HQ1⟩
        case measure => simp [intOf]; omega
    · obtain rfl : k = 64 := by omega
      rw [show (((64 : Nat) : Int)) = (64 : Int) from rfl]
      have HB := Lib.hid H.out
      clear H
      go_wp2_with fail
      exact HQ.out _ _ _ _ _ _ _ _ _ _ _ _ _ _ _ _ _ _ _ _ _ _ _ _ _ _ _ _ HB.out
end Go.Proofs.YtkecehcnoihiiaaDoor
namespace Go.Proofs.YtkecehcnoihiiaaDoor
open Go.RowKit

/-- The operations of the region of that number. -/
def regIn (n : Nat) : Code → Option (Array Oper)
  | .region i ops _ => if i = n then some ops else none
  | .block _ c => regIn n c
  | .seq a b => match regIn n a with
    | some c => some c
    | none => regIn n b
  | .loop c => regIn n c
  | .scope c => regIn n c
  | .cond _ a b => match regIn n a with
    | some c => some c
    | none => regIn n b
  | _ => none
section
variable {P : Program} {ops : Array Oper} {Q : Exit → Act → World → Prop} {K : Act → World → Prop} {i : Nat} {o : Oper} {a : Act} {w w' : World}
theorem op_val (v : Value) (hi : ops[i]? = some o) (hw : Region.wanted o (yielded ops a.tmps) = true) (hr : (execOp a.eval o).run P w = .ok (.value v) w') (h : K (a.put o.dst v) w') : wpOp P ops Q i K a w := by
  unfold wpOp
  rw [hi]
  simp only
  rw [if_pos hw]
  refine .inl ?_
  unfold Oper.wp
  rw [hr]
  exact h
theorem op_sem (s : Sem Value) (v : Value) (hi : ops[i]? = some o) (hw : Region.wanted o (yielded ops a.tmps) = true) (ho : execOp a.eval o = (do let x ← s; pure (.value x))) (hr : s.run P w = .ok v w') (h : K (a.put o.dst v) w') : wpOp P ops Q i K a w :=
  op_val v hi hw (by rw [ho]; simp only [Sem.run_bind, hr, Result.andThen_ok, Sem.run_pure]) h
theorem op_load (T : TypeId) (x : Operand) (p v : Value) (hi : ops[i]? = some o) (ho : o.op = .load T x) (hw : Region.wanted o (yielded ops a.tmps) = true) (hp : a.eval x = p) (hr : (Instr.loadAt T p).run P w = .ok v w) (h : K (a.put o.dst v) w) : wpOp P ops Q i K a w :=
  op_val v hi hw (by
    unfold execOp
    rw [ho]
    simp only [hp, Sem.run_bind, hr, Result.andThen_ok, Sem.run_pure]) h
theorem op_skip (hi : ops[i]? = some o) (hd : o.dst = none) (hw : Region.wanted o (yielded ops a.tmps) = true) (hr : (execOp a.eval o).run P w = .ok .skip w') (h : K a w') : wpOp P ops Q i K a w := by
  unfold wpOp
  rw [hi]
  simp only
  rw [if_pos hw]
  refine .inl ?_
  unfold Oper.wp
  rw [hr, Oper.upon_skip, hd]
  exact h
theorem op_call (f : FuncId) (args : Array Value) (hi : ops[i]? = some o) (hw : Region.wanted o (yielded ops a.tmps) = true) (he : (execOp a.eval o).run P w = .ok (.enter f args) w)
    (hc : Calls P f args w fun e w' => ∃ v, e = .returned v ∧ K (a.put o.dst v) w') : wpOp P ops Q i K a w := by
  unfold wpOp
  rw [hi]
  simp only
  rw [if_pos hw]
  refine .inl ?_
  unfold Oper.wp
  rw [he]
  refine Calls.mono hc ?_
  rintro e w' ⟨v, rfl, h⟩
  exact h
theorem op_wp (hi : ops[i]? = some o) (hw : Region.wanted o (yielded ops a.tmps) = true) (h : o.wp P a w K Q) : wpOp P ops Q i K a w := by
  unfold wpOp
  rw [hi]
  simp only
  rw [if_pos hw]
  exact .inl h
end
end Go.Proofs.YtkecehcnoihiiaaDoor
namespace Go.Proofs.YtkecehcnoihiiaaDoor
open Go.RowKit

theorem own_row {w : World} {B n g c T : Nat} {f : Nat → Nat} (h : Own8 B f n (.slice (some ⟨g, 0, none⟩) n c) w) (hne : some T ≠ some g) (cs : Array Value) : Own8 B f n (.slice (some ⟨g, 0, none⟩) n c) (w.setRow T cs) := by
  obtain ⟨h1, h2⟩ := h
  refine ⟨h1, ?_⟩
  rcases h2 with h2 | ⟨g', cap, cur, e1, e2, e3, e4⟩
  · exact .inl h2
  · cases e1
    exact .inr ⟨_, _, cur, rfl, e2, (setRow_other _ _ _ _ (fun e => hne (by rw [e]))).trans e3, e4⟩
theorem own8_below {w w' : World} {B n : Nat} {f : Nat → Nat} {v : Value} (h : Own8 B f n v w) (hb : Below w.heap.size w w') : Own8 B f n v w' := own_keep h hb
theorem cat_p8 (k m : Nat) (x g : Nat → Nat) : p8 x k ++ p8 g m = p8 (catB k x g) (k + m) := by
  apply List.ext_getElem?
  intro j
  by_cases h : j < k
  · rw [List.getElem?_append_left (by rw [p8_len]; exact h), p8_at _ _ _ h, p8_at _ _ _ (by omega)]
    unfold catB
    rw [if_pos h]
  · rw [List.getElem?_append_right (by rw [p8_len]; omega), p8_len]
    by_cases h2 : j < k + m
    · rw [p8_at _ _ _ (by omega), p8_at _ _ _ h2]
      unfold catB
      rw [if_neg h]
    · rw [List.getElem?_eq_none (by rw [p8_len]; omega), List.getElem?_eq_none (by rw [p8_len]; omega)]
/-- A fresh place for 32 bytes, apart from two blocks. -/
def AlT (w0 : World) (g1 g2 T : Nat) (cs : Array Value) (wx : World) : Prop := wx.heap[T]? = some (.cells cs 25 (0, 0)) ∧ w0.heap.size ≤ T ∧ T ≠ g1 ∧ T ≠ g2
theorem AlT.below {w0 wx w' : World} {g1 g2 T : Nat} {cs : Array Value} (h : AlT w0 g1 g2 T cs wx) (hb : Below wx.heap.size wx w') : AlT w0 g1 g2 T cs w' := ⟨(hb.block _ (Array.getElem?_eq_some_iff.1 h.1).1).trans h.1, h.2⟩
theorem AlT.grown {w0 wx w' : World} {g1 g2 T : Nat} {cs : Array Value} {row : Option Nat} (h : AlT w0 g1 g2 T cs wx) (hg : wx.grownBy w' row) (hr : row = some g1 ∨ row = some g2) : AlT w0 g1 g2 T cs w' :=
  ⟨(hg.block _ (Array.getElem?_eq_some_iff.1 h.1).1 (by rcases hr with rfl | rfl <;> simp <;> (first | exact fun e => h.2.2.1 e.symm | exact fun e => h.2.2.2 e.symm | exact h.2.2.1 | exact h.2.2.2))).trans h.1, h.2⟩
/-- What the two statements read, as it lay ahead of the lists. -/
structure CHd (w0 : World) (A kg m : Nat) (v : Value) (g : Nat → Nat) : Prop where
  rA : w0.heap[A]? = some (.cells (ar .u32 8 iniH) 39 (0, 0))
  kt : kg < w0.heap.size ∧ ∀ j, j < 64 → w0.cell? ⟨kg, j, none⟩ = some (.int .u32 (kT j))
  hv : ArgB w0 v m g
  hm : m ≤ 1048576
  hg : ∀ j, g j < 256
theorem CHd.ld {w0 wx : World} {A kg m : Nat} {v : Value} {g : Nat → Nat} (c : CHd w0 A kg m v g) (hb : Below w0.heap.size w0 wx) : (Instr.loadAt 39 (.pointer (some ⟨A, 0, none⟩))).run Tryd.prog wx = .ok (.agg (ar .u32 8 iniH)) wx := ld8 ((hb.block _ (Array.getElem?_eq_some_iff.1 c.rA).1).trans c.rA)
theorem CHd.tab {w0 wx : World} {A kg m : Nat} {v : Value} {g : Nat → Nat} (c : CHd w0 A kg m v g) (hb : Below w0.heap.size w0 wx) : kg < wx.heap.size ∧ ∀ j, j < 64 → wx.cell? ⟨kg, j, none⟩ = some (.int .u32 (kT j)) :=
  ⟨Nat.lt_of_lt_of_le c.kt.1 hb.size, fun j hj => (hb.cell (p := ⟨kg, j, none⟩) c.kt.1).trans (c.kt.2 j hj)⟩
set_option maxRecDepth 100000 in
set_option maxHeartbeats 8000000 in
-- THE INNER HASH.
theorem hm_r13 {w0 wa : World} {A kg kc g1 c1 g2 c2 m cv : Nat} {av : Option Addr} {x y g : Nat → Nat} {h1 : Nat → Int} (hx : ∀ j, x j < 256) (hd : CHd w0 A kg m (.slice av m cv) g) (hc : CTw w0 x y (.slice (some ⟨g1, 0, none⟩) 64 c1) (.slice (some ⟨g2, 0, none⟩) 64 c2) 64 wa) (hh : shaH (catB 64 x g) (64 + m) = h1) {Q : Exit → Act → World → Prop}
    {s0 s2 s3 s4 s7 s10 s11 s12 s13 s14 s15 s16 s17 s18 s19 s20 s21 s22 s23 s24 s25 s26 s27 s28 s29 s30 s31 s32 s33 s34 s35 s36 s37 s38 s39 s40 s41 s42 s43 s44 s45 s46 s47 s48 s49 s50 s51 s52 s53 s54 s55 s56 s57 s58 s59 s60 : Value} (hQP : ∀ c (a : Act) d v w, Q (.panic c) (a.put d v) w → Q (.panic c) a w) (hQ : ∀ (u49 u50 u51 u52 u53 u54 : Value) (T : Nat) (wx : World), Below w0.heap.size w0 wx → Own8 w0.heap.size y 64 (.slice (some ⟨g2, 0, none⟩) 64 c2) wx → AlT w0 g1 g2 T (ar .u8 32 h1) wx → Q .normal ⟨(s0 :: .slice av m cv :: s2 :: s3 :: s4 :: .slice (some ⟨kg, 0, none⟩) 64 kc :: .pointer (some ⟨A, 0, none⟩) :: s7 :: .slice (some ⟨g1, 0, none⟩) 64 c1 :: .slice (some ⟨g2, 0, none⟩) 64 c2 :: s10 :: s11 :: .pointer (some ⟨T, 0, none⟩) :: s13 :: s14 :: s15 :: s16 :: s17 :: s18 :: s19 :: s20 :: s21 :: s22 :: s23 :: s24 :: s25 :: s26 :: s27 :: s28 :: s29 :: s30 :: s31 :: s32 :: s33 :: s34 :: s35 :: s36 :: s37 :: s38 :: s39 :: s40 :: s41 :: s42 :: s43 :: s44 :: s45 :: s46 :: s47 :: s48 :: u49 :: u50 :: u51 :: u52 :: u53 :: u54 :: s55 :: s56 :: s57 :: s58 :: s59 :: s60 :: []).toArray, []⟩ wx) : (Code.region 13 ((Tryd.f13.body.bind (regIn 13)).getD #[]) true).wp Tryd.prog Q ⟨(s0 :: .slice av m cv :: s2 :: s3 :: s4 :: .slice (some ⟨kg, 0, none⟩) 64 kc :: .pointer (some ⟨A, 0, none⟩) :: s7 :: .slice (some ⟨g1, 0, none⟩) 64 c1 :: .slice (some ⟨g2, 0, none⟩) 64 c2 :: s10 :: s11 :: s12 :: s13 :: s14 :: s15 :: s16 :: s17 :: s18 :: s19 :: s20 :: s21 :: s22 :: s23 :: s24 :: s25 :: s26 :: s27 :: s28 :: s29 :: s30 :: s31 :: s32 :: s33 :: s34 :: s35 :: s36 :: s37 :: s38 :: s39 :: s40 :: s41 :: s42 :: s43 :: s44 :: s45 :: s46 :: s47 :: s48 :: s49 :: s50 :: s51 :: s52 :: s53 :: s54 :: s55 :: s56 :: s57 :: s58 :: s59 :: s60 :: []).toArray, []⟩ wa := by
  have STaclt : ∀ (L : Array Bool) (F : Act) (wx : World) (g3 c3 : Nat) (T : Nat), L = #[true, true, true, true, true, true, true, false] → F = ⟨(s0 :: .slice av m cv :: s2 :: s3 :: s4 :: .slice (some ⟨kg, 0, none⟩) 64 kc :: .pointer (some ⟨A, 0, none⟩) :: s7 :: .slice (some ⟨g1, 0, none⟩) 64 c1 :: .slice (some ⟨g2, 0, none⟩) 64 c2 :: s10 :: s11 :: .pointer (some ⟨T, 0, none⟩) :: s13 :: s14 :: s15 :: s16 :: s17 :: s18 :: s19 :: s20 :: s21 :: s22 :: s23 :: s24 :: s25 :: s26 :: s27 :: s28 :: s29 :: s30 :: s31 :: s32 :: s33 :: s34 :: s35 :: s36 :: s37 :: s38 :: s39 :: s40 :: s41 :: s42 :: s43 :: s44 :: s45 :: s46 :: s47 :: s48 :: .slice (some ⟨g1, 0, none⟩) 64 c1 :: .slice av m cv :: .slice (some ⟨g3, 0, none⟩) (64 + m) c3 :: .slice (some ⟨kg, 0, none⟩) 64 kc :: .agg (ar .u32 8 iniH) :: .agg (ar .u8 32 h1) :: s55 :: s56 :: s57 :: s58 :: s59 :: s60 :: []).toArray, []⟩ → (Below w0.heap.size w0 wx ∧ Own8 w0.heap.size y 64 (.slice (some ⟨g2, 0, none⟩) 64 c2) wx ∧ Own8 w0.heap.size (catB 64 x g) (64 + m) (.slice (some ⟨g3, 0, none⟩) (64 + m) c3) wx ∧ g1 < wx.heap.size) ∧ AlT w0 g1 g2 T #[.int .u8 0, .int .u8 0, .int .u8 0, .int .u8 0, .int .u8 0, .int .u8 0, .int .u8 0, .int .u8 0, .int .u8 0, .int .u8 0, .int .u8 0, .int .u8 0, .int .u8 0, .int .u8 0, .int .u8 0, .int .u8 0, .int .u8 0, .int .u8 0, .int .u8 0, .int .u8 0, .int .u8 0, .int .u8 0, .int .u8 0, .int .u8 0, .int .u8 0, .int .u8 0, .int .u8 0, .int .u8 0, .int .u8 0, .int .u8 0, .int .u8 0, .int .u8 0] wx → wpAny Tryd.prog .any ((Tryd.f13.body.bind (regIn 13)).getD #[]) Q 1 L F wx := by
    intro L F wx g3 c3 T hL hF h
    subst hL hF
    refine wpAny_all (rs := [7]) (by kernel_rfl) (by decide) ?_
    intro i hi
    obtain rfl : i = 7 := by simpa using hi
    refine op_skip rfl rfl (by kernel_rfl) (run_st 25 (.tmp 12) (.tmp 54) _ _ rfl (by kernel_rfl) (by kernel_rfl) (st32 (y := h1) rfl h.2.1)) ?_
    refine wpAny_done (by kernel_rfl) ?_ _
    exact hQ _ _ _ _ _ _ T _ (below_setRow h.1.1 h.2.2.1 _) (own_row h.1.2.1 (fun e => h.2.2.2.2 (by injection e)) _) ⟨setRow_heap _ _ _ _ _ _ h.2.1, h.2.2⟩
  have STacl : ∀ (L : Array Bool) (F : Act) (wx : World) (g3 c3 : Nat), L = #[true, true, true, true, true, true, false, false] → F = ⟨(s0 :: .slice av m cv :: s2 :: s3 :: s4 :: .slice (some ⟨kg, 0, none⟩) 64 kc :: .pointer (some ⟨A, 0, none⟩) :: s7 :: .slice (some ⟨g1, 0, none⟩) 64 c1 :: .slice (some ⟨g2, 0, none⟩) 64 c2 :: s10 :: s11 :: s12 :: s13 :: s14 :: s15 :: s16 :: s17 :: s18 :: s19 :: s20 :: s21 :: s22 :: s23 :: s24 :: s25 :: s26 :: s27 :: s28 :: s29 :: s30 :: s31 :: s32 :: s33 :: s34 :: s35 :: s36 :: s37 :: s38 :: s39 :: s40 :: s41 :: s42 :: s43 :: s44 :: s45 :: s46 :: s47 :: s48 :: .slice (some ⟨g1, 0, none⟩) 64 c1 :: .slice av m cv :: .slice (some ⟨g3, 0, none⟩) (64 + m) c3 :: .slice (some ⟨kg, 0, none⟩) 64 kc :: .agg (ar .u32 8 iniH) :: .agg (ar .u8 32 h1) :: s55 :: s56 :: s57 :: s58 :: s59 :: s60 :: []).toArray, []⟩ → (Below w0.heap.size w0 wx ∧ Own8 w0.heap.size y 64 (.slice (some ⟨g2, 0, none⟩) 64 c2) wx ∧ Own8 w0.heap.size (catB 64 x g) (64 + m) (.slice (some ⟨g3, 0, none⟩) (64 + m) c3) wx ∧ g1 < wx.heap.size) ∧ True → wpAny Tryd.prog .any ((Tryd.f13.body.bind (regIn 13)).getD #[]) Q 2 L F wx := by
    intro L F wx g3 c3 hL hF h
    subst hL hF
    refine wpAny_all (rs := [6]) (by kernel_rfl) (by decide) ?_
    intro i hi
    simp only [List.mem_cons, List.not_mem_nil, or_false] at hi
    subst hi
    have hb : Below wx.heap.size wx (wx.alloc (.cells #[.int .u8 0, .int .u8 0, .int .u8 0, .int .u8 0, .int .u8 0, .int .u8 0, .int .u8 0, .int .u8 0, .int .u8 0, .int .u8 0, .int .u8 0, .int .u8 0, .int .u8 0, .int .u8 0, .int .u8 0, .int .u8 0, .int .u8 0, .int .u8 0, .int .u8 0, .int .u8 0, .int .u8 0, .int .u8 0, .int .u8 0, .int .u8 0, .int .u8 0, .int .u8 0, .int .u8 0, .int .u8 0, .int .u8 0, .int .u8 0, .int .u8 0, .int .u8 0] 25)) := (Below.refl _ _).alloc (Nat.le_refl _) _
    refine op_val (.pointer (some ⟨wx.heap.size, 0, none⟩)) rfl (by kernel_rfl) (w' := wx.alloc (.cells #[.int .u8 0, .int .u8 0, .int .u8 0, .int .u8 0, .int .u8 0, .int .u8 0, .int .u8 0, .int .u8 0, .int .u8 0, .int .u8 0, .int .u8 0, .int .u8 0, .int .u8 0, .int .u8 0, .int .u8 0, .int .u8 0, .int .u8 0, .int .u8 0, .int .u8 0, .int .u8 0, .int .u8 0, .int .u8 0, .int .u8 0, .int .u8 0, .int .u8 0, .int .u8 0, .int .u8 0, .int .u8 0, .int .u8 0, .int .u8 0, .int .u8 0, .int .u8 0] 25)) (by kernel_rfl) ?_
    have l2 := h.1.2.1.lt g2 rfl
    exact STaclt _ _ _ g3 c3 wx.heap.size (by kernel_rfl) (by kernel_rfl) ⟨⟨h.1.1.trans (hb.mono h.1.1.size), own8_below h.1.2.1 hb, own8_below h.1.2.2.1 hb, Nat.lt_of_lt_of_le h.1.2.2.2 hb.size⟩, heap_alloc_new _ _, h.1.1.size, by have := h.1.2.2.2; omega, by omega⟩
  have STalt : ∀ (L : Array Bool) (F : Act) (wx : World) (g3 c3 : Nat) (T : Nat), L = #[true, true, true, true, true, false, true, false] → F = ⟨(s0 :: .slice av m cv :: s2 :: s3 :: s4 :: .slice (some ⟨kg, 0, none⟩) 64 kc :: .pointer (some ⟨A, 0, none⟩) :: s7 :: .slice (some ⟨g1, 0, none⟩) 64 c1 :: .slice (some ⟨g2, 0, none⟩) 64 c2 :: s10 :: s11 :: .pointer (some ⟨T, 0, none⟩) :: s13 :: s14 :: s15 :: s16 :: s17 :: s18 :: s19 :: s20 :: s21 :: s22 :: s23 :: s24 :: s25 :: s26 :: s27 :: s28 :: s29 :: s30 :: s31 :: s32 :: s33 :: s34 :: s35 :: s36 :: s37 :: s38 :: s39 :: s40 :: s41 :: s42 :: s43 :: s44 :: s45 :: s46 :: s47 :: s48 :: .slice (some ⟨g1, 0, none⟩) 64 c1 :: .slice av m cv :: .slice (some ⟨g3, 0, none⟩) (64 + m) c3 :: .slice (some ⟨kg, 0, none⟩) 64 kc :: .agg (ar .u32 8 iniH) :: s54 :: s55 :: s56 :: s57 :: s58 :: s59 :: s60 :: []).toArray, []⟩ → (Below w0.heap.size w0 wx ∧ Own8 w0.heap.size y 64 (.slice (some ⟨g2, 0, none⟩) 64 c2) wx ∧ Own8 w0.heap.size (catB 64 x g) (64 + m) (.slice (some ⟨g3, 0, none⟩) (64 + m) c3) wx ∧ g1 < wx.heap.size) ∧ AlT w0 g1 g2 T #[.int .u8 0, .int .u8 0, .int .u8 0, .int .u8 0, .int .u8 0, .int .u8 0, .int .u8 0, .int .u8 0, .int .u8 0, .int .u8 0, .int .u8 0, .int .u8 0, .int .u8 0, .int .u8 0, .int .u8 0, .int .u8 0, .int .u8 0, .int .u8 0, .int .u8 0, .int .u8 0, .int .u8 0, .int .u8 0, .int .u8 0, .int .u8 0, .int .u8 0, .int .u8 0, .int .u8 0, .int .u8 0, .int .u8 0, .int .u8 0, .int .u8 0, .int .u8 0] wx → wpAny Tryd.prog .any ((Tryd.f13.body.bind (regIn 13)).getD #[]) Q 2 L F wx := by
    intro L F wx g3 c3 T hL hF h
    subst hL hF
    refine wpAny_all (rs := [5]) (by kernel_rfl) (by decide) ?_
    intro i hi
    simp only [List.mem_cons, List.not_mem_nil, or_false] at hi
    subst hi
    refine op_call 15 #[.slice (some ⟨g3, 0, none⟩) (64 + m) c3, .slice (some ⟨kg, 0, none⟩) 64 kc, .agg (ar .u32 8 iniH)] rfl (by kernel_rfl) (by kernel_rfl) ?_
    refine (hash_is (64 + m) kg kc (catB 64 x g) _ wx (by have := hd.hm; omega) (catB_lt hx hd.hg) (own_arg h.1.2.2.1) (hd.tab h.1.1)).mono ?_
    rintro e w' ⟨rfl, hb⟩
    rw [hh]
    exact ⟨_, rfl, STaclt _ _ _ g3 c3 T (by kernel_rfl) (by kernel_rfl) ⟨⟨h.1.1.trans (hb.mono h.1.1.size), own8_below h.1.2.1 hb, own8_below h.1.2.2.1 hb, Nat.lt_of_lt_of_le h.1.2.2.2 hb.size⟩, h.2.below hb⟩⟩
  have STal : ∀ (L : Array Bool) (F : Act) (wx : World) (g3 c3 : Nat), L = #[true, true, true, true, true, false, false, false] → F = ⟨(s0 :: .slice av m cv :: s2 :: s3 :: s4 :: .slice (some ⟨kg, 0, none⟩) 64 kc :: .pointer (some ⟨A, 0, none⟩) :: s7 :: .slice (some ⟨g1, 0, none⟩) 64 c1 :: .slice (some ⟨g2, 0, none⟩) 64 c2 :: s10 :: s11 :: s12 :: s13 :: s14 :: s15 :: s16 :: s17 :: s18 :: s19 :: s20 :: s21 :: s22 :: s23 :: s24 :: s25 :: s26 :: s27 :: s28 :: s29 :: s30 :: s31 :: s32 :: s33 :: s34 :: s35 :: s36 :: s37 :: s38 :: s39 :: s40 :: s41 :: s42 :: s43 :: s44 :: s45 :: s46 :: s47 :: s48 :: .slice (some ⟨g1, 0, none⟩) 64 c1 :: .slice av m cv :: .slice (some ⟨g3, 0, none⟩) (64 + m) c3 :: .slice (some ⟨kg, 0, none⟩) 64 kc :: .agg (ar .u32 8 iniH) :: s54 :: s55 :: s56 :: s57 :: s58 :: s59 :: s60 :: []).toArray, []⟩ → (Below w0.heap.size w0 wx ∧ Own8 w0.heap.size y 64 (.slice (some ⟨g2, 0, none⟩) 64 c2) wx ∧ Own8 w0.heap.size (catB 64 x g) (64 + m) (.slice (some ⟨g3, 0, none⟩) (64 + m) c3) wx ∧ g1 < wx.heap.size) ∧ True → wpAny Tryd.prog .any ((Tryd.f13.body.bind (regIn 13)).getD #[]) Q 3 L F wx := by
    intro L F wx g3 c3 hL hF h
    subst hL hF
    refine wpAny_all (rs := [5, 6]) (by kernel_rfl) (by decide) ?_
    intro i hi
    simp only [List.mem_cons, List.not_mem_nil, or_false] at hi
    rcases hi with rfl | rfl
    · refine op_call 15 #[.slice (some ⟨g3, 0, none⟩) (64 + m) c3, .slice (some ⟨kg, 0, none⟩) 64 kc, .agg (ar .u32 8 iniH)] rfl (by kernel_rfl) (by kernel_rfl) ?_
      refine (hash_is (64 + m) kg kc (catB 64 x g) _ wx (by have := hd.hm; omega) (catB_lt hx hd.hg) (own_arg h.1.2.2.1) (hd.tab h.1.1)).mono ?_
      rintro e w' ⟨rfl, hb⟩
      rw [hh]
      exact ⟨_, rfl, STacl _ _ _ g3 c3 (by kernel_rfl) (by kernel_rfl) ⟨⟨h.1.1.trans (hb.mono h.1.1.size), own8_below h.1.2.1 hb, own8_below h.1.2.2.1 hb, Nat.lt_of_lt_of_le h.1.2.2.2 hb.size⟩, trivial⟩⟩
    · have hb : Below wx.heap.size wx (wx.alloc (.cells #[.int .u8 0, .int .u8 0, .int .u8 0, .int .u8 0, .int .u8 0, .int .u8 0, .int .u8 0, .int .u8 0, .int .u8 0, .int .u8 0, .int .u8 0, .int .u8 0, .int .u8 0, .int .u8 0, .int .u8 0, .int .u8 0, .int .u8 0, .int .u8 0, .int .u8 0, .int .u8 0, .int .u8 0, .int .u8 0, .int .u8 0, .int .u8 0, .int .u8 0, .int .u8 0, .int .u8 0, .int .u8 0, .int .u8 0, .int .u8 0, .int .u8 0, .int .u8 0] 25)) := (Below.refl _ _).alloc (Nat.le_refl _) _
      refine op_val (.pointer (some ⟨wx.heap.size, 0, none⟩)) rfl (by kernel_rfl) (w' := wx.alloc (.cells #[.int .u8 0, .int .u8 0, .int .u8 0, .int .u8 0, .int .u8 0, .int .u8 0, .int .u8 0, .int .u8 0, .int .u8 0, .int .u8 0, .int .u8 0, .int .u8 0, .int .u8 0, .int .u8 0, .int .u8 0, .int .u8 0, .int .u8 0, .int .u8 0, .int .u8 0, .int .u8 0, .int .u8 0, .int .u8 0, .int .u8 0, .int .u8 0, .int .u8 0, .int .u8 0, .int .u8 0, .int .u8 0, .int .u8 0, .int .u8 0, .int .u8 0, .int .u8 0] 25)) (by kernel_rfl) ?_
      have l2 := h.1.2.1.lt g2 rfl
      exact STalt _ _ _ g3 c3 wx.heap.size (by kernel_rfl) (by kernel_rfl) ⟨⟨h.1.1.trans (hb.mono h.1.1.size), own8_below h.1.2.1 hb, own8_below h.1.2.2.1 hb, Nat.lt_of_lt_of_le h.1.2.2.2 hb.size⟩, heap_alloc_new _ _, h.1.1.size, by have := h.1.2.2.2; omega, by omega⟩
  have STat : ∀ (L : Array Bool) (F : Act) (wx : World) (g3 c3 : Nat) (T : Nat), L = #[true, true, true, true, false, false, true, false] → F = ⟨(s0 :: .slice av m cv :: s2 :: s3 :: s4 :: .slice (some ⟨kg, 0, none⟩) 64 kc :: .pointer (some ⟨A, 0, none⟩) :: s7 :: .slice (some ⟨g1, 0, none⟩) 64 c1 :: .slice (some ⟨g2, 0, none⟩) 64 c2 :: s10 :: s11 :: .pointer (some ⟨T, 0, none⟩) :: s13 :: s14 :: s15 :: s16 :: s17 :: s18 :: s19 :: s20 :: s21 :: s22 :: s23 :: s24 :: s25 :: s26 :: s27 :: s28 :: s29 :: s30 :: s31 :: s32 :: s33 :: s34 :: s35 :: s36 :: s37 :: s38 :: s39 :: s40 :: s41 :: s42 :: s43 :: s44 :: s45 :: s46 :: s47 :: s48 :: .slice (some ⟨g1, 0, none⟩) 64 c1 :: .slice av m cv :: .slice (some ⟨g3, 0, none⟩) (64 + m) c3 :: .slice (some ⟨kg, 0, none⟩) 64 kc :: s53 :: s54 :: s55 :: s56 :: s57 :: s58 :: s59 :: s60 :: []).toArray, []⟩ → (Below w0.heap.size w0 wx ∧ Own8 w0.heap.size y 64 (.slice (some ⟨g2, 0, none⟩) 64 c2) wx ∧ Own8 w0.heap.size (catB 64 x g) (64 + m) (.slice (some ⟨g3, 0, none⟩) (64 + m) c3) wx ∧ g1 < wx.heap.size) ∧ AlT w0 g1 g2 T #[.int .u8 0, .int .u8 0, .int .u8 0, .int .u8 0, .int .u8 0, .int .u8 0, .int .u8 0, .int .u8 0, .int .u8 0, .int .u8 0, .int .u8 0, .int .u8 0, .int .u8 0, .int .u8 0, .int .u8 0, .int .u8 0, .int .u8 0, .int .u8 0, .int .u8 0, .int .u8 0, .int .u8 0, .int .u8 0, .int .u8 0, .int .u8 0, .int .u8 0, .int .u8 0, .int .u8 0, .int .u8 0, .int .u8 0, .int .u8 0, .int .u8 0, .int .u8 0] wx → wpAny Tryd.prog .any ((Tryd.f13.body.bind (regIn 13)).getD #[]) Q 3 L F wx := by
    intro L F wx g3 c3 T hL hF h
    subst hL hF
    refine wpAny_all (rs := [4]) (by kernel_rfl) (by decide) ?_
    intro i hi
    simp only [List.mem_cons, List.not_mem_nil, or_false] at hi
    subst hi
    refine op_load 39 (.tmp 6) (.pointer (some ⟨A, 0, none⟩)) (.agg (ar .u32 8 iniH)) rfl rfl (by kernel_rfl) (by kernel_rfl) (hd.ld h.1.1) ?_
    exact STalt _ _ _ g3 c3 T (by kernel_rfl) (by kernel_rfl) h
  have STlt : ∀ (L : Array Bool) (F : Act) (wx : World) (T : Nat), L = #[true, true, false, true, true, false, true, false] → F = ⟨(s0 :: .slice av m cv :: s2 :: s3 :: s4 :: .slice (some ⟨kg, 0, none⟩) 64 kc :: .pointer (some ⟨A, 0, none⟩) :: s7 :: .slice (some ⟨g1, 0, none⟩) 64 c1 :: .slice (some ⟨g2, 0, none⟩) 64 c2 :: s10 :: s11 :: .pointer (some ⟨T, 0, none⟩) :: s13 :: s14 :: s15 :: s16 :: s17 :: s18 :: s19 :: s20 :: s21 :: s22 :: s23 :: s24 :: s25 :: s26 :: s27 :: s28 :: s29 :: s30 :: s31 :: s32 :: s33 :: s34 :: s35 :: s36 :: s37 :: s38 :: s39 :: s40 :: s41 :: s42 :: s43 :: s44 :: s45 :: s46 :: s47 :: s48 :: .slice (some ⟨g1, 0, none⟩) 64 c1 :: .slice av m cv :: s51 :: .slice (some ⟨kg, 0, none⟩) 64 kc :: .agg (ar .u32 8 iniH) :: s54 :: s55 :: s56 :: s57 :: s58 :: s59 :: s60 :: []).toArray, []⟩ → CTw w0 x y (.slice (some ⟨g1, 0, none⟩) 64 c1) (.slice (some ⟨g2, 0, none⟩) 64 c2) 64 wx ∧ AlT w0 g1 g2 T #[.int .u8 0, .int .u8 0, .int .u8 0, .int .u8 0, .int .u8 0, .int .u8 0, .int .u8 0, .int .u8 0, .int .u8 0, .int .u8 0, .int .u8 0, .int .u8 0, .int .u8 0, .int .u8 0, .int .u8 0, .int .u8 0, .int .u8 0, .int .u8 0, .int .u8 0, .int .u8 0, .int .u8 0, .int .u8 0, .int .u8 0, .int .u8 0, .int .u8 0, .int .u8 0, .int .u8 0, .int .u8 0, .int .u8 0, .int .u8 0, .int .u8 0, .int .u8 0] wx → wpAny Tryd.prog .any ((Tryd.f13.body.bind (regIn 13)).getD #[]) Q 3 L F wx := by
    intro L F wx T hL hF h
    subst hL hF
    refine wpAny_all (rs := [2]) (by kernel_rfl) (by decide) ?_
    intro i hi
    simp only [List.mem_cons, List.not_mem_nil, or_false] at hi
    subst hi
    obtain ⟨v', w', hr, hown, hs, hg⟩ := copy_own (k := 64) (g := x) h.1.op ⟨_, _, rfl⟩ (hd.hv.below h.1.old) (by have := hd.hm; omega) h.1.old.size 22
    obtain ⟨g3, c3, rfl⟩ := hs
    rw [cat_p8] at hown
    refine op_val (.slice (some ⟨g3, 0, none⟩) (64 + m) c3) rfl (by kernel_rfl) (run_app (.tmp 49) (.tmp 50) (.slice (some ⟨g1, 0, none⟩) 64 c1) (.slice av m cv) _ rfl rfl (by kernel_rfl) (by kernel_rfl) hr) ?_
    exact STalt _ _ _ g3 c3 T (by kernel_rfl) (by kernel_rfl) ⟨⟨h.1.old.grown hg h.1.old.size (fun j hj => (h.1.op.lt j hj).1), h.1.oq.kept hg (.inr (Ne.symm h.1.ne)), hown, Nat.lt_of_lt_of_le (h.1.op.lt g1 rfl).2 hg.size⟩, h.2.grown hg (.inl rfl)⟩
  have STa : ∀ (L : Array Bool) (F : Act) (wx : World) (g3 c3 : Nat), L = #[true, true, true, true, false, false, false, false] → F = ⟨(s0 :: .slice av m cv :: s2 :: s3 :: s4 :: .slice (some ⟨kg, 0, none⟩) 64 kc :: .pointer (some ⟨A, 0, none⟩) :: s7 :: .slice (some ⟨g1, 0, none⟩) 64 c1 :: .slice (some ⟨g2, 0, none⟩) 64 c2 :: s10 :: s11 :: s12 :: s13 :: s14 :: s15 :: s16 :: s17 :: s18 :: s19 :: s20 :: s21 :: s22 :: s23 :: s24 :: s25 :: s26 :: s27 :: s28 :: s29 :: s30 :: s31 :: s32 :: s33 :: s34 :: s35 :: s36 :: s37 :: s38 :: s39 :: s40 :: s41 :: s42 :: s43 :: s44 :: s45 :: s46 :: s47 :: s48 :: .slice (some ⟨g1, 0, none⟩) 64 c1 :: .slice av m cv :: .slice (some ⟨g3, 0, none⟩) (64 + m) c3 :: .slice (some ⟨kg, 0, none⟩) 64 kc :: s53 :: s54 :: s55 :: s56 :: s57 :: s58 :: s59 :: s60 :: []).toArray, []⟩ → (Below w0.heap.size w0 wx ∧ Own8 w0.heap.size y 64 (.slice (some ⟨g2, 0, none⟩) 64 c2) wx ∧ Own8 w0.heap.size (catB 64 x g) (64 + m) (.slice (some ⟨g3, 0, none⟩) (64 + m) c3) wx ∧ g1 < wx.heap.size) ∧ True → wpAny Tryd.prog .any ((Tryd.f13.body.bind (regIn 13)).getD #[]) Q 4 L F wx := by
    intro L F wx g3 c3 hL hF h
    subst hL hF
    refine wpAny_all (rs := [4, 6]) (by kernel_rfl) (by decide) ?_
    intro i hi
    simp only [List.mem_cons, List.not_mem_nil, or_false] at hi
    rcases hi with rfl | rfl
    · refine op_load 39 (.tmp 6) (.pointer (some ⟨A, 0, none⟩)) (.agg (ar .u32 8 iniH)) rfl rfl (by kernel_rfl) (by kernel_rfl) (hd.ld h.1.1) ?_
      exact STal _ _ _ g3 c3 (by kernel_rfl) (by kernel_rfl) h
    · have hb : Below wx.heap.size wx (wx.alloc (.cells #[.int .u8 0, .int .u8 0, .int .u8 0, .int .u8 0, .int .u8 0, .int .u8 0, .int .u8 0, .int .u8 0, .int .u8 0, .int .u8 0, .int .u8 0, .int .u8 0, .int .u8 0, .int .u8 0, .int .u8 0, .int .u8 0, .int .u8 0, .int .u8 0, .int .u8 0, .int .u8 0, .int .u8 0, .int .u8 0, .int .u8 0, .int .u8 0, .int .u8 0, .int .u8 0, .int .u8 0, .int .u8 0, .int .u8 0, .int .u8 0, .int .u8 0, .int .u8 0] 25)) := (Below.refl _ _).alloc (Nat.le_refl _) _
      refine op_val (.pointer (some ⟨wx.heap.size, 0, none⟩)) rfl (by kernel_rfl) (w' := wx.alloc (.cells #[.int .u8 0, .int .u8 0, .int .u8 0, .int .u8 0, .int .u8 0, .int .u8 0, .int .u8 0, .int .u8 0, .int .u8 0, .int .u8 0, .int .u8 0, .int .u8 0, .int .u8 0, .int .u8 0, .int .u8 0, .int .u8 0, .int .u8 0, .int .u8 0, .int .u8 0, .int .u8 0, .int .u8 0, .int .u8 0, .int .u8 0, .int .u8 0, .int .u8 0, .int .u8 0, .int .u8 0, .int .u8 0, .int .u8 0, .int .u8 0, .int .u8 0, .int .u8 0] 25)) (by kernel_rfl) ?_
      have l2 := h.1.2.1.lt g2 rfl
      exact STat _ _ _ g3 c3 wx.heap.size (by kernel_rfl) (by kernel_rfl) ⟨⟨h.1.1.trans (hb.mono h.1.1.size), own8_below h.1.2.1 hb, own8_below h.1.2.2.1 hb, Nat.lt_of_lt_of_le h.1.2.2.2 hb.size⟩, heap_alloc_new _ _, h.1.1.size, by have := h.1.2.2.2; omega, by omega⟩
  have STl : ∀ (L : Array Bool) (F : Act) (wx : World), L = #[true, true, false, true, true, false, false, false] → F = ⟨(s0 :: .slice av m cv :: s2 :: s3 :: s4 :: .slice (some ⟨kg, 0, none⟩) 64 kc :: .pointer (some ⟨A, 0, none⟩) :: s7 :: .slice (some ⟨g1, 0, none⟩) 64 c1 :: .slice (some ⟨g2, 0, none⟩) 64 c2 :: s10 :: s11 :: s12 :: s13 :: s14 :: s15 :: s16 :: s17 :: s18 :: s19 :: s20 :: s21 :: s22 :: s23 :: s24 :: s25 :: s26 :: s27 :: s28 :: s29 :: s30 :: s31 :: s32 :: s33 :: s34 :: s35 :: s36 :: s37 :: s38 :: s39 :: s40 :: s41 :: s42 :: s43 :: s44 :: s45 :: s46 :: s47 :: s48 :: .slice (some ⟨g1, 0, none⟩) 64 c1 :: .slice av m cv :: s51 :: .slice (some ⟨kg, 0, none⟩) 64 kc :: .agg (ar .u32 8 iniH) :: s54 :: s55 :: s56 :: s57 :: s58 :: s59 :: s60 :: []).toArray, []⟩ → CTw w0 x y (.slice (some ⟨g1, 0, none⟩) 64 c1) (.slice (some ⟨g2, 0, none⟩) 64 c2) 64 wx ∧ True → wpAny Tryd.prog .any ((Tryd.f13.body.bind (regIn 13)).getD #[]) Q 4 L F wx := by
    intro L F wx hL hF h
    subst hL hF
    refine wpAny_all (rs := [2, 6]) (by kernel_rfl) (by decide) ?_
    intro i hi
    simp only [List.mem_cons, List.not_mem_nil, or_false] at hi
    rcases hi with rfl | rfl
    · obtain ⟨v', w', hr, hown, hs, hg⟩ := copy_own (k := 64) (g := x) h.1.op ⟨_, _, rfl⟩ (hd.hv.below h.1.old) (by have := hd.hm; omega) h.1.old.size 22
      obtain ⟨g3, c3, rfl⟩ := hs
      rw [cat_p8] at hown
      refine op_val (.slice (some ⟨g3, 0, none⟩) (64 + m) c3) rfl (by kernel_rfl) (run_app (.tmp 49) (.tmp 50) (.slice (some ⟨g1, 0, none⟩) 64 c1) (.slice av m cv) _ rfl rfl (by kernel_rfl) (by kernel_rfl) hr) ?_
      exact STal _ _ _ g3 c3 (by kernel_rfl) (by kernel_rfl) ⟨⟨h.1.old.grown hg h.1.old.size (fun j hj => (h.1.op.lt j hj).1), h.1.oq.kept hg (.inr (Ne.symm h.1.ne)), hown, Nat.lt_of_lt_of_le (h.1.op.lt g1 rfl).2 hg.size⟩, trivial⟩
    · have hb : Below wx.heap.size wx (wx.alloc (.cells #[.int .u8 0, .int .u8 0, .int .u8 0, .int .u8 0, .int .u8 0, .int .u8 0, .int .u8 0, .int .u8 0, .int .u8 0, .int .u8 0, .int .u8 0, .int .u8 0, .int .u8 0, .int .u8 0, .int .u8 0, .int .u8 0, .int .u8 0, .int .u8 0, .int .u8 0, .int .u8 0, .int .u8 0, .int .u8 0, .int .u8 0, .int .u8 0, .int .u8 0, .int .u8 0, .int .u8 0, .int .u8 0, .int .u8 0, .int .u8 0, .int .u8 0, .int .u8 0] 25)) := (Below.refl _ _).alloc (Nat.le_refl _) _
      refine op_val (.pointer (some ⟨wx.heap.size, 0, none⟩)) rfl (by kernel_rfl) (w' := wx.alloc (.cells #[.int .u8 0, .int .u8 0, .int .u8 0, .int .u8 0, .int .u8 0, .int .u8 0, .int .u8 0, .int .u8 0, .int .u8 0, .int .u8 0, .int .u8 0, .int .u8 0, .int .u8 0, .int .u8 0, .int .u8 0, .int .u8 0, .int .u8 0, .int .u8 0, .int .u8 0, .int .u8 0, .int .u8 0, .int .u8 0, .int .u8 0, .int .u8 0, .int .u8 0, .int .u8 0, .int .u8 0, .int .u8 0, .int .u8 0, .int .u8 0, .int .u8 0, .int .u8 0] 25)) (by kernel_rfl) ?_
      have l1 := h.1.op.lt g1 rfl
      have l2 := h.1.oq.lt g2 rfl
      exact STlt _ _ _ wx.heap.size (by kernel_rfl) (by kernel_rfl) ⟨⟨h.1.old.trans (hb.mono h.1.old.size), own8_below h.1.op hb, own8_below h.1.oq hb, h.1.ne⟩, heap_alloc_new _ _, h.1.old.size, by omega, by omega⟩
  have STt : ∀ (L : Array Bool) (F : Act) (wx : World) (T : Nat), L = #[true, true, false, true, false, false, true, false] → F = ⟨(s0 :: .slice av m cv :: s2 :: s3 :: s4 :: .slice (some ⟨kg, 0, none⟩) 64 kc :: .pointer (some ⟨A, 0, none⟩) :: s7 :: .slice (some ⟨g1, 0, none⟩) 64 c1 :: .slice (some ⟨g2, 0, none⟩) 64 c2 :: s10 :: s11 :: .pointer (some ⟨T, 0, none⟩) :: s13 :: s14 :: s15 :: s16 :: s17 :: s18 :: s19 :: s20 :: s21 :: s22 :: s23 :: s24 :: s25 :: s26 :: s27 :: s28 :: s29 :: s30 :: s31 :: s32 :: s33 :: s34 :: s35 :: s36 :: s37 :: s38 :: s39 :: s40 :: s41 :: s42 :: s43 :: s44 :: s45 :: s46 :: s47 :: s48 :: .slice (some ⟨g1, 0, none⟩) 64 c1 :: .slice av m cv :: s51 :: .slice (some ⟨kg, 0, none⟩) 64 kc :: s53 :: s54 :: s55 :: s56 :: s57 :: s58 :: s59 :: s60 :: []).toArray, []⟩ → CTw w0 x y (.slice (some ⟨g1, 0, none⟩) 64 c1) (.slice (some ⟨g2, 0, none⟩) 64 c2) 64 wx ∧ AlT w0 g1 g2 T #[.int .u8 0, .int .u8 0, .int .u8 0, .int .u8 0, .int .u8 0, .int .u8 0, .int .u8 0, .int .u8 0, .int .u8 0, .int .u8 0, .int .u8 0, .int .u8 0, .int .u8 0, .int .u8 0, .int .u8 0, .int .u8 0, .int .u8 0, .int .u8 0, .int .u8 0, .int .u8 0, .int .u8 0, .int .u8 0, .int .u8 0, .int .u8 0, .int .u8 0, .int .u8 0, .int .u8 0, .int .u8 0, .int .u8 0, .int .u8 0, .int .u8 0, .int .u8 0] wx → wpAny Tryd.prog .any ((Tryd.f13.body.bind (regIn 13)).getD #[]) Q 4 L F wx := by
    intro L F wx T hL hF h
    subst hL hF
    refine wpAny_all (rs := [2, 4]) (by kernel_rfl) (by decide) ?_
    intro i hi
    simp only [List.mem_cons, List.not_mem_nil, or_false] at hi
    rcases hi with rfl | rfl
    · obtain ⟨v', w', hr, hown, hs, hg⟩ := copy_own (k := 64) (g := x) h.1.op ⟨_, _, rfl⟩ (hd.hv.below h.1.old) (by have := hd.hm; omega) h.1.old.size 22
      obtain ⟨g3, c3, rfl⟩ := hs
      rw [cat_p8] at hown
      refine op_val (.slice (some ⟨g3, 0, none⟩) (64 + m) c3) rfl (by kernel_rfl) (run_app (.tmp 49) (.tmp 50) (.slice (some ⟨g1, 0, none⟩) 64 c1) (.slice av m cv) _ rfl rfl (by kernel_rfl) (by kernel_rfl) hr) ?_
      exact STat _ _ _ g3 c3 T (by kernel_rfl) (by kernel_rfl) ⟨⟨h.1.old.grown hg h.1.old.size (fun j hj => (h.1.op.lt j hj).1), h.1.oq.kept hg (.inr (Ne.symm h.1.ne)), hown, Nat.lt_of_lt_of_le (h.1.op.lt g1 rfl).2 hg.size⟩, h.2.grown hg (.inl rfl)⟩
    · refine op_load 39 (.tmp 6) (.pointer (some ⟨A, 0, none⟩)) (.agg (ar .u32 8 iniH)) rfl rfl (by kernel_rfl) (by kernel_rfl) (hd.ld h.1.old) ?_
      exact STlt _ _ _ T (by kernel_rfl) (by kernel_rfl) h
  have ST : ∀ (L : Array Bool) (F : Act) (wx : World), L = #[true, true, false, true, false, false, false, false] → F = ⟨(s0 :: .slice av m cv :: s2 :: s3 :: s4 :: .slice (some ⟨kg, 0, none⟩) 64 kc :: .pointer (some ⟨A, 0, none⟩) :: s7 :: .slice (some ⟨g1, 0, none⟩) 64 c1 :: .slice (some ⟨g2, 0, none⟩) 64 c2 :: s10 :: s11 :: s12 :: s13 :: s14 :: s15 :: s16 :: s17 :: s18 :: s19 :: s20 :: s21 :: s22 :: s23 :: s24 :: s25 :: s26 :: s27 :: s28 :: s29 :: s30 :: s31 :: s32 :: s33 :: s34 :: s35 :: s36 :: s37 :: s38 :: s39 :: s40 :: s41 :: s42 :: s43 :: s44 :: s45 :: s46 :: s47 :: s48 :: .slice (some ⟨g1, 0, none⟩) 64 c1 :: .slice av m cv :: s51 :: .slice (some ⟨kg, 0, none⟩) 64 kc :: s53 :: s54 :: s55 :: s56 :: s57 :: s58 :: s59 :: s60 :: []).toArray, []⟩ → CTw w0 x y (.slice (some ⟨g1, 0, none⟩) 64 c1) (.slice (some ⟨g2, 0, none⟩) 64 c2) 64 wx ∧ True → wpAny Tryd.prog .any ((Tryd.f13.body.bind (regIn 13)).getD #[]) Q 5 L F wx := by
    intro L F wx hL hF h
    subst hL hF
    refine wpAny_all (rs := [2, 4, 6]) (by kernel_rfl) (by decide) ?_
    intro i hi
    simp only [List.mem_cons, List.not_mem_nil, or_false] at hi
    rcases hi with rfl | rfl | rfl
    · obtain ⟨v', w', hr, hown, hs, hg⟩ := copy_own (k := 64) (g := x) h.1.op ⟨_, _, rfl⟩ (hd.hv.below h.1.old) (by have := hd.hm; omega) h.1.old.size 22
      obtain ⟨g3, c3, rfl⟩ := hs
      rw [cat_p8] at hown
      refine op_val (.slice (some ⟨g3, 0, none⟩) (64 + m) c3) rfl (by kernel_rfl) (run_app (.tmp 49) (.tmp 50) (.slice (some ⟨g1, 0, none⟩) 64 c1) (.slice av m cv) _ rfl rfl (by kernel_rfl) (by kernel_rfl) hr) ?_
      exact STa _ _ _ g3 c3 (by kernel_rfl) (by kernel_rfl) ⟨⟨h.1.old.grown hg h.1.old.size (fun j hj => (h.1.op.lt j hj).1), h.1.oq.kept hg (.inr (Ne.symm h.1.ne)), hown, Nat.lt_of_lt_of_le (h.1.op.lt g1 rfl).2 hg.size⟩, trivial⟩
    · refine op_load 39 (.tmp 6) (.pointer (some ⟨A, 0, none⟩)) (.agg (ar .u32 8 iniH)) rfl rfl (by kernel_rfl) (by kernel_rfl) (hd.ld h.1.old) ?_
      exact STl _ _ _ (by kernel_rfl) (by kernel_rfl) h
    · have hb : Below wx.heap.size wx (wx.alloc (.cells #[.int .u8 0, .int .u8 0, .int .u8 0, .int .u8 0, .int .u8 0, .int .u8 0, .int .u8 0, .int .u8 0, .int .u8 0, .int .u8 0, .int .u8 0, .int .u8 0, .int .u8 0, .int .u8 0, .int .u8 0, .int .u8 0, .int .u8 0, .int .u8 0, .int .u8 0, .int .u8 0, .int .u8 0, .int .u8 0, .int .u8 0, .int .u8 0, .int .u8 0, .int .u8 0, .int .u8 0, .int .u8 0, .int .u8 0, .int .u8 0, .int .u8 0, .int .u8 0] 25)) := (Below.refl _ _).alloc (Nat.le_refl _) _
      refine op_val (.pointer (some ⟨wx.heap.size, 0, none⟩)) rfl (by kernel_rfl) (w' := wx.alloc (.cells #[.int .u8 0, .int .u8 0, .int .u8 0, .int .u8 0, .int .u8 0, .int .u8 0, .int .u8 0, .int .u8 0, .int .u8 0, .int .u8 0, .int .u8 0, .int .u8 0, .int .u8 0, .int .u8 0, .int .u8 0, .int .u8 0, .int .u8 0, .int .u8 0, .int .u8 0, .int .u8 0, .int .u8 0, .int .u8 0, .int .u8 0, .int .u8 0, .int .u8 0, .int .u8 0, .int .u8 0, .int .u8 0, .int .u8 0, .int .u8 0, .int .u8 0, .int .u8 0] 25)) (by kernel_rfl) ?_
      have l1 := h.1.op.lt g1 rfl
      have l2 := h.1.oq.lt g2 rfl
      exact STt _ _ _ wx.heap.size (by kernel_rfl) (by kernel_rfl) ⟨⟨h.1.old.trans (hb.mono h.1.old.size), own8_below h.1.op hb, own8_below h.1.oq hb, h.1.ne⟩, heap_alloc_new _ _, h.1.old.size, by omega, by omega⟩
  refine wp_region_any (by kernel_rfl) ?_
  refine wpAny_take (i := 0) (v := (.slice (some ⟨g1, 0, none⟩) 64 c1)) rfl (by kernel_rfl) (by kernel_rfl) (by kernel_rfl) (fun c a w h => hQP c a _ _ w h) (Or.inl ⟨by kernel_rfl, fun _ => by kernel_rfl⟩) ?_
  refine wpAny_take (i := 1) (v := (.slice av m cv)) rfl (by kernel_rfl) (by kernel_rfl) (by kernel_rfl) (fun c a w h => hQP c a _ _ w h) (Or.inl ⟨by kernel_rfl, fun _ => by kernel_rfl⟩) ?_
  refine wpAny_take (i := 3) (v := (.slice (some ⟨kg, 0, none⟩) 64 kc)) rfl (by kernel_rfl) (by kernel_rfl) (by kernel_rfl) (fun c a w h => hQP c a _ _ w h) (Or.inl ⟨by kernel_rfl, fun _ => by kernel_rfl⟩) ?_
  exact ST _ _ _ (by kernel_rfl) (by kernel_rfl) ⟨⟨hc.old.drew, hc.op.drew, hc.oq.drew, hc.ne⟩, trivial⟩
set_option maxRecDepth 100000 in
set_option maxHeartbeats 8000000 in
-- THE OUTER HASH.
theorem hm_r14 {w0 wa : World} {A kg kc g1 g2 c2 m R T : Nat} {v : Value} {y g q : Nat → Nat} {h1 h2 : Nat → Int} {cs : Array Value} (hy : ∀ j, y j < 256) (hq : ∀ j, q j < 256) (hq1 : (fun j => ((q j : Nat) : Int)) = h1) (hd : CHd w0 A kg m v g) (hR : w0.heap[R]? = some (.cells cs 25 (0, 0))) (hcs : cs.size = 32) (hb0 : Below w0.heap.size w0 wa) (ho : Own8 w0.heap.size y 64 (.slice (some ⟨g2, 0, none⟩) 64 c2) wa) (hT : AlT w0 g1 g2 T (ar .u8 32 h1) wa) (hh : shaH (catB 64 y q) (64 + 32) = h2) {Q : Exit → Act → World → Prop}
    {s0 s1 s2 s3 s7 s8 s10 s11 s13 s14 s15 s16 s17 s18 s19 s20 s21 s22 s23 s24 s25 s26 s27 s28 s29 s30 s31 s32 s33 s34 s35 s36 s37 s38 s39 s40 s41 s42 s43 s44 s45 s46 s47 s48 s49 s50 s51 s52 s53 s54 s55 s56 s57 s58 s59 s60 : Value} (hQP : ∀ c (a : Act) d v w, Q (.panic c) (a.put d v) w → Q (.panic c) a w) (hQ : ∀ (u55 u56 u57 u58 u59 u60 : Value) (wx : World), Below w0.heap.size w0 wx → Q .normal ⟨(s0 :: s1 :: s2 :: s3 :: .pointer (some ⟨R, 0, none⟩) :: .slice (some ⟨kg, 0, none⟩) 64 kc :: .pointer (some ⟨A, 0, none⟩) :: s7 :: s8 :: .slice (some ⟨g2, 0, none⟩) 64 c2 :: s10 :: s11 :: .pointer (some ⟨T, 0, none⟩) :: s13 :: s14 :: s15 :: s16 :: s17 :: s18 :: s19 :: s20 :: s21 :: s22 :: s23 :: s24 :: s25 :: s26 :: s27 :: s28 :: s29 :: s30 :: s31 :: s32 :: s33 :: s34 :: s35 :: s36 :: s37 :: s38 :: s39 :: s40 :: s41 :: s42 :: s43 :: s44 :: s45 :: s46 :: s47 :: s48 :: s49 :: s50 :: s51 :: s52 :: s53 :: s54 :: u55 :: u56 :: u57 :: u58 :: u59 :: u60 :: []).toArray, []⟩ (wx.setRow R (ar .u8 32 h2))) : (Code.region 14 ((Tryd.f13.body.bind (regIn 14)).getD #[]) true).wp Tryd.prog Q ⟨(s0 :: s1 :: s2 :: s3 :: .pointer (some ⟨R, 0, none⟩) :: .slice (some ⟨kg, 0, none⟩) 64 kc :: .pointer (some ⟨A, 0, none⟩) :: s7 :: s8 :: .slice (some ⟨g2, 0, none⟩) 64 c2 :: s10 :: s11 :: .pointer (some ⟨T, 0, none⟩) :: s13 :: s14 :: s15 :: s16 :: s17 :: s18 :: s19 :: s20 :: s21 :: s22 :: s23 :: s24 :: s25 :: s26 :: s27 :: s28 :: s29 :: s30 :: s31 :: s32 :: s33 :: s34 :: s35 :: s36 :: s37 :: s38 :: s39 :: s40 :: s41 :: s42 :: s43 :: s44 :: s45 :: s46 :: s47 :: s48 :: s49 :: s50 :: s51 :: s52 :: s53 :: s54 :: s55 :: s56 :: s57 :: s58 :: s59 :: s60 :: []).toArray, []⟩ wa := by
  have SUacl : ∀ (L : Array Bool) (F : Act) (wx : World) (g4 c4 : Nat), L = #[true, true, true, true, true, true, false] → F = ⟨(s0 :: s1 :: s2 :: s3 :: .pointer (some ⟨R, 0, none⟩) :: .slice (some ⟨kg, 0, none⟩) 64 kc :: .pointer (some ⟨A, 0, none⟩) :: s7 :: s8 :: .slice (some ⟨g2, 0, none⟩) 64 c2 :: s10 :: s11 :: .pointer (some ⟨T, 0, none⟩) :: s13 :: s14 :: s15 :: s16 :: s17 :: s18 :: s19 :: s20 :: s21 :: s22 :: s23 :: s24 :: s25 :: s26 :: s27 :: s28 :: s29 :: s30 :: s31 :: s32 :: s33 :: s34 :: s35 :: s36 :: s37 :: s38 :: s39 :: s40 :: s41 :: s42 :: s43 :: s44 :: s45 :: s46 :: s47 :: s48 :: s49 :: s50 :: s51 :: s52 :: s53 :: s54 :: .slice (some ⟨g2, 0, none⟩) 64 c2 :: .slice (some ⟨T, 0, none⟩) 32 32 :: .slice (some ⟨g4, 0, none⟩) (64 + 32) c4 :: .slice (some ⟨kg, 0, none⟩) 64 kc :: .agg (ar .u32 8 iniH) :: .agg (ar .u8 32 h2) :: []).toArray, []⟩ → (Below w0.heap.size w0 wx ∧ Own8 w0.heap.size (catB 64 y q) (64 + 32) (.slice (some ⟨g4, 0, none⟩) (64 + 32) c4) wx) → wpAny Tryd.prog .any ((Tryd.f13.body.bind (regIn 14)).getD #[]) Q 1 L F wx := by
    intro L F wx g4 c4 hL hF h
    subst hL hF
    refine wpAny_all (rs := [6]) (by kernel_rfl) (by decide) ?_
    intro i hi
    obtain rfl : i = 6 := by simpa using hi
    refine op_skip rfl rfl (by kernel_rfl) (run_st 25 (.tmp 4) (.tmp 60) _ _ rfl (by kernel_rfl) (by kernel_rfl) (st32 (y := h2) hcs ((h.1.block _ (Array.getElem?_eq_some_iff.1 hR).1).trans hR))) ?_
    exact wpAny_done (by kernel_rfl) (hQ _ _ _ _ _ _ wx h.1) _
  have SUal : ∀ (L : Array Bool) (F : Act) (wx : World) (g4 c4 : Nat), L = #[true, true, true, true, true, false, false] → F = ⟨(s0 :: s1 :: s2 :: s3 :: .pointer (some ⟨R, 0, none⟩) :: .slice (some ⟨kg, 0, none⟩) 64 kc :: .pointer (some ⟨A, 0, none⟩) :: s7 :: s8 :: .slice (some ⟨g2, 0, none⟩) 64 c2 :: s10 :: s11 :: .pointer (some ⟨T, 0, none⟩) :: s13 :: s14 :: s15 :: s16 :: s17 :: s18 :: s19 :: s20 :: s21 :: s22 :: s23 :: s24 :: s25 :: s26 :: s27 :: s28 :: s29 :: s30 :: s31 :: s32 :: s33 :: s34 :: s35 :: s36 :: s37 :: s38 :: s39 :: s40 :: s41 :: s42 :: s43 :: s44 :: s45 :: s46 :: s47 :: s48 :: s49 :: s50 :: s51 :: s52 :: s53 :: s54 :: .slice (some ⟨g2, 0, none⟩) 64 c2 :: .slice (some ⟨T, 0, none⟩) 32 32 :: .slice (some ⟨g4, 0, none⟩) (64 + 32) c4 :: .slice (some ⟨kg, 0, none⟩) 64 kc :: .agg (ar .u32 8 iniH) :: s60 :: []).toArray, []⟩ → (Below w0.heap.size w0 wx ∧ Own8 w0.heap.size (catB 64 y q) (64 + 32) (.slice (some ⟨g4, 0, none⟩) (64 + 32) c4) wx) → wpAny Tryd.prog .any ((Tryd.f13.body.bind (regIn 14)).getD #[]) Q 2 L F wx := by
    intro L F wx g4 c4 hL hF h
    subst hL hF
    refine wpAny_all (rs := [5]) (by kernel_rfl) (by decide) ?_
    intro i hi
    simp only [List.mem_cons, List.not_mem_nil, or_false] at hi
    subst hi
    refine op_call 15 #[.slice (some ⟨g4, 0, none⟩) (64 + 32) c4, .slice (some ⟨kg, 0, none⟩) 64 kc, .agg (ar .u32 8 iniH)] rfl (by kernel_rfl) (by kernel_rfl) ?_
    refine (hash_is (64 + 32) kg kc (catB 64 y q) _ wx (by decide) (catB_lt hy hq) (own_arg h.2) (hd.tab h.1)).mono ?_
    rintro e w' ⟨rfl, hb⟩
    rw [hh]
    exact ⟨_, rfl, SUacl _ _ _ g4 c4 (by kernel_rfl) (by kernel_rfl) ⟨h.1.trans (hb.mono h.1.size), own8_below h.2 hb⟩⟩
  have SUa : ∀ (L : Array Bool) (F : Act) (wx : World) (g4 c4 : Nat), L = #[true, true, true, true, false, false, false] → F = ⟨(s0 :: s1 :: s2 :: s3 :: .pointer (some ⟨R, 0, none⟩) :: .slice (some ⟨kg, 0, none⟩) 64 kc :: .pointer (some ⟨A, 0, none⟩) :: s7 :: s8 :: .slice (some ⟨g2, 0, none⟩) 64 c2 :: s10 :: s11 :: .pointer (some ⟨T, 0, none⟩) :: s13 :: s14 :: s15 :: s16 :: s17 :: s18 :: s19 :: s20 :: s21 :: s22 :: s23 :: s24 :: s25 :: s26 :: s27 :: s28 :: s29 :: s30 :: s31 :: s32 :: s33 :: s34 :: s35 :: s36 :: s37 :: s38 :: s39 :: s40 :: s41 :: s42 :: s43 :: s44 :: s45 :: s46 :: s47 :: s48 :: s49 :: s50 :: s51 :: s52 :: s53 :: s54 :: .slice (some ⟨g2, 0, none⟩) 64 c2 :: .slice (some ⟨T, 0, none⟩) 32 32 :: .slice (some ⟨g4, 0, none⟩) (64 + 32) c4 :: .slice (some ⟨kg, 0, none⟩) 64 kc :: s59 :: s60 :: []).toArray, []⟩ → (Below w0.heap.size w0 wx ∧ Own8 w0.heap.size (catB 64 y q) (64 + 32) (.slice (some ⟨g4, 0, none⟩) (64 + 32) c4) wx) → wpAny Tryd.prog .any ((Tryd.f13.body.bind (regIn 14)).getD #[]) Q 3 L F wx := by
    intro L F wx g4 c4 hL hF h
    subst hL hF
    refine wpAny_all (rs := [4]) (by kernel_rfl) (by decide) ?_
    intro i hi
    simp only [List.mem_cons, List.not_mem_nil, or_false] at hi
    subst hi
    refine op_load 39 (.tmp 6) (.pointer (some ⟨A, 0, none⟩)) (.agg (ar .u32 8 iniH)) rfl rfl (by kernel_rfl) (by kernel_rfl) (hd.ld h.1) ?_
    exact SUal _ _ _ g4 c4 (by kernel_rfl) (by kernel_rfl) h
  have SUl : ∀ (L : Array Bool) (F : Act) (wx : World), L = #[true, true, false, true, true, false, false] → F = ⟨(s0 :: s1 :: s2 :: s3 :: .pointer (some ⟨R, 0, none⟩) :: .slice (some ⟨kg, 0, none⟩) 64 kc :: .pointer (some ⟨A, 0, none⟩) :: s7 :: s8 :: .slice (some ⟨g2, 0, none⟩) 64 c2 :: s10 :: s11 :: .pointer (some ⟨T, 0, none⟩) :: s13 :: s14 :: s15 :: s16 :: s17 :: s18 :: s19 :: s20 :: s21 :: s22 :: s23 :: s24 :: s25 :: s26 :: s27 :: s28 :: s29 :: s30 :: s31 :: s32 :: s33 :: s34 :: s35 :: s36 :: s37 :: s38 :: s39 :: s40 :: s41 :: s42 :: s43 :: s44 :: s45 :: s46 :: s47 :: s48 :: s49 :: s50 :: s51 :: s52 :: s53 :: s54 :: .slice (some ⟨g2, 0, none⟩) 64 c2 :: .slice (some ⟨T, 0, none⟩) 32 32 :: s57 :: .slice (some ⟨kg, 0, none⟩) 64 kc :: .agg (ar .u32 8 iniH) :: s60 :: []).toArray, []⟩ → (Below w0.heap.size w0 wx ∧ Own8 w0.heap.size y 64 (.slice (some ⟨g2, 0, none⟩) 64 c2) wx ∧ AlT w0 g1 g2 T (ar .u8 32 h1) wx) → wpAny Tryd.prog .any ((Tryd.f13.body.bind (regIn 14)).getD #[]) Q 3 L F wx := by
    intro L F wx hL hF h
    subst hL hF
    refine wpAny_all (rs := [2]) (by kernel_rfl) (by decide) ?_
    intro i hi
    simp only [List.mem_cons, List.not_mem_nil, or_false] at hi
    subst hi
    have hTa : ArgB wx (.slice (some ⟨T, 0, none⟩) 32 32) 32 q := ⟨_, 32, rfl, Nat.le_refl _, nofun, .inr ⟨T, 0, rfl, (Array.getElem?_eq_some_iff.1 h.2.2.1).1, fun j hj => by
        rw [Nat.zero_add]
        refine ((cell_of_row wx _ j _ _ _ h.2.2.1).trans (ar_at _ _ _ _ hj)).trans ?_
        rw [← hq1]⟩⟩
    obtain ⟨v', w', hr, hown, hs, hg⟩ := copy_own (k := 64) (g := y) h.2.1 ⟨_, _, rfl⟩ hTa (by omega) h.1.size 22
    obtain ⟨g4, c4, rfl⟩ := hs
    rw [cat_p8] at hown
    refine op_val (.slice (some ⟨g4, 0, none⟩) (64 + 32) c4) rfl (by kernel_rfl) (run_app (.tmp 55) (.tmp 56) (.slice (some ⟨g2, 0, none⟩) 64 c2) (.slice (some ⟨T, 0, none⟩) 32 32) _ rfl rfl (by kernel_rfl) (by kernel_rfl) hr) ?_
    exact SUal _ _ _ g4 c4 (by kernel_rfl) (by kernel_rfl) ⟨h.1.grown hg h.1.size (fun j hj => (h.2.1.lt j hj).1), hown⟩
  have SU : ∀ (L : Array Bool) (F : Act) (wx : World), L = #[true, true, false, true, false, false, false] → F = ⟨(s0 :: s1 :: s2 :: s3 :: .pointer (some ⟨R, 0, none⟩) :: .slice (some ⟨kg, 0, none⟩) 64 kc :: .pointer (some ⟨A, 0, none⟩) :: s7 :: s8 :: .slice (some ⟨g2, 0, none⟩) 64 c2 :: s10 :: s11 :: .pointer (some ⟨T, 0, none⟩) :: s13 :: s14 :: s15 :: s16 :: s17 :: s18 :: s19 :: s20 :: s21 :: s22 :: s23 :: s24 :: s25 :: s26 :: s27 :: s28 :: s29 :: s30 :: s31 :: s32 :: s33 :: s34 :: s35 :: s36 :: s37 :: s38 :: s39 :: s40 :: s41 :: s42 :: s43 :: s44 :: s45 :: s46 :: s47 :: s48 :: s49 :: s50 :: s51 :: s52 :: s53 :: s54 :: .slice (some ⟨g2, 0, none⟩) 64 c2 :: .slice (some ⟨T, 0, none⟩) 32 32 :: s57 :: .slice (some ⟨kg, 0, none⟩) 64 kc :: s59 :: s60 :: []).toArray, []⟩ → (Below w0.heap.size w0 wx ∧ Own8 w0.heap.size y 64 (.slice (some ⟨g2, 0, none⟩) 64 c2) wx ∧ AlT w0 g1 g2 T (ar .u8 32 h1) wx) → wpAny Tryd.prog .any ((Tryd.f13.body.bind (regIn 14)).getD #[]) Q 4 L F wx := by
    intro L F wx hL hF h
    subst hL hF
    refine wpAny_all (rs := [2, 4]) (by kernel_rfl) (by decide) ?_
    intro i hi
    simp only [List.mem_cons, List.not_mem_nil, or_false] at hi
    rcases hi with rfl | rfl
    · have hTa : ArgB wx (.slice (some ⟨T, 0, none⟩) 32 32) 32 q := ⟨_, 32, rfl, Nat.le_refl _, nofun, .inr ⟨T, 0, rfl, (Array.getElem?_eq_some_iff.1 h.2.2.1).1, fun j hj => by
        rw [Nat.zero_add]
        refine ((cell_of_row wx _ j _ _ _ h.2.2.1).trans (ar_at _ _ _ _ hj)).trans ?_
        rw [← hq1]⟩⟩
      obtain ⟨v', w', hr, hown, hs, hg⟩ := copy_own (k := 64) (g := y) h.2.1 ⟨_, _, rfl⟩ hTa (by omega) h.1.size 22
      obtain ⟨g4, c4, rfl⟩ := hs
      rw [cat_p8] at hown
      refine op_val (.slice (some ⟨g4, 0, none⟩) (64 + 32) c4) rfl (by kernel_rfl) (run_app (.tmp 55) (.tmp 56) (.slice (some ⟨g2, 0, none⟩) 64 c2) (.slice (some ⟨T, 0, none⟩) 32 32) _ rfl rfl (by kernel_rfl) (by kernel_rfl) hr) ?_
      exact SUa _ _ _ g4 c4 (by kernel_rfl) (by kernel_rfl) ⟨h.1.grown hg h.1.size (fun j hj => (h.2.1.lt j hj).1), hown⟩
    · refine op_load 39 (.tmp 6) (.pointer (some ⟨A, 0, none⟩)) (.agg (ar .u32 8 iniH)) rfl rfl (by kernel_rfl) (by kernel_rfl) (hd.ld h.1) ?_
      exact SUl _ _ _ (by kernel_rfl) (by kernel_rfl) h
  refine wp_region_any (by kernel_rfl) ?_
  refine wpAny_take (i := 0) (v := (.slice (some ⟨g2, 0, none⟩) 64 c2)) rfl (by kernel_rfl) (by kernel_rfl) (by kernel_rfl) (fun c a w h => hQP c a _ _ w h) (Or.inl ⟨by kernel_rfl, fun _ => by kernel_rfl⟩) ?_
  refine wpAny_take (i := 1) (v := (.slice (some ⟨T, 0, none⟩) 32 32)) rfl (by kernel_rfl) (by kernel_rfl) (by kernel_rfl) (fun c a w h => hQP c a _ _ w h) (Or.inl ⟨by kernel_rfl, fun _ => by kernel_rfl⟩) ?_
  refine wpAny_take (i := 3) (v := (.slice (some ⟨kg, 0, none⟩) 64 kc)) rfl (by kernel_rfl) (by kernel_rfl) (by kernel_rfl) (fun c a w h => hQP c a _ _ w h) (Or.inl ⟨by kernel_rfl, fun _ => by kernel_rfl⟩) ?_
  exact SU _ _ _ (by kernel_rfl) (by kernel_rfl) ⟨hb0.drew, ho.drew, hT.1, hT.2⟩
end Go.Proofs.YtkecehcnoihiiaaDoor
