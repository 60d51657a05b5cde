/- What bailiwickref01.Divide comes to: the walk. -/
import Derived.Test.YtgegkffigjogcaaRDivNum
namespace Go.Proofs.Ytgegkffigjogcaa
open Go.RowKit

theorem own_one (w : World) (x : Nat) : (w.alloc (.cells #[.int .u64 (x : Nat)] 59)).ownsRow w.heap.size 59 1 (.slice (some ⟨w.heap.size, 0, none⟩) 1 1) 1 [.int .u64 (x : Nat)] :=
  ⟨by simp, .inr ⟨w.heap.size, 1, #[.int .u64 (x : Nat)], rfl, Nat.le_refl _, heap_alloc_new _ _, Nat.le_refl _, by unfold maxLen; omega, by simp, by simp⟩⟩
theorem own_dg {w : World} {base k : Nat} {v : Value} {d : Nat → Nat} (h : w.ownsRow base 59 1 v k (dl d k)) (hk : 0 < k) : ∃ g cap, v = .slice (some ⟨g, 0, none⟩) k cap ∧ base ≤ g ∧ k ≤ cap ∧ Dg w g k d := by
  obtain ⟨-, h1⟩ := h
  rcases h1 with ⟨-, h0⟩ | ⟨g, cap, cur, rfl, hg, hc, hnc, hm, hcs, ht⟩
  · omega
  · refine ⟨g, cap, rfl, hg, hnc, (Array.getElem?_eq_some_iff.1 hc).1, fun j hj => ?_⟩
    rw [cell_of_row _ _ _ _ _ _ hc, ← dl_at d k j hj, ← ht]
    simp only [Nat.mul_one, List.getElem?_take, hj, if_true]
    simp
theorem slice_head (g len cap h : Nat) (hh : (h : Int) + 1 ≤ cap) (w : World) : (Instr.slice 56 (.slice (some ⟨g, 0, none⟩) len cap) none (some (.int .i64 ((h : Int) + 1))) none).run Try.prog w = .ok (.slice (some ⟨g, 0, none⟩) (h + 1) cap) w := by
  have hsz : (sizeOf (Try.prog.elem 56)).run Try.prog w = .ok 1 w := by kernel_rfl
  rw [run_slice_h w 56 (some ⟨g, 0, none⟩) len cap (by kernel_rfl) .i64 _ (by omega) hh, hsz]
  simp only [Result.andThen, sliced]
  rw [show ((h : Int) + 1).toNat = h + 1 by omega]
  simp [Addr.add]
theorem div_open {w wr w1 : World} {n m i D Q g nr g' nr' : Nat} {da q dr : Nat → Nat} (h : DivR w n m (i + 1) 0 da q D Q g nr dr wr) (hb : Below wr.heap.size wr w1) (hg : wr.heap.size ≤ g') (hr : Dg w1 g' nr' (below1 (da i) dr)) (hda : da i < 65536) (hD : D ≤ 65536 ^ m)
    (hn : nr' = 1 + nr ∨ nr' = m + 1 ∧ nr' ≤ 1 + nr) (hl : nr' ≤ m + 1) : DivR w n m i 16 da q D Q g' nr' (below1 (da i) dr) w1 := by
  have hlt := h.out.1
  have hless := h.less
  rw [Nat.pow_zero, Nat.one_mul] at hless
  have hv : vd (below1 (da i) dr) (1 + nr) = da i + 65536 * vd dr nr := by rw [Nat.add_comm 1 nr]; exact vd_below1 _ _ _
  have hlim : da i + 65536 * vd dr nr < 65536 * D := by omega
  have hv2 : vd (below1 (da i) dr) nr' = da i + 65536 * vd dr nr := by
    rcases hn with rfl | ⟨rfl, hle⟩
    · exact hv
    · rw [← hv]
      refine (vd_full (m + 1) (1 + nr) (vd_small ?_) hle).symm
      rw [hv, Nat.pow_succ, Nat.mul_comm (65536 ^ m)]
      exact Nat.lt_of_lt_of_le hlim (Nat.mul_le_mul_left _ hD)
  have hle2 : nr' ≤ nr + 1 := by rcases hn with rfl | ⟨-, h⟩ <;> omega
  refine ⟨h.old.trans (hb.mono h.old.size), hr, by have := h.old.size; have := h.hQ; omega, h.hQ, fun j hj => below1_lt hda h.restl j (by omega), hl, h.out.below hb, h.outl, fun j hj => h.todo j (by omega), by rw [h.todo i (by omega)], ?_, ?_⟩
  · have hs := h.sum
    rw [hv2, ← hs]
    simp only [vd]
    rw [Nat.mul_add, Nat.pow_succ, Nat.mul_assoc, Nat.add_assoc (vd da i)]
  · rw [hv2]; exact hlim
theorem dg_one (w : World) (x : Nat) : Dg (w.alloc (.cells #[.int .u64 (x : Nat)] 59)) w.heap.size 1 (fun _ => x) :=
  ⟨by simp, fun j hj => by obtain rfl : j = 0 := (by omega); exact (cell_of_row _ _ 0 _ _ _ (heap_alloc_new _ _)).trans rfl⟩

theorem news_dl {w : World} {g nr : Nat} {dr : Nat → Nat} (h : Dg w g nr dr) : ∀ j u, (dl dr nr)[j]? = some u → w.cell? ((⟨g, 0, none⟩ : Addr).add j) = some u := fun j u hj => by
  have hj2 : j < nr := by
    have := (List.getElem?_eq_some_iff.1 hj).1
    rwa [dl_len] at this
  rw [dl_at _ _ _ hj2] at hj
  cases hj
  have h := h.2 j hj2
  cases j with
  | zero => simpa [Addr.add] using h
  | succ j => simpa [Addr.add] using h
theorem one_dl (dr : Nat → Nat) (nr : Nat) : ∀ u ∈ dl dr nr, u.oneCell' = true := fun u hu => by
  unfold dl at hu
  rw [List.mem_map] at hu
  obtain ⟨j, -, rfl⟩ := hu
  rfl

/-- What Divide leaves. -/
def DivPostR (n m : Nat) (A D : Nat) (w : World) (e : Ending) (w' : World) : Prop :=
  ∃ (Q g nr cap : Nat) (q dr : Nat → Nat), e = .returned (.tuple #[.slice (some ⟨Q, 0, none⟩) n n, .slice (some ⟨g, 0, none⟩) nr cap]) ∧ Dg w' Q n q ∧ Dg w' g nr dr ∧ nr ≤ m + 1 ∧ (∀ j, j < n → q j < 65536) ∧ (∀ j, j < nr → dr j < 65536) ∧ vd q n = A / D ∧ vd dr nr = A % D ∧ Below w.heap.size w w'
theorem div_done {w wr : World} {n m D Q g nr : Nat} {da q dr : Nat → Nat} (h : DivR w n m 0 0 da q D Q g nr dr wr) : vd q n = vd da n / D ∧ vd dr nr = vd da n % D := by
  have h1 := h.sum
  have h2 := h.less
  simp only [vd, Nat.pow_zero, Nat.one_mul, Nat.zero_add] at h1 h2
  constructor
  · rw [← h1, Nat.add_comm, Nat.mul_comm, Nat.add_mul_div_left _ _ (by omega), Nat.div_eq_of_lt h2, Nat.zero_add]
  · rw [← h1, Nat.add_comm, Nat.mul_comm, Nat.add_mul_mod_self_left, Nat.mod_eq_of_lt h2]

set_option maxRecDepth 100000 in
set_option maxHeartbeats 4000000 in
theorem divide_ref (ba ca bb cb n m : Nat) (da db : Nat → Nat) (hn : (n : Int) ≤ 1000) (hm : (m : Int) ≤ 1000) (ha : ∀ j, j < n → da j < 65536) (hb : ∀ j, j < m → db j < 65536) (hD : 0 < vd db m) (w : World) (hA : Dg w ba n da) (hB : Dg w bb m db) :
    Calls Try.prog 70 #[.slice (some ⟨ba, 0, none⟩) n ca, .slice (some ⟨bb, 0, none⟩) m cb] w (DivPostR n m (vd da n) (vd db m) w) := by
  have Ha := Lib.hid ha; clear ha
  have hDm := Nat.le_of_lt (vd_lt hb)
  have Hb := Lib.hid hb; clear hb
  have HA := Lib.hid hA; clear hA
  have HB := Lib.hid hB; clear hB
  have HD := Lib.hid hD; clear hD
  have HDM := Lib.hid hDm; clear hDm
  have hn0 : (0 : Int) ≤ n := by omega
  have hm0 : (0 : Int) ≤ m := by omega
  obtain ⟨i0, hi, hz0, hz1, hz2⟩ := info_parts info22
  go_enter Try.func70, Try.ntmps70
  go_wp2_with (at_make; refine wpList_make_full _ rfl _ _ 56 rfl w.heap.size 59 i0 (.int .u64 0) 1 Try.underlying56 hi hz0 hz1 .i64 .i64 _ _ n rfl rfl rfl rfl (by rw [hz2]; omega) (by unfold maxLen; omega) (Nat.le_refl _) ?_; intro w0 hown0 hgrow0)
  have hout : OutAt w0 w.heap.size n (fun _ => 0) := ⟨(hown0.lt _ rfl).2, fun j hj => ⟨(hown0.cellAt j (by omega)).trans (madeCells_at n j hj), hown0.frozenAt j⟩⟩
  have hbel : Below w.heap.size w w0 := (Below.refl _ _).grown hgrow0 (Nat.le_refl _) (fun k hk => by cases hk)
  have hlt0 := hout.1
  have HW := Lib.hid (And.intro hout hbel)
  clear hout hbel hown0 hgrow0
  go_wp2_with fail
  go_loopw [7, 8] (fun rv iv wr => ∃ (z : Int) (c g nr cap : Nat) (q dr : Nat → Nat), c ≤ n ∧ z = (c : Int) - 1 ∧ iv = .int .i64 z ∧ rv = .slice (some ⟨g, 0, none⟩) nr cap ∧ Hid (DivR w n m c 0 da q (vd db m) w.heap.size g nr dr wr)) (fun _ iv _ => (intOf iv + 1).toNat)
  case atStart =>
    refine ⟨(n : Int) - 1, n, w0.heap.size, 0, 0, fun _ => 0, fun _ => 0, Nat.le_refl _, rfl, rfl, rfl, Lib.hid ⟨HW.out.2.trans (by go_grown), ⟨by simp, fun j hj => by omega⟩, hlt0, rfl, fun j hj => by omega, by omega, HW.out.1.below (by go_grown), fun j _ => by show 0 < 65536; omega, fun _ _ => rfl, rfl, ?_, ?_⟩⟩
    · have : ∀ L, vd (fun _ => 0) L = 0 := fun L => by induction L with
        | zero => rfl
        | succ L ih => simp [vd, ih]
      rw [this]; simp [vd]
    · show 0 < _; rw [Nat.pow_zero, Nat.one_mul]; exact HD.out
  case round =>
    obtain ⟨z, c, g, nr, cap, q, dr, hc, hz, rfl, rfl, H⟩ := hrel
    cases c with
    | zero =>
      have hz1 : z < 0 := by omega
      have hzf : decide (0 ≤ z) = false := by rw [decide_eq_false_iff_not]; omega
      have hd := div_done H.out
      have HF := Lib.hid hd; clear hd
      have HZ := Lib.hid hz; clear hz
      go_wp2
      go_ret2
      exact ⟨_, _, _, _, q, dr, rfl, ⟨H.out.out.1, fun j hj => (H.out.out.2 j hj).1⟩, H.out.rest, H.out.long, H.out.outl, H.out.restl, HF.out.1, HF.out.2, H.out.old⟩
    | succ i =>
      obtain rfl : z = (i : Int) := by omega
      have hi0 : (0 : Int) ≤ i := by omega
      have hin : (i : Int) < n := by omega
      have hnr : (nr : Int) ≤ m + 1 := by have := H.out.long; omega
      have hnr0 : (0 : Int) ≤ nr := by omega
      have ea : wr.cell? ⟨ba, i, none⟩ = some (.int .u64 (da i : Nat)) := (H.out.old.cell (p := ⟨ba, i, none⟩) HA.out.1).trans (HA.out.2 i (by omega))
      have HEN := Lib.hid (own_one wr (da i))
      clear hz
      go_wp2_with (at_builtin; refine wpList_append_own _ rfl (.tmp 26) (.tmp 27) 56 rfl wr.heap.size 59 i0 (.int .u64 0) 1 8 Try.underlying56 hi hz0 hz1 hz2 rfl (by decide) _ _ _ rfl HEN.out ⟨g, 0, none⟩ nr cap (dl dr nr) rfl (by rw [dl_len, Nat.mul_one]) ?d1 ?d2 ?d3 ?d4 ?d5 ?_)
      try (case d1 => exact news_dl (H.out.rest.below ((Below.refl wr.heap.size wr).alloc (Nat.le_refl _) (.cells #[.int .u64 (da i : Nat)] 59))))
      try (case d2 => exact one_dl _ _)
      try (case d3 => unfold maxLen; omega)
      try (case d4 => omega)
      try (case d5 => first | omega | (simp; done) | (simp; omega))
      intro v' w1 hown' hgrow _
      rw [dl_below1] at hown'
      obtain ⟨g', cap', rfl, hg', hcap', hdg'⟩ := own_dg hown' (by omega)
      have hbw : Below wr.heap.size wr w1 := ((Below.refl _ _).alloc (Nat.le_refl _) _).grown hgrow (by simp) (fun j hj => by cases hj; exact Nat.le_refl _)
      have HN := Lib.hid (And.intro hbw (And.intro hg' hdg'))
      clear hown' hgrow hg' hdg' hbw HEN ea
      have hda : da i < 65536 := Ha.out i (by omega)
      by_cases ht : m + 1 < 1 + nr
      · have ht1 : (m : Int) + 1 < 1 + (nr : Int) := by omega
        have ht2 : decide ((m : Int) + 1 < 1 + (nr : Int)) = true := by rw [decide_eq_true_iff]; exact ht1
        have hsl := slice_head g' (1 + nr) cap' m (by omega)
        have HI := Lib.hid (div_open H.out HN.out.1 HN.out.2.1 ⟨HN.out.2.2.1, fun j hj => HN.out.2.2.2 j (by omega)⟩ hda HDM.out (.inr ⟨rfl, by omega⟩) (Nat.le_refl (m + 1)))
        clear ht hda
        go_wp2_with fail
        go_loopw [7, 9] (fun rv kv wx => ∃ (z : Int) (c g nr cap : Nat) (q dr : Nat → Nat), c ≤ 16 ∧ z = (c : Int) - 1 ∧ kv = .int .i64 z ∧ rv = .slice (some ⟨g, 0, none⟩) nr cap ∧ 0 < nr ∧ Hid (DivR w n m i c da q (vd db m) w.heap.size g nr dr wx)) (fun _ kv _ => (intOf kv + 1).toNat)
        case atStart => exact ⟨15, 16, g', (m + 1), cap', q, below1 (da i) dr, by omega, rfl, rfl, rfl, by omega, HI⟩
        case round =>
          obtain ⟨z, c2, g2, nr2, cap2, q2, dr2, hc2, hz2, rfl, rfl, hnr2, H2⟩ := hrel
          cases c2 with
          | zero =>
            have hz1 : z < 0 := by omega
            have hzf : decide (0 ≤ z) = false := by rw [decide_eq_false_iff_not]; omega
            have HZ := Lib.hid hz2; clear hz2
            go_wp2_with fail
            go_roundw
            case rel => exact ⟨(i : Int) - 1, i, g2, nr2, cap2, q2, dr2, by omega, rfl, rfl, rfl, H2⟩
            case measure => first | (simp [intOf]; done) | (simp [intOf]; omega)
          | succ k =>
            obtain rfl : z = (k : Int) := by omega
            have hk0 : (0 : Int) ≤ k := by omega
            have hk1 : (k : Int) ≤ 15 := by omega
            clear hz2
            obtain ⟨p, hp⟩ : ∃ p : Nat, 2 ^ k = p := ⟨_, rfl⟩
            have hpl : p < 65536 := by rw [← hp, show (65536 : Nat) = 2 ^ 16 by rfl]; exact Nat.pow_lt_pow_right (by omega) (by omega)
            have hpw : IntKind.u64.wrap ((2 : Int) ^ k) = (p : Int) := by
              have e0 : ((2 ^ k : Nat) : Int) = (2 : Int) ^ k := by simp
              rw [← e0, hp, IntKind.wrap_u64]; omega
            have hqi := H2.out.out.2 i (by omega)
            have hor : bits .or .u64 ((q2 i : Nat) : Int) (p : Int) = ((q2 i + p : Nat) : Int) := by
              have h := bits_or_up H2.out.bits (H2.out.outl i (by omega)) (by omega)
              have e0 : ((2 ^ k : Nat) : Int) = (2 : Int) ^ k := by simp
              rw [← e0, hp] at h; exact h
            have HOR := Lib.hid hor; clear hor
            have HQI := Lib.hid hqi; clear hqi
            have HPL := Lib.hid hpl; clear hpl
            have HP := Lib.hid hp; clear hp
            have hlw : w.heap.size < wr.heap.size := H2.out.out.1
            go_wp2_with fail
            refine (product_digits bb cb wr.heap.size 1 m 1 db (fun _ => p) (by omega) (by omega) Hb.out (fun _ _ => HPL.out) _ (HB.out.below (H2.out.old.trans ((Below.refl _ _).alloc (by omega) _))) (dg_one wr p)).mono ?_
            rintro e w2 ⟨bt, capt, dt, rfl, hbt, hDt, hdtl, hdtv, hbp⟩
            have hvt : vd dt (m + 1) = 2 ^ k * vd db m := by rw [hdtv, HP.out]; simp [vd, Nat.mul_comm]
            have hb1 : Below wr.heap.size wr w2 := ((Below.refl _ _).alloc (Nat.le_refl _) _).trans (hbp.mono (by simp))
            have HT := Lib.hid (And.intro hDt (And.intro hdtl (And.intro hvt hb1)))
            clear hbt hDt hdtl hdtv hbp hvt hb1
            have HR2 := Lib.hid (H2.out.rest.below HT.out.2.2.2)
            have hnl : (nr2 : Int) ≤ m + 1 := by have := H2.out.long; omega
            by_cases hle : 2 ^ k * vd db m ≤ vd dr2 nr2
            · have hbo : decide (vd dr2 nr2 < vd dt (m + 1)) = false := by rw [decide_eq_false_iff_not, HT.out.2.2.1]; omega
              have HLE := Lib.hid hle; clear hle
              go_wp2_with fail
              refine (less_any g2 cap2 bt capt nr2 (m + 1) dr2 dt (by omega) (by omega) H2.out.restl HT.out.2.1 w2 HR2.out HT.out.1).mono ?_
              rintro e w3 ⟨rfl, rfl⟩
              rw [hbo]
              go_wp2_with fail
              refine (minus_any g2 cap2 bt capt nr2 (m + 1) dr2 dt hnr2 (by omega) (by omega) H2.out.restl HT.out.2.1 (by rw [HT.out.2.2.1]; exact HLE.out) w2 HR2.out HT.out.1).mono ?_
              rintro e w4 ⟨b4, cap4, d4, rfl, hb4, hD4, hd4l, hd4v, hbm⟩
              have hb2 : Below wr.heap.size wr w4 := HT.out.2.2.2.trans (hbm.mono HT.out.2.2.2.size)
              have hcq : w4.cell? ⟨w.heap.size, i, none⟩ = some (.int .u64 (q2 i : Nat)) := (hb2.cell (p := ⟨w.heap.size, i, none⟩) hlw).trans HQI.out.1
              have hfq : w4.frozen? ⟨w.heap.size, i, none⟩ = false := (hb2.frozen (p := ⟨w.heap.size, i, none⟩) hlw).trans HQI.out.2
              have hone := H2.out.one (w' := w4) (g' := b4) (dr' := d4) (by omega) (by omega) hb2 HLE.out hD4 (Nat.le_trans HT.out.2.2.2.size hb4) hd4l (by rw [hd4v, HT.out.2.2.1])
              rw [HP.out] at hone
              have HONE := Lib.hid hone; clear hone hb4 hD4 hd4l hd4v hbm hb2
              go_wp2_with fail
              rw [HOR.out]
              go_roundw
              case rel => exact ⟨(k : Int) - 1, k, b4, nr2, cap4, _, d4, by omega, rfl, rfl, rfl, hnr2, HONE⟩
              case measure => first | (simp [intOf]; done) | (simp [intOf]; omega)
            · have hbo : decide (vd dr2 nr2 < vd dt (m + 1)) = true := by rw [decide_eq_true_iff, HT.out.2.2.1]; omega
              have HZ := Lib.hid (H2.out.zero HT.out.2.2.2 hle)
              clear hle
              go_wp2_with fail
              refine (less_any g2 cap2 bt capt nr2 (m + 1) dr2 dt (by omega) (by omega) H2.out.restl HT.out.2.1 w2 HR2.out HT.out.1).mono ?_
              rintro e w3 ⟨rfl, rfl⟩
              rw [hbo]
              go_wp2_with fail
              go_roundw
              case rel => exact ⟨(k : Int) - 1, k, g2, nr2, cap2, q2, dr2, by omega, rfl, rfl, rfl, hnr2, HZ⟩
              case measure => first | (simp [intOf]; done) | (simp [intOf]; omega)
      · have ht1 : ¬ (m : Int) + 1 < 1 + (nr : Int) := by omega
        have ht2 : decide ((m : Int) + 1 < 1 + (nr : Int)) = false := by rw [decide_eq_false_iff_not]; exact ht1
        have HI := Lib.hid (div_open H.out HN.out.1 HN.out.2.1 HN.out.2.2 hda HDM.out (.inl rfl) (by omega))
        clear ht hda
        go_wp2_with fail
        go_loopw [7, 9] (fun rv kv wx => ∃ (z : Int) (c g nr cap : Nat) (q dr : Nat → Nat), c ≤ 16 ∧ z = (c : Int) - 1 ∧ kv = .int .i64 z ∧ rv = .slice (some ⟨g, 0, none⟩) nr cap ∧ 0 < nr ∧ Hid (DivR w n m i c da q (vd db m) w.heap.size g nr dr wx)) (fun _ kv _ => (intOf kv + 1).toNat)
        case atStart => exact ⟨15, 16, g', (1 + nr), cap', q, below1 (da i) dr, by omega, rfl, rfl, rfl, by omega, HI⟩
        case round =>
          obtain ⟨z, c2, g2, nr2, cap2, q2, dr2, hc2, hz2, rfl, rfl, hnr2, H2⟩ := hrel
          cases c2 with
          | zero =>
            have hz1 : z < 0 := by omega
            have hzf : decide (0 ≤ z) = false := by rw [decide_eq_false_iff_not]; omega
            have HZ := Lib.hid hz2; clear hz2
            go_wp2_with fail
            go_roundw
            case rel => exact ⟨(i : Int) - 1, i, g2, nr2, cap2, q2, dr2, by omega, rfl, rfl, rfl, H2⟩
            case measure => first | (simp [intOf]; done) | (simp [intOf]; omega)
          | succ k =>
            obtain rfl : z = (k : Int) := by omega
            have hk0 : (0 : Int) ≤ k := by omega
            have hk1 : (k : Int) ≤ 15 := by omega
            clear hz2
            obtain ⟨p, hp⟩ : ∃ p : Nat, 2 ^ k = p := ⟨_, rfl⟩
            have hpl : p < 65536 := by rw [← hp, show (65536 : Nat) = 2 ^ 16 by rfl]; exact Nat.pow_lt_pow_right (by omega) (by omega)
            have hpw : IntKind.u64.wrap ((2 : Int) ^ k) = (p : Int) := by
              have e0 : ((2 ^ k : Nat) : Int) = (2 : Int) ^ k := by simp
              rw [← e0, hp, IntKind.wrap_u64]; omega
            have hqi := H2.out.out.2 i (by omega)
            have hor : bits .or .u64 ((q2 i : Nat) : Int) (p : Int) = ((q2 i + p : Nat) : Int) := by
              have h := bits_or_up H2.out.bits (H2.out.outl i (by omega)) (by omega)
              have e0 : ((2 ^ k : Nat) : Int) = (2 : Int) ^ k := by simp
              rw [← e0, hp] at h; exact h
            have HOR := Lib.hid hor; clear hor
            have HQI := Lib.hid hqi; clear hqi
            have HPL := Lib.hid hpl; clear hpl
            have HP := Lib.hid hp; clear hp
            have hlw : w.heap.size < wr.heap.size := H2.out.out.1
            go_wp2_with fail
            refine (product_digits bb cb wr.heap.size 1 m 1 db (fun _ => p) (by omega) (by omega) Hb.out (fun _ _ => HPL.out) _ (HB.out.below (H2.out.old.trans ((Below.refl _ _).alloc (by omega) _))) (dg_one wr p)).mono ?_
            rintro e w2 ⟨bt, capt, dt, rfl, hbt, hDt, hdtl, hdtv, hbp⟩
            have hvt : vd dt (m + 1) = 2 ^ k * vd db m := by rw [hdtv, HP.out]; simp [vd, Nat.mul_comm]
            have hb1 : Below wr.heap.size wr w2 := ((Below.refl _ _).alloc (Nat.le_refl _) _).trans (hbp.mono (by simp))
            have HT := Lib.hid (And.intro hDt (And.intro hdtl (And.intro hvt hb1)))
            clear hbt hDt hdtl hdtv hbp hvt hb1
            have HR2 := Lib.hid (H2.out.rest.below HT.out.2.2.2)
            have hnl : (nr2 : Int) ≤ m + 1 := by have := H2.out.long; omega
            by_cases hle : 2 ^ k * vd db m ≤ vd dr2 nr2
            · have hbo : decide (vd dr2 nr2 < vd dt (m + 1)) = false := by rw [decide_eq_false_iff_not, HT.out.2.2.1]; omega
              have HLE := Lib.hid hle; clear hle
              go_wp2_with fail
              refine (less_any g2 cap2 bt capt nr2 (m + 1) dr2 dt (by omega) (by omega) H2.out.restl HT.out.2.1 w2 HR2.out HT.out.1).mono ?_
              rintro e w3 ⟨rfl, rfl⟩
              rw [hbo]
              go_wp2_with fail
              refine (minus_any g2 cap2 bt capt nr2 (m + 1) dr2 dt hnr2 (by omega) (by omega) H2.out.restl HT.out.2.1 (by rw [HT.out.2.2.1]; exact HLE.out) w2 HR2.out HT.out.1).mono ?_
              rintro e w4 ⟨b4, cap4, d4, rfl, hb4, hD4, hd4l, hd4v, hbm⟩
              have hb2 : Below wr.heap.size wr w4 := HT.out.2.2.2.trans (hbm.mono HT.out.2.2.2.size)
              have hcq : w4.cell? ⟨w.heap.size, i, none⟩ = some (.int .u64 (q2 i : Nat)) := (hb2.cell (p := ⟨w.heap.size, i, none⟩) hlw).trans HQI.out.1
              have hfq : w4.frozen? ⟨w.heap.size, i, none⟩ = false := (hb2.frozen (p := ⟨w.heap.size, i, none⟩) hlw).trans HQI.out.2
              have hone := H2.out.one (w' := w4) (g' := b4) (dr' := d4) (by omega) (by omega) hb2 HLE.out hD4 (Nat.le_trans HT.out.2.2.2.size hb4) hd4l (by rw [hd4v, HT.out.2.2.1])
              rw [HP.out] at hone
              have HONE := Lib.hid hone; clear hone hb4 hD4 hd4l hd4v hbm hb2
              go_wp2_with fail
              rw [HOR.out]
              go_roundw
              case rel => exact ⟨(k : Int) - 1, k, b4, nr2, cap4, _, d4, by omega, rfl, rfl, rfl, hnr2, HONE⟩
              case measure => first | (simp [intOf]; done) | (simp [intOf]; omega)
            · have hbo : decide (vd dr2 nr2 < vd dt (m + 1)) = true := by rw [decide_eq_true_iff, HT.out.2.2.1]; omega
              have HZ := Lib.hid (H2.out.zero HT.out.2.2.2 hle)
              clear hle
              go_wp2_with fail
              refine (less_any g2 cap2 bt capt nr2 (m + 1) dr2 dt (by omega) (by omega) H2.out.restl HT.out.2.1 w2 HR2.out HT.out.1).mono ?_
              rintro e w3 ⟨rfl, rfl⟩
              rw [hbo]
              go_wp2_with fail
              go_roundw
              case rel => exact ⟨(k : Int) - 1, k, g2, nr2, cap2, q2, dr2, by omega, rfl, rfl, rfl, hnr2, HZ⟩
              case measure => first | (simp [intOf]; done) | (simp [intOf]; omega)
end Go.Proofs.Ytgegkffigjogcaa
