/- nat.From, walked. -/
import Derived.Test.YtgegkffigjogcaaNFrom
import Derived.Test.YtgegkffigjogcaaNAdd
namespace Go.Proofs.Ytgegkffigjogcaa
open Go.RowKit

set_option maxRecDepth 100000 in
set_option maxHeartbeats 1000000 in
theorem from_any (a : Option Addr) (n cap : Nat) (f : Nat → Nat) (hn : (n : Int) ≤ 140737488355328) (hc : n ≤ cap) (hf : ∀ j, j < n → f j < 256) (w : World) (hP : RdB w a n f) :
    Calls Try.prog 35 #[.slice a n cap] w (Ans (cdN (bw f n)) (bw f n) w) := by
  have HP := Lib.hid hP; clear hP
  have HFB := Lib.hid hf; clear hf
  obtain ⟨i0, hi, hz0, hz1, hz2⟩ := info_parts info32
  go_enter Try.func35, Try.ntmps35
  go_wp2
  go_loop [0] (fun v => ∃ (k m : Nat) (a' : Option Addr) (c' : Nat), k + m = n ∧ v = .slice a' m c' ∧ m ≤ c' ∧ Hid (RdB w a' m (fun j => f (k + j)) ∧ ∀ j, j < k → f j = 0)) (fun v => match v with | .slice _ m _ => m | _ => 0)
  case atStart => exact ⟨0, n, a, cap, by omega, rfl, hc, Lib.hid ⟨by simpa using HP.out, fun j hj => by omega⟩⟩
  case round =>
    obtain ⟨k, m, a', c', hkm, rfl, hmc, H⟩ := hrel
    have hm0 : (0 : Int) ≤ m := by omega
    have hm1 : (m : Int) ≤ 140737488355328 := by omega
    by_cases hgo : m ≠ 0 ∧ f k = 0
    · obtain ⟨h1, h2⟩ := hgo
      obtain ⟨x, rfl⟩ : ∃ x, m = x + 1 := ⟨m - 1, by omega⟩
      have hpos : (0 : Int) < ((x + 1 : Nat) : Int) := by omega
      have hpos2 : (0 : Int) < (x : Int) + 1 := by omega
      obtain ⟨p, hx, -, ca⟩ := H.out.1.at_ c' 0 (by omega)
      have hx0 : ∀ w, (Instr.indexAt 43 (.slice a' (x + 1) c') (.int .i64 0)).run Try.prog w = .ok (.pointer (some p)) w := hx
      clear hx
      have ca0 : w.cell? p = some (.int .u8 0) := by rw [ca]; show some (Value.int .u8 ((f (k + 0) : Nat) : Int)) = _; rw [Nat.add_zero, h2]; rfl
      clear ca
      obtain ⟨a2, hsl, hrd⟩ := H.out.1.next hmc
      have HN := Lib.hid (And.intro hrd h2); clear hrd h2 h1
      go_wp2
      go_round
      case rel => exact ⟨k + 1, x, a2, c' - 1, by omega, rfl, by omega, Lib.hid ⟨by have := HN.out.1; simpa only [Nat.add_assoc] using this, fun j hj => by
        by_cases e : j < k
        · exact H.out.2 j e
        · rw [show j = k by omega]; exact HN.out.2⟩⟩
      case measure => simp
    · have hm4 : (m : Int) ≤ 140737488355331 := by omega
      have hstop : m = 0 ∨ f k ≠ 0 := by
        rcases Nat.eq_zero_or_pos m with h | h
        · exact .inl h
        · exact .inr (fun h2 => hgo ⟨by omega, h2⟩)
      have hV : bw f n = bw (fun j => f (k + j)) m := by rw [← hkm]; exact bw_skip H.out.2 m
      have hgl : ∀ j, j < m → f (k + j) < 256 := fun j hj => HFB.out (k + j) (by omega)
      have hcd := bw_long hgl (by rcases hstop with h | h; exact .inl h; exact .inr h)
      obtain ⟨g, hg⟩ : ∃ g : Nat → Nat, (fun j => f (k + j)) = g := ⟨_, rfl⟩
      have hg0 : f k = g 0 := by rw [← hg]; rfl
      have hrd := H.out.1
      rw [hg] at hV hcd hrd
      have hgl' : ∀ j, j < m → g j < 256 := fun j hj => by rw [← hg]; exact hgl j hj
      rw [hg0] at hstop
      have HVV := Lib.hid hV
      have HCD := Lib.hid hcd
      have HG := Lib.hid (And.intro hgl' hrd)
      clear hg hg0 hgl hgl' hrd hV hcd hgo H
      by_cases hlong : 4096 < m
      · have HC2 : Hid (cdN (bw g m) = 2) := Lib.hid (by rw [HCD.out, if_pos hlong])
        have hl : (4096 : Int) < m := by omega
        have hpos : (0 : Int) < m := by omega
        have hz : (((g 0 : Nat) : Int) == 0) = false := by simpa using hstop.resolve_left (by omega)
        obtain ⟨p, hx, -, ca⟩ := HG.out.2.at_ c' 0 (by omega)
        have hx0 : ∀ w, (Instr.indexAt 43 (.slice a' m c') (.int .i64 0)).run Try.prog w = .ok (.pointer (some p)) w := hx
        clear hx hstop hlong
        go_wp2
        go_ret2
        rw [HVV.out, HC2.out]
        exact Ans.err (c := 2) (by omega) (Below.refl _ _)
      · have hl : ¬ (4096 : Int) < m := by omega
        clear hlong
        obtain ⟨L, hL⟩ : ∃ L : Nat, ((m : Int) + 3) / 4 = (L : Int) := ⟨(m + 3) / 4, by omega⟩
        have HL : Hid (4 * L ≤ m + 3 ∧ m ≤ 4 * L) := Lib.hid (by omega)
        have hLb : (L : Int) ≤ 1024 := by omega
        have hLb0 : (0 : Int) ≤ L := by omega
        have hm5 : (m : Int) ≤ 4096 := by omega
        clear hm1 hm4
        rcases Nat.eq_zero_or_pos m with hm | hm
        · have hpos : ¬ (0 : Int) < m := by omega
          clear hm hstop
          go_wp2_with (at_make; refine wpList_make_full _ rfl _ _ 23 rfl w.heap.size 32 i0 (.int .u32 0) 1 Try.underlying23 hi hz0 hz1 .i64 .i64 _ _ L rfl rfl (by first | exact hL | rfl) (by first | exact hL | rfl) (by rw [hz2]; omega) (by unfold maxLen; omega) (Nat.le_refl _) ?_; intro w0 hown0 hgrow0)
          have hout : Wr w0 w.heap.size 0 L (fun _ => 0) := ⟨(hown0.lt _ rfl).2, fun j hj => ⟨by rw [Nat.zero_add]; exact (hown0.cellAt j (by omega)).trans (madeCells32_at L j hj), by rw [Nat.zero_add]; exact hown0.frozenAt j⟩⟩
          have hbel : Below w.heap.size w w0 := (Below.refl _ _).grown hgrow0 (Nat.le_refl _) (fun k hk => by cases hk)
          have hst : FromR w.heap.size L m 0 g (fun _ => 0) w w0 := ⟨hout, hbel, fun _ _ => (by show 0 < 4294967296; omega), by rw [vb_zero (fun _ _ => rfl)]; simp [bw]⟩
          have HST := Lib.hid hst
          clear hst hout hbel hown0 hgrow0
          go_wp2
          go_loopw [29] (fun iv wr => ∃ i : Nat, i ≤ m ∧ iv = .int .i64 i ∧ Hid (∃ o, FromR w.heap.size L m i g o w wr)) (fun iv _ => m - (intOf iv).toNat)
          case atStart => exact ⟨0, by omega, rfl, Lib.hid ⟨_, HST.out⟩⟩
          case round =>
            obtain ⟨i, him, rfl, H⟩ := hrel
            have hi0 : (0 : Int) ≤ i := by omega
            by_cases hlt : i < m
            · have hin : (i : Int) < m := by omega
              exact absurd hin (by omega)
            · obtain rfl : i = m := by omega
              have hin : ¬ (i : Int) < i := by omega
              obtain ⟨o, HO⟩ := H.out
              have hnv : NvA wr (some ⟨w.heap.size, 0, none⟩) L L o := ⟨Nat.le_refl _, HO.out.rd, fun q hq => by cases hq; exact HO.out.1, HO.lt, by omega⟩
              have hans := answer_nv hnv
              rw [HO.num, Nat.sub_self, Nat.pow_zero, Nat.one_mul] at hans
              have HANS := Lib.hid hans
              have HB := Lib.hid HO.old
              clear hans hnv HO H
              go_wp2_with fail
              refine HANS.out.mono ?_
              rintro e w4 ⟨v, rfl, h1, h2, h3⟩
              have HF : Hid (Ans (cdN (bw g i)) (bw g i) w (.returned (.tuple #[v, .int .i64 (cdN (bw g i) : Nat)])) w4) := Lib.hid (Ans.later ⟨v, rfl, h1, h2, h3⟩ HB.out)
              clear h1 h2 h3
              go_wp2
              go_ret2
              rw [HVV.out]
              exact HF.out
        · have hpos : (0 : Int) < m := by omega
          have hz : (((g 0 : Nat) : Int) == 0) = false := by simpa using hstop.resolve_left (by omega)
          obtain ⟨p, hx, -, ca⟩ := HG.out.2.at_ c' 0 (by omega)
          have hx0 : ∀ w, (Instr.indexAt 43 (.slice a' m c') (.int .i64 0)).run Try.prog w = .ok (.pointer (some p)) w := hx
          clear hx hstop hm
          go_wp2_with (at_make; refine wpList_make_full _ rfl _ _ 23 rfl w.heap.size 32 i0 (.int .u32 0) 1 Try.underlying23 hi hz0 hz1 .i64 .i64 _ _ L rfl rfl (by first | exact hL | rfl) (by first | exact hL | rfl) (by rw [hz2]; omega) (by unfold maxLen; omega) (Nat.le_refl _) ?_; intro w0 hown0 hgrow0)
          have hout : Wr w0 w.heap.size 0 L (fun _ => 0) := ⟨(hown0.lt _ rfl).2, fun j hj => ⟨by rw [Nat.zero_add]; exact (hown0.cellAt j (by omega)).trans (madeCells32_at L j hj), by rw [Nat.zero_add]; exact hown0.frozenAt j⟩⟩
          have hbel : Below w.heap.size w w0 := (Below.refl _ _).grown hgrow0 (Nat.le_refl _) (fun k hk => by cases hk)
          have hst : FromR w.heap.size L m 0 g (fun _ => 0) w w0 := ⟨hout, hbel, fun _ _ => (by show 0 < 4294967296; omega), by rw [vb_zero (fun _ _ => rfl)]; simp [bw]⟩
          have HST := Lib.hid hst
          clear hst hout hbel hown0 hgrow0
          go_wp2
          go_loopw [29] (fun iv wr => ∃ i : Nat, i ≤ m ∧ iv = .int .i64 i ∧ Hid (∃ o, FromR w.heap.size L m i g o w wr)) (fun iv _ => m - (intOf iv).toNat)
          case atStart => exact ⟨0, by omega, rfl, Lib.hid ⟨_, HST.out⟩⟩
          case round =>
            obtain ⟨i, him, rfl, H⟩ := hrel
            have hi0 : (0 : Int) ≤ i := by omega
            by_cases hlt : i < m
            · have hin : (i : Int) < m := by omega
              obtain ⟨p2, hp2⟩ : ∃ p2 : Nat, (m : Int) - 1 - (i : Int) = (p2 : Int) := ⟨m - 1 - i, by omega⟩
              obtain ⟨q, hq⟩ : ∃ q : Nat, (p2 : Int) / 4 = (q : Int) := ⟨p2 / 4, by omega⟩
              obtain ⟨r, hr⟩ : ∃ r : Nat, (p2 : Int) % 4 = (r : Int) := ⟨p2 % 4, by omega⟩
              obtain ⟨s, hs⟩ : ∃ s : Nat, (r : Int) * 8 = (s : Int) := ⟨8 * r, by omega⟩
              have hp20 : (0 : Int) ≤ p2 := by omega
              have hp21 : (p2 : Int) < 4096 := by omega
              have hq0 : (0 : Int) ≤ q := by omega
              have hqL : (q : Int) < L := by have := HL.out; omega
              have hr0 : (0 : Int) ≤ r := by omega
              have hr4 : (r : Int) < 4 := by omega
              have hs0 : (0 : Int) ≤ s := by omega
              have hs1 : (s : Int) < 32 := by omega
              obtain ⟨o, HO⟩ := H.out
              have hgi := HG.out.1 i hlt
              obtain ⟨pp, hix, hpb, cb⟩ := (HG.out.2.below HO.old).at_ c' i hlt
              have co : wr.cell? ⟨w.heap.size, q, none⟩ = some (.int .u32 (o q : Nat)) := by have := (HO.out.2 q (by omega)).1; rwa [Nat.zero_add] at this
              have fo : wr.frozen? ⟨w.heap.size, q, none⟩ = false := by have := (HO.out.2 q (by omega)).2; rwa [Nat.zero_add] at this
              obtain ⟨n1, n2⟩ := HO.next (Nat.le_refl _) hlt (show p2 = m - 1 - i by omega) (show p2 = 4 * q + r by omega) (by omega) (by omega) hgi
              rw [show 8 * r = s by omega] at n1
              have HS := Lib.hid n1
              have HN := Lib.hid n2
              have hg0 : (0 : Int) ≤ ((g i : Nat) : Int) := by omega
              have hg1 : ((g i : Nat) : Int) < 256 := by omega
              clear n1 n2 HO hgi H
              go_wp2_with fail
              go_region
              go_wp2
              go_roundw
              case rel =>
                refine ⟨i + 1, by omega, by go_num, Lib.hid ⟨upd o q (o q + 256 ^ r * g i), ?_⟩⟩
                rw [HS.out]
                exact ⟨HN.out.out.drew, HN.out.old.drew, HN.out.lt, HN.out.num⟩
              case measure => simp [intOf]; omega
            · obtain rfl : i = m := by omega
              have hin : ¬ (i : Int) < i := by omega
              obtain ⟨o, HO⟩ := H.out
              have hnv : NvA wr (some ⟨w.heap.size, 0, none⟩) L L o := ⟨Nat.le_refl _, HO.out.rd, fun q hq => by cases hq; exact HO.out.1, HO.lt, by omega⟩
              have hans := answer_nv hnv
              rw [HO.num, Nat.sub_self, Nat.pow_zero, Nat.one_mul] at hans
              have HANS := Lib.hid hans
              have HB := Lib.hid HO.old
              clear hans hnv HO H
              go_wp2_with fail
              refine HANS.out.mono ?_
              rintro e w4 ⟨v, rfl, h1, h2, h3⟩
              have HF : Hid (Ans (cdN (bw g i)) (bw g i) w (.returned (.tuple #[v, .int .i64 (cdN (bw g i) : Nat)])) w4) := Lib.hid (Ans.later ⟨v, rfl, h1, h2, h3⟩ HB.out)
              clear h1 h2 h3
              go_wp2
              go_ret2
              rw [HVV.out]
              exact HF.out
end Go.Proofs.Ytgegkffigjogcaa
