/- SHA-256: the reference's Hash, its padding. (With it, merged: SHshA · SHshB · SHshC · SHshD · SHshE · SHshF · SHshP.) -/
import Derived.Test.YtkecehcnoihiiaaDoorM3
import Derived.Deep.CutBlock
import Derived.Deep.DeepCutAuto
namespace Go.Proofs.YtkecehcnoihiiaaDoor
open Go.RowKit

/-- The block of that number. -/
def blkIn (n : Nat) : Code → Option Code
  | .block i c => if i = n then some (.block i c) else blkIn n c
  | .seq a b => match blkIn n a with
    | some c => some c
    | none => blkIn n b
  | .loop c => blkIn n c
  | .scope c => blkIn n c
  | .cond _ a b => match blkIn n a with
    | some c => some c
    | none => blkIn n b
  | _ => none
/-- The worlds of Hash while it takes blocks in: the bytes at g, the eight numbers at w's end. -/
structure CH (w : World) (g L : Nat) (E : Nat → Nat) (h : Nat → Int) (wx : World) : Prop where
  old : Below w.heap.size w wx
  r0 : wx.heap[w.heap.size]? = some (.cells (ar .u32 8 h) 39 (0, 0))
  r1 : wx.heap[w.heap.size + 1]? = some (.cells #[.int .u8 0, .int .u8 0, .int .u8 0, .int .u8 0, .int .u8 0, .int .u8 0, .int .u8 0, .int .u8 0, .int .u8 0, .int .u8 0, .int .u8 0, .int .u8 0, .int .u8 0, .int .u8 0, .int .u8 0, .int .u8 0, .int .u8 0, .int .u8 0, .int .u8 0, .int .u8 0, .int .u8 0, .int .u8 0, .int .u8 0, .int .u8 0, .int .u8 0, .int .u8 0, .int .u8 0, .int .u8 0, .int .u8 0, .int .u8 0, .int .u8 0, .int .u8 0] 25 (0, 0))
  by8 : ∀ j, j < L → wx.cell? ⟨g, j, none⟩ = some (.int .u8 (E j : Nat))
  hg : w.heap.size + 1 < g ∧ g < wx.heap.size
theorem CH.below {w wx w' : World} {g L : Nat} {E : Nat → Nat} {h : Nat → Int} (c : CH w g L E h wx) (hb : Below wx.heap.size wx w') : CH w g L E h w' := by
  have l := c.hg
  exact ⟨c.old.trans (hb.mono (by omega)), (hb.block _ (by omega)).trans c.r0, (hb.block _ (by omega)).trans c.r1, fun j hj => (hb.cell (p := ⟨g, j, none⟩) l.2).trans (c.by8 j hj), l.1, Nat.lt_of_lt_of_le l.2 hb.size⟩
theorem CH.drew {w wx : World} {g L : Nat} {E : Nat → Nat} {h : Nat → Int} (c : CH w g L E h wx) : CH w g L E h wx.drew := c.below (Below.drew (Below.refl _ _))
theorem CH.keep {w wx w' : World} {g L G : Nat} {E : Nat → Nat} {h : Nat → Int} (c : CH w g L E h wx) (hg : wx.grownBy w' (some G)) (h1 : g < G) : CH w g L E h w' := by
  have l := c.hg
  exact ⟨c.old.grown hg (by omega) (fun j hj => by injection hj with hj; omega), (hg.block _ (by omega) (by simp; omega)).trans c.r0, (hg.block _ (by omega) (by simp; omega)).trans c.r1, fun j hj => (hg.cell_far ⟨g, j, none⟩ l.2 (by simp; omega)).trans (c.by8 j hj), l.1, Nat.lt_of_lt_of_le l.2 hg.size⟩
/-- The first n numbers of a list. -/
def px (x : Nat → Int) (n : Nat) : List Value := (List.range n).map fun j => .int .u32 (x j)
theorem px_at (x : Nat → Int) (n j : Nat) (h : j < n) : (px x n)[j]? = some (.int .u32 (x j)) := by simp [px, h]
theorem px_snoc (x : Nat → Int) (n : Nat) (z : Int) (hx : x n = z) : px x n ++ [.int .u32 z] = px x (n + 1) := by
  rw [← hx]
  unfold px
  rw [List.range_succ, List.map_append]
  rfl
/-- The worlds of a block while its numbers are appended. -/
structure CW (w : World) (g L : Nat) (E : Nat → Nat) (h : Nat → Int) (B : Nat) (v : Value) (n : Nat) (x : Nat → Int) (wx : World) : Prop where
  ch : CH w g L E h wx
  own : wx.ownsRow B 38 1 v n (px x n)
  lt : g < B
theorem CW.drew {w wx : World} {g L B n : Nat} {E : Nat → Nat} {h : Nat → Int} {v : Value} {x : Nat → Int} (c : CW w g L E h B v n x wx) : CW w g L E h B v n x wx.drew := ⟨c.ch.drew, c.own.drew, c.lt⟩
theorem addI {a b c : Nat} (h : a + b = c) (hc : c < 9223372036854775808) (w : World) : (binOp BinOp.add 3 (.int .i64 (a : Nat)) (.int .i64 (b : Nat))).run Tryd.prog w = .ok (.int .i64 (c : Nat)) w := by
  have e1 : (a : Int) + (b : Int) = (c : Int) := by omega
  have e2 : IntKind.i64.wrap (c : Int) = c := by rw [IntKind.wrap_i64]; omega
  go_simp
theorem mul4I {k d : Nat} (h : 4 * k = d) (hd : d < 9223372036854775808) (w : World) : (binOp BinOp.mul 3 (.int .i64 4) (.int .i64 (k : Nat))).run Tryd.prog w = .ok (.int .i64 (d : Nat)) w := by
  have e1 : 4 * (k : Int) = (d : Int) := by omega
  have e2 : IntKind.i64.wrap (d : Int) = d := by rw [IntKind.wrap_i64]; omega
  go_simp
theorem subI {a b c : Nat} (h : b + c = a) (hc : a < 9223372036854775808) (w : World) : (binOp BinOp.sub 3 (.int .i64 (a : Nat)) (.int .i64 (b : Nat))).run Tryd.prog w = .ok (.int .i64 (c : Nat)) w := by
  have e1 : (a : Int) - (b : Int) = (c : Int) := by omega
  have e2 : IntKind.i64.wrap (c : Int) = c := by rw [IntKind.wrap_i64]; omega
  go_simp
theorem sl4 {g U q o p : Nat} (hp : o + 4 = p) (hU : p ≤ U) (hq : U ≤ q) (w : World) : ∃ cc, (Instr.sliceAt 22 (.slice (some ⟨g, 0, none⟩) U q) (some (.int .i64 (o : Nat))) (some (.int .i64 (p : Nat))) none).run Tryd.prog w = .ok (.slice (some ⟨g, o, none⟩) 4 cc) w := by
  have hsz : (sizeOf (Tryd.prog.elem 22)).run Tryd.prog w = .ok 1 w := by kernel_rfl
  refine ⟨q - o, ?_⟩
  rw [run_sliceAt_slice (P := Tryd.prog) (w := w) 22 _ _ _ _ (by kernel_rfl), run_slice_lh (P := Tryd.prog) w 22 (some ⟨g, 0, none⟩) U q (by kernel_rfl) .i64 .i64 _ _ (by omega) (by omega) (by omega), hsz]
  have h1 : q ≠ o := by omega
  simp only [Result.andThen, sliced, Int.toNat_natCast, if_neg h1]
  simp [Addr.add]
  omega
set_option maxRecDepth 100000 in
set_option maxHeartbeats 8000000 in
-- SIXTEEN NUMBERS OUT OF A BLOCK OF BYTES.
theorem hash_b6 {w wa : World} {g U q y B : Nat} {E : Nat → Nat} {h x : Nat → Int} (hE : ∀ j, E j < 256) (hyU : y + 64 ≤ U) (hU : U < 2000000) (hq : U ≤ q) (hx : ∀ j, j < 16 → x j = nb (E (y + 4 * j)) (E (y + 4 * j + 1)) (E (y + 4 * j + 2)) (E (y + 4 * j + 3))) (hc : CW w g U E h B (.slice (some ⟨B, 0, none⟩) 0 0) 0 x wa) {Q : Exit → Act → World → Prop}
    {s0 s1 s2 s3 s4 s5 s6 s8 s9 s13 s14 s15 s16 s17 s18 s19 s20 s21 s22 s23 s24 s25 s26 s27 s28 s29 s30 s31 s32 s33 s34 s35 s36 s37 s38 s39 s40 s41 s42 s43 s44 s45 s46 s47 s48 s49 s50 s51 s52 s53 s54 s55 s56 s57 s58 s59 s60 s61 s62 s63 s64 s65 s66 s67 s68 s69 s70 s71 s72 s73 s74 s75 s76 s77 s78 s79 s80 s81 s82 s83 s84 s85 s86 s87 s88 s89 s90 s91 s92 s93 s94 s95 s96 s97 s98 s99 s100 s101 s102 s103 s104 s105 s106 s107 s108 s109 s110 s111 s112 s113 s114 s115 s116 s117 s118 s119 s120 s121 s122 s123 s124 s125 s126 s127 s128 s129 s130 s131 s132 s133 s134 s135 s136 s137 s138 s139 s140 s141 s142 s143 s144 s145 s146 s147 s148 s149 s150 s151 s152 s153 s154 s155 s156 s157 s158 s159 s160 s161 s162 s163 s164 s165 s166 s167 s168 s169 s170 s171 s172 s173 s174 s175 s176 s177 s178 s179 s180 s181 s182 s183 s184 s185 s186 s187 s188 s189 s190 s191 s192 s193 s194 s195 s196 s197 s198 s199 s200 s201 s202 s203 s204 s205 s206 s207 s208 s209 s210 s211 s212 s213 s214 s215 s216 s217 s218 s219 s220 s221 s222 s223 s224 s225 s226 s227 s228 s229 s230 s231 s232 s233 s234 s235 s236 s237 s238 s239 s240 s241 s242 s243 s244 s245 s246 s247 s248 s249 s250 s251 s252 s253 s254 s255 s256 s257 s258 s259 s260 s261 s262 s263 s264 s265 s266 s267 s268 : Value} (hQP : ∀ c (a : Act) d v w, Q (.panic c) (a.put d v) w → Q (.panic c) a w) (hQ : ∀ (u13 u60 u61 u62 u63 u64 u65 u66 u67 u68 u69 u70 u71 u72 u73 u74 u75 u76 u77 u78 u79 u80 u81 u82 u83 u84 u85 u86 u87 u88 u89 u90 u91 u92 u93 u94 u95 u96 u97 u98 u99 : Value) (G c : Nat) (wx : World), CW w g U E h B (.slice (some ⟨G, 0, none⟩) 16 c) 16 x wx → Q .normal ⟨(s0 :: s1 :: s2 :: s3 :: s4 :: s5 :: s6 :: .slice (some ⟨g, 0, none⟩) U q :: s8 :: s9 :: .int .i64 (y : Nat) :: .slice (some ⟨G, 0, none⟩) 16 c :: .int .i64 16 :: u13 :: s14 :: s15 :: s16 :: s17 :: s18 :: s19 :: s20 :: s21 :: s22 :: s23 :: s24 :: s25 :: s26 :: s27 :: s28 :: s29 :: s30 :: s31 :: s32 :: s33 :: s34 :: s35 :: s36 :: s37 :: s38 :: s39 :: s40 :: s41 :: s42 :: s43 :: s44 :: s45 :: s46 :: s47 :: s48 :: s49 :: s50 :: s51 :: s52 :: s53 :: s54 :: s55 :: s56 :: s57 :: s58 :: s59 :: u60 :: u61 :: u62 :: u63 :: u64 :: u65 :: u66 :: u67 :: u68 :: u69 :: u70 :: u71 :: u72 :: u73 :: u74 :: u75 :: u76 :: u77 :: u78 :: u79 :: u80 :: u81 :: u82 :: u83 :: u84 :: u85 :: u86 :: u87 :: u88 :: u89 :: u90 :: u91 :: u92 :: u93 :: u94 :: u95 :: u96 :: u97 :: u98 :: u99 :: s100 :: s101 :: s102 :: s103 :: s104 :: s105 :: s106 :: s107 :: s108 :: s109 :: s110 :: s111 :: s112 :: s113 :: s114 :: s115 :: s116 :: s117 :: s118 :: s119 :: s120 :: s121 :: s122 :: s123 :: s124 :: s125 :: s126 :: s127 :: s128 :: s129 :: s130 :: s131 :: s132 :: s133 :: s134 :: s135 :: s136 :: s137 :: s138 :: s139 :: s140 :: s141 :: s142 :: s143 :: s144 :: s145 :: s146 :: s147 :: s148 :: s149 :: s150 :: s151 :: s152 :: s153 :: s154 :: s155 :: s156 :: s157 :: s158 :: s159 :: s160 :: s161 :: s162 :: s163 :: s164 :: s165 :: s166 :: s167 :: s168 :: s169 :: s170 :: s171 :: s172 :: s173 :: s174 :: s175 :: s176 :: s177 :: s178 :: s179 :: s180 :: s181 :: s182 :: s183 :: s184 :: s185 :: s186 :: s187 :: s188 :: s189 :: s190 :: s191 :: s192 :: s193 :: s194 :: s195 :: s196 :: s197 :: s198 :: s199 :: s200 :: s201 :: s202 :: s203 :: s204 :: s205 :: s206 :: s207 :: s208 :: s209 :: s210 :: s211 :: s212 :: s213 :: s214 :: s215 :: s216 :: s217 :: s218 :: s219 :: s220 :: s221 :: s222 :: s223 :: s224 :: s225 :: s226 :: s227 :: s228 :: s229 :: s230 :: s231 :: s232 :: s233 :: s234 :: s235 :: s236 :: s237 :: s238 :: s239 :: s240 :: s241 :: s242 :: s243 :: s244 :: s245 :: s246 :: s247 :: s248 :: s249 :: s250 :: s251 :: s252 :: s253 :: s254 :: s255 :: s256 :: s257 :: s258 :: s259 :: s260 :: s261 :: s262 :: s263 :: s264 :: s265 :: s266 :: s267 :: s268 :: []).toArray, []⟩ wx) : ((Tryd.f15.body.bind (blkIn 6)).getD .skip).wp Tryd.prog Q ⟨(s0 :: s1 :: s2 :: s3 :: s4 :: s5 :: s6 :: .slice (some ⟨g, 0, none⟩) U q :: s8 :: s9 :: .int .i64 (y : Nat) :: .slice (some ⟨B, 0, none⟩) 0 0 :: .int .i64 0 :: s13 :: s14 :: s15 :: s16 :: s17 :: s18 :: s19 :: s20 :: s21 :: s22 :: s23 :: s24 :: s25 :: s26 :: s27 :: s28 :: s29 :: s30 :: s31 :: s32 :: s33 :: s34 :: s35 :: s36 :: s37 :: s38 :: s39 :: s40 :: s41 :: s42 :: s43 :: s44 :: s45 :: s46 :: s47 :: s48 :: s49 :: s50 :: s51 :: s52 :: s53 :: s54 :: s55 :: s56 :: s57 :: s58 :: s59 :: s60 :: s61 :: s62 :: s63 :: s64 :: s65 :: s66 :: s67 :: s68 :: s69 :: s70 :: s71 :: s72 :: s73 :: s74 :: s75 :: s76 :: s77 :: s78 :: s79 :: s80 :: s81 :: s82 :: s83 :: s84 :: s85 :: s86 :: s87 :: s88 :: s89 :: s90 :: s91 :: s92 :: s93 :: s94 :: s95 :: s96 :: s97 :: s98 :: s99 :: s100 :: s101 :: s102 :: s103 :: s104 :: s105 :: s106 :: s107 :: s108 :: s109 :: s110 :: s111 :: s112 :: s113 :: s114 :: s115 :: s116 :: s117 :: s118 :: s119 :: s120 :: s121 :: s122 :: s123 :: s124 :: s125 :: s126 :: s127 :: s128 :: s129 :: s130 :: s131 :: s132 :: s133 :: s134 :: s135 :: s136 :: s137 :: s138 :: s139 :: s140 :: s141 :: s142 :: s143 :: s144 :: s145 :: s146 :: s147 :: s148 :: s149 :: s150 :: s151 :: s152 :: s153 :: s154 :: s155 :: s156 :: s157 :: s158 :: s159 :: s160 :: s161 :: s162 :: s163 :: s164 :: s165 :: s166 :: s167 :: s168 :: s169 :: s170 :: s171 :: s172 :: s173 :: s174 :: s175 :: s176 :: s177 :: s178 :: s179 :: s180 :: s181 :: s182 :: s183 :: s184 :: s185 :: s186 :: s187 :: s188 :: s189 :: s190 :: s191 :: s192 :: s193 :: s194 :: s195 :: s196 :: s197 :: s198 :: s199 :: s200 :: s201 :: s202 :: s203 :: s204 :: s205 :: s206 :: s207 :: s208 :: s209 :: s210 :: s211 :: s212 :: s213 :: s214 :: s215 :: s216 :: s217 :: s218 :: s219 :: s220 :: s221 :: s222 :: s223 :: s224 :: s225 :: s226 :: s227 :: s228 :: s229 :: s230 :: s231 :: s232 :: s233 :: s234 :: s235 :: s236 :: s237 :: s238 :: s239 :: s240 :: s241 :: s242 :: s243 :: s244 :: s245 :: s246 :: s247 :: s248 :: s249 :: s250 :: s251 :: s252 :: s253 :: s254 :: s255 :: s256 :: s257 :: s258 :: s259 :: s260 :: s261 :: s262 :: s263 :: s264 :: s265 :: s266 :: s267 :: s268 :: []).toArray, []⟩ wa := by
  conv => arg 2; whnf
  have HQ := Lib.hid hQ
  have HQP := Lib.hid hQP
  have HX := Lib.hid (And.intro hx (And.intro hyU (And.intro hU (And.intro hq hE))))
  have H0 := Lib.hid hc
  clear hQ hQP hx hc hyU hU hq hE
  obtain ⟨i0, hi, hz0, hz1, hz2⟩ := info_partsU infoU32
  go_wp2_with fail
  go_loopw [11, 12] (fun v i wr => ∃ k G c : Nat, k ≤ 16 ∧ i = .int .i64 (k : Nat) ∧ v = .slice (some ⟨G, 0, none⟩) k c ∧ Hid (CW w g U E h B v k x wr)) (fun _ i _ => 16 - (intOf i).toNat)
  case atStart => exact ⟨0, B, 0, by omega, rfl, rfl, H0⟩
  case round =>
    obtain ⟨k, G, c, hk, rfl, rfl, H⟩ := hrel
    clear H0
    have hk0 : (0 : Int) ≤ k := by omega
    by_cases hlt : k < 16
    · have hlt' : (k : Int) < 16 := by omega
      obtain ⟨d, hd⟩ : ∃ d, 4 * k = d := ⟨_, rfl⟩
      obtain ⟨o, ho⟩ : ∃ o, y + d = o := ⟨_, rfl⟩
      obtain ⟨p, hp⟩ : ∃ p, o + 4 = p := ⟨_, rfl⟩
      have hyU := HX.out.2.1
      have hU2 := HX.out.2.2.1
      have hpU : p ≤ U := by omega
      obtain ⟨cc, hsl⟩ := sl4 (g := g) hp hpU HX.out.2.2.2.1 wr
      have HM := Lib.hid (mul4I hd (by omega) wr)
      have HA := Lib.hid (addI ho (by omega) wr)
      have HA4 := Lib.hid (addI (b := 4) hp (by omega) wr)
      have HS := Lib.hid hsl
      have hxk := HX.out.1 k hlt
      rw [show y + 4 * k = o by omega] at hxk
      obtain ⟨a0, h0⟩ : ∃ a, E o = a := ⟨_, rfl⟩
      obtain ⟨a1, h1⟩ : ∃ a, E (o + 1) = a := ⟨_, rfl⟩
      obtain ⟨a2, h2⟩ : ∃ a, E (o + 2) = a := ⟨_, rfl⟩
      obtain ⟨a3, h3⟩ : ∃ a, E (o + 3) = a := ⟨_, rfl⟩
      have HC := Lib.hid (show ∀ wx, CW w g U E h B (.slice (some ⟨G, 0, none⟩) k c) k x wx → wx.cell? ⟨g, o, none⟩ = some (.int .u8 (a0 : Nat)) ∧ wx.cell? ⟨g, o + 1, none⟩ = some (.int .u8 (a1 : Nat)) ∧ wx.cell? ⟨g, o + 2, none⟩ = some (.int .u8 (a2 : Nat)) ∧ wx.cell? ⟨g, o + 3, none⟩ = some (.int .u8 (a3 : Nat)) from fun wx cx => by
        rw [← h0, ← h1, ← h2, ← h3]
        exact ⟨cx.ch.by8 _ (by omega), cx.ch.by8 _ (by omega), cx.ch.by8 _ (by omega), cx.ch.by8 _ (by omega)⟩)
      have HE := Lib.hid (show a0 < 256 ∧ a1 < 256 ∧ a2 < 256 ∧ a3 < 256 from by
        rw [← h0, ← h1, ← h2, ← h3]
        exact ⟨HX.out.2.2.2.2 _, HX.out.2.2.2.2 _, HX.out.2.2.2.2 _, HX.out.2.2.2.2 _⟩)
      rw [h0, h1, h2, h3] at hxk
      have HXK := Lib.hid hxk
      clear h0 h1 h2 h3 hxk hsl hd ho hp hpU hyU hU2
      go_upto_region 15 with fail
      refine region_list ?_
      refine wpList_val (w' := wr) rfl (.slice (some ⟨g, 0, none⟩) U q) (by kernel_rfl) ?_
      refine wpList_val (w' := wr) rfl (.int .i64 (y : Nat)) (by kernel_rfl) ?_
      refine wpList_val (w' := wr) rfl (.int .i64 (k : Nat)) (by kernel_rfl) ?_
      refine wpList_sem rfl (binOp BinOp.mul 3 (.int .i64 4) (.int .i64 (k : Nat))) (.int .i64 (d : Nat)) (by kernel_rfl) (HM.out) ?_
      refine wpList_sem rfl (binOp BinOp.add 3 (.int .i64 (y : Nat)) (.int .i64 (d : Nat))) (.int .i64 (o : Nat)) (by kernel_rfl) (HA.out) ?_
      refine wpList_val (w' := wr) rfl (.int .i64 (y : Nat)) (by kernel_rfl) ?_
      refine wpList_val (w' := wr) rfl (.int .i64 (k : Nat)) (by kernel_rfl) ?_
      refine wpList_sem rfl (binOp BinOp.mul 3 (.int .i64 4) (.int .i64 (k : Nat))) (.int .i64 (d : Nat)) (by kernel_rfl) (HM.out) ?_
      refine wpList_sem rfl (binOp BinOp.add 3 (.int .i64 (y : Nat)) (.int .i64 (d : Nat))) (.int .i64 (o : Nat)) (by kernel_rfl) (HA.out) ?_
      refine wpList_sem rfl (binOp BinOp.add 3 (.int .i64 (o : Nat)) (.int .i64 (4 : Nat))) (.int .i64 (p : Nat)) (by kernel_rfl) (HA4.out) ?_
      refine wpList_sem rfl (Instr.sliceAt 22 (.slice (some ⟨g, 0, none⟩) U q) (some (.int .i64 (o : Nat))) (some (.int .i64 (p : Nat))) none) (.slice (some ⟨g, o, none⟩) 4 cc) (by kernel_rfl) (HS.out) ?_
      simp only [Act.put, List.setIfInBounds_toArray, List.set_cons_succ, List.set_cons_zero]
      go_wp2_with fail
      refine region_move_tail 22 (CW w g U E h B (.slice (some ⟨G, 0, none⟩) k c) k x) (.slice (some ⟨G, 0, none⟩) k c) (by kernel_rfl) (by kernel_rfl) H.out.drew (fun c _ _ h => HQP.out c _ _ _ _ h) (Or.inl ⟨by rfl, fun _ => by kernel_rfl⟩) ?_
      simp only [List.take_succ_cons, List.take_zero, List.drop_succ_cons, List.drop_zero]
      with_reducible refine q_val (.slice (some ⟨g, o, none⟩) 4 cc) (by kernel_rfl) (fun _ _ => by kernel_rfl) ?_
      with_reducible refine q_val (.pointer (some ⟨g, o, none⟩)) (by kernel_rfl) (fun _ _ => by kernel_rfl) ?_
      with_reducible refine q_load 5 (.tmp 77) (.pointer (some ⟨g, o, none⟩)) (.int .u8 (a0 : Nat)) rfl (by kernel_rfl) (by kernel_rfl) (fun _ c => load_u8 _ _ _ _ (HC.out _ c).1) ?_
      with_reducible refine q_v (convert 5 38 (.int .u8 (a0 : Nat))) (.int .u32 (a0 : Nat)) (by kernel_rfl) (by kernel_rfl) (fun wz _ => cv8_32 a0 HE.out.1 wz) ?_
      with_reducible refine q_v (binOp BinOp.shl 38 (.int .u32 (a0 : Nat)) (.int .u64 24)) (.int .u32 (a0 * 16777216 : Nat)) (by kernel_rfl) (by kernel_rfl) (fun wz _ => shl24 a0 HE.out.1 wz) ?_
      with_reducible refine q_val (.slice (some ⟨g, o, none⟩) 4 cc) (by kernel_rfl) (fun _ _ => by kernel_rfl) ?_
      with_reducible refine q_val (.pointer (some ⟨g, o + 1, none⟩)) (by kernel_rfl) (fun _ _ => by kernel_rfl) ?_
      with_reducible refine q_load 5 (.tmp 82) (.pointer (some ⟨g, o + 1, none⟩)) (.int .u8 (a1 : Nat)) rfl (by kernel_rfl) (by kernel_rfl) (fun _ c => load_u8 _ _ _ _ (HC.out _ c).2.1) ?_
      with_reducible refine q_v (convert 5 38 (.int .u8 (a1 : Nat))) (.int .u32 (a1 : Nat)) (by kernel_rfl) (by kernel_rfl) (fun wz _ => cv8_32 a1 HE.out.2.1 wz) ?_
      with_reducible refine q_v (binOp BinOp.shl 38 (.int .u32 (a1 : Nat)) (.int .u64 16)) (.int .u32 (a1 * 65536 : Nat)) (by kernel_rfl) (by kernel_rfl) (fun wz _ => shl16 a1 HE.out.2.1 wz) ?_
      with_reducible refine q_val (.int .u32 (bits .or .u32 ((a0 * 16777216 : Nat) : Int) ((a1 * 65536 : Nat) : Int))) (by kernel_rfl) (fun _ _ => by kernel_rfl) ?_
      with_reducible refine q_val (.slice (some ⟨g, o, none⟩) 4 cc) (by kernel_rfl) (fun _ _ => by kernel_rfl) ?_
      with_reducible refine q_val (.pointer (some ⟨g, o + 2, none⟩)) (by kernel_rfl) (fun _ _ => by kernel_rfl) ?_
      with_reducible refine q_load 5 (.tmp 88) (.pointer (some ⟨g, o + 2, none⟩)) (.int .u8 (a2 : Nat)) rfl (by kernel_rfl) (by kernel_rfl) (fun _ c => load_u8 _ _ _ _ (HC.out _ c).2.2.1) ?_
      with_reducible refine q_v (convert 5 38 (.int .u8 (a2 : Nat))) (.int .u32 (a2 : Nat)) (by kernel_rfl) (by kernel_rfl) (fun wz _ => cv8_32 a2 HE.out.2.2.1 wz) ?_
      with_reducible refine q_v (binOp BinOp.shl 38 (.int .u32 (a2 : Nat)) (.int .u64 8)) (.int .u32 (a2 * 256 : Nat)) (by kernel_rfl) (by kernel_rfl) (fun wz _ => shl08 a2 HE.out.2.2.1 wz) ?_
      with_reducible refine q_val (.int .u32 (bits .or .u32 (bits .or .u32 ((a0 * 16777216 : Nat) : Int) ((a1 * 65536 : Nat) : Int)) ((a2 * 256 : Nat) : Int))) (by kernel_rfl) (fun _ _ => by kernel_rfl) ?_
      with_reducible refine q_val (.slice (some ⟨g, o, none⟩) 4 cc) (by kernel_rfl) (fun _ _ => by kernel_rfl) ?_
      with_reducible refine q_val (.pointer (some ⟨g, o + 3, none⟩)) (by kernel_rfl) (fun _ _ => by kernel_rfl) ?_
      with_reducible refine q_load 5 (.tmp 94) (.pointer (some ⟨g, o + 3, none⟩)) (.int .u8 (a3 : Nat)) rfl (by kernel_rfl) (by kernel_rfl) (fun _ c => load_u8 _ _ _ _ (HC.out _ c).2.2.2) ?_
      with_reducible refine q_v (convert 5 38 (.int .u8 (a3 : Nat))) (.int .u32 (a3 : Nat)) (by kernel_rfl) (by kernel_rfl) (fun wz _ => cv8_32 a3 HE.out.2.2.2 wz) ?_
      with_reducible refine q_val (.int .u32 (bits .or .u32 (bits .or .u32 (bits .or .u32 ((a0 * 16777216 : Nat) : Int) ((a1 * 65536 : Nat) : Int)) ((a2 * 256 : Nat) : Int)) ((a3 : Nat) : Int))) (by kernel_rfl) (fun _ _ => by kernel_rfl) ?_
      with_reducible refine wpQuiet_nil ?_
      intro w1 hC
      simp only [Act.put, List.setIfInBounds_toArray, List.set_cons_succ, List.set_cons_zero]
      rw [show bits .or .u32 (bits .or .u32 (bits .or .u32 ((a0 * 16777216 : Nat) : Int) ((a1 * 65536 : Nat) : Int)) ((a2 * 256 : Nat) : Int)) ((a3 : Nat) : Int) = x k from HXK.out.symm]
      have H1 := Lib.hid hC
      have hul : B ≤ w1.heap.size := by have h1 := hC.own.lt G (by simp [Value.ownBlock]); omega
      have HPX := Lib.hid (px_snoc x k _ rfl)
      clear hC H HC HE HM HA HA4 HS HXK
      go_wp2_with (at_builtin; refine wpList_append_lies _ rfl _ _ 37 rfl B 38 i0 (.int .u32 0) 1 4 Tryd.underlying37 hi hz0 hz1 hz2 rfl (by decide) _ k (px x k) rfl (World.ownsRow.alloc H1.out.own _) ⟨w1.heap.size, 0, none⟩ 1 1 [.int .u32 (x k)] rfl rfl (one_new32 _ _) (by intro u hu; simp at hu; subst hu; rfl) (by omega) (by unfold maxLen; omega) (by omega) (by simp; omega) (w1.heap.size + 1) (by simp) ?_; intro g2 c2 w3 hown3 hgrow hat hlt3)
      rw [HPX.out] at hown3
      have HQ2 := Lib.hid (show CW w g U E h B (.slice (some ⟨g2, 0, none⟩) (k + 1) c2) (k + 1) x w3 from ⟨(H1.out.ch.below ((Below.refl _ _).alloc (Nat.le_refl _) _)).keep (G := G) hgrow (by have h1 := (H1.out.own.lt G (by simp [Value.ownBlock])).1; have h2 := H1.out.lt; omega), hown3, H1.out.lt⟩)
      clear hgrow hat hlt3 hown3 H1 hul HPX
      go_roundw
      case rel => exact ⟨k + 1, g2, c2, by omega, by go_num, rfl, HQ2⟩
      case measure => simp [intOf]; omega
    · obtain rfl : k = 16 := by omega
      rw [show (((16 : Nat) : Int)) = (16 : Int) from rfl]
      have HB := Lib.hid H.out
      clear H
      go_wp2_with fail
      exact HQ.out _ _ _ _ _ _ _ _ _ _ _ _ _ _ _ _ _ _ _ _ _ _ _ _ _ _ _ _ _ _ _ _ _ _ _ _ _ _ _ _ _ _ _ _ HB.out
end Go.Proofs.YtkecehcnoihiiaaDoor
namespace Go.Proofs.YtkecehcnoihiiaaDoor
open Go.RowKit

theorem ixS (G k c j : Nat) (h : j < k) (w : World) : (Instr.indexAt 37 (.slice (some ⟨G, 0, none⟩) k c) (.int .i64 (j : Nat))).run Tryd.prog w = .ok (.pointer (some ⟨G, j, none⟩)) w := by
  have h0 : (0 : Int) ≤ j := by omega
  have h1 : (j : Int) < k := by omega
  go_simp
theorem shr32u (z : Int) (s : Nat) (hs : s < 32) (w : World) : (binOp BinOp.shr 38 (.int .u32 z) (.int .u64 (s : Nat))).run Tryd.prog w = .ok (.int .u32 (z / 2 ^ s)) w := by
  have hs0 : (0 : Int) ≤ s := by omega
  have hs1 : (s : Int) < 32 := by omega
  go_simp
theorem CW.ld {w wx : World} {g L B k G c : Nat} {E : Nat → Nat} {h : Nat → Int} {x : Nat → Int} (cx : CW w g L E h B (.slice (some ⟨G, 0, none⟩) k c) k x wx) (j : Nat) (hj : j < k) (z : Int) (hz : x j = z) : (Instr.loadAt 38 (.pointer (some ⟨G, j, none⟩))).run Tryd.prog wx = .ok (.int .u32 z) wx :=
  load_u32 _ _ _ _ (by rw [← hz]; exact (cx.own.cellAt j (by omega)).trans (px_at _ _ _ hj))
set_option maxRecDepth 100000 in
set_option maxHeartbeats 8000000 in
-- THE OTHER FORTY-EIGHT NUMBERS.
theorem hash_b8 {w wa : World} {g U B G0 c0 : Nat} {E : Nat → Nat} {h x : Nat → Int} (hx : ∀ j, 16 ≤ j → j < 64 → x j = (shf 17 19 10 (x (j - 2)) + x (j - 7) + shf 7 18 3 (x (j - 15)) + x (j - 16)) % 4294967296) (hc : CW w g U E h B (.slice (some ⟨G0, 0, none⟩) 16 c0) 16 x wa) {Q : Exit → Act → World → Prop}
    {s0 s1 s2 s3 s4 s5 s6 s7 s8 s9 s10 s12 s13 s15 s16 s17 s18 s19 s20 s21 s22 s23 s24 s25 s26 s27 s28 s29 s30 s31 s32 s33 s34 s35 s36 s37 s38 s39 s40 s41 s42 s43 s44 s45 s46 s47 s48 s49 s50 s51 s52 s53 s54 s55 s56 s57 s58 s59 s60 s61 s62 s63 s64 s65 s66 s67 s68 s69 s70 s71 s72 s73 s74 s75 s76 s77 s78 s79 s80 s81 s82 s83 s84 s85 s86 s87 s88 s89 s90 s91 s92 s93 s94 s95 s96 s97 s98 s99 s100 s101 s102 s103 s104 s105 s106 s107 s108 s109 s110 s111 s112 s113 s114 s115 s116 s117 s118 s119 s120 s121 s122 s123 s124 s125 s126 s127 s128 s129 s130 s131 s132 s133 s134 s135 s136 s137 s138 s139 s140 s141 s142 s143 s144 s145 s146 s147 s148 s149 s150 s151 s152 s153 s154 s155 s156 s157 s158 s159 s160 s161 s162 s163 s164 s165 s166 s167 s168 s169 s170 s171 s172 s173 s174 s175 s176 s177 s178 s179 s180 s181 s182 s183 s184 s185 s186 s187 s188 s189 s190 s191 s192 s193 s194 s195 s196 s197 s198 s199 s200 s201 s202 s203 s204 s205 s206 s207 s208 s209 s210 s211 s212 s213 s214 s215 s216 s217 s218 s219 s220 s221 s222 s223 s224 s225 s226 s227 s228 s229 s230 s231 s232 s233 s234 s235 s236 s237 s238 s239 s240 s241 s242 s243 s244 s245 s246 s247 s248 s249 s250 s251 s252 s253 s254 s255 s256 s257 s258 s259 s260 s261 s262 s263 s264 s265 s266 s267 s268 : Value} (hQP : ∀ c (a : Act) d v w, Q (.panic c) (a.put d v) w → Q (.panic c) a w) (hQ : ∀ (u15 u16 u100 u101 u102 u103 u104 u105 u106 u107 u108 u109 u110 u111 u112 u113 u114 u115 u116 u117 u118 u119 u120 u121 u122 u123 u124 u125 u126 u127 u128 u129 u130 u131 u132 u133 u134 u135 u136 u137 u138 u139 u140 u141 u142 u143 u144 u145 : Value) (G c : Nat) (wx : World), CW w g U E h B (.slice (some ⟨G, 0, none⟩) 64 c) 64 x wx → Q .normal ⟨(s0 :: s1 :: s2 :: s3 :: s4 :: s5 :: s6 :: s7 :: s8 :: s9 :: s10 :: .slice (some ⟨G, 0, none⟩) 64 c :: s12 :: s13 :: .int .i64 64 :: u15 :: u16 :: s17 :: s18 :: s19 :: s20 :: s21 :: s22 :: s23 :: s24 :: s25 :: s26 :: s27 :: s28 :: s29 :: s30 :: s31 :: s32 :: s33 :: s34 :: s35 :: s36 :: s37 :: s38 :: s39 :: s40 :: s41 :: s42 :: s43 :: s44 :: s45 :: s46 :: s47 :: s48 :: s49 :: s50 :: s51 :: s52 :: s53 :: s54 :: s55 :: s56 :: s57 :: s58 :: s59 :: s60 :: s61 :: s62 :: s63 :: s64 :: s65 :: s66 :: s67 :: s68 :: s69 :: s70 :: s71 :: s72 :: s73 :: s74 :: s75 :: s76 :: s77 :: s78 :: s79 :: s80 :: s81 :: s82 :: s83 :: s84 :: s85 :: s86 :: s87 :: s88 :: s89 :: s90 :: s91 :: s92 :: s93 :: s94 :: s95 :: s96 :: s97 :: s98 :: s99 :: u100 :: u101 :: u102 :: u103 :: u104 :: u105 :: u106 :: u107 :: u108 :: u109 :: u110 :: u111 :: u112 :: u113 :: u114 :: u115 :: u116 :: u117 :: u118 :: u119 :: u120 :: u121 :: u122 :: u123 :: u124 :: u125 :: u126 :: u127 :: u128 :: u129 :: u130 :: u131 :: u132 :: u133 :: u134 :: u135 :: u136 :: u137 :: u138 :: u139 :: u140 :: u141 :: u142 :: u143 :: u144 :: u145 :: s146 :: s147 :: s148 :: s149 :: s150 :: s151 :: s152 :: s153 :: s154 :: s155 :: s156 :: s157 :: s158 :: s159 :: s160 :: s161 :: s162 :: s163 :: s164 :: s165 :: s166 :: s167 :: s168 :: s169 :: s170 :: s171 :: s172 :: s173 :: s174 :: s175 :: s176 :: s177 :: s178 :: s179 :: s180 :: s181 :: s182 :: s183 :: s184 :: s185 :: s186 :: s187 :: s188 :: s189 :: s190 :: s191 :: s192 :: s193 :: s194 :: s195 :: s196 :: s197 :: s198 :: s199 :: s200 :: s201 :: s202 :: s203 :: s204 :: s205 :: s206 :: s207 :: s208 :: s209 :: s210 :: s211 :: s212 :: s213 :: s214 :: s215 :: s216 :: s217 :: s218 :: s219 :: s220 :: s221 :: s222 :: s223 :: s224 :: s225 :: s226 :: s227 :: s228 :: s229 :: s230 :: s231 :: s232 :: s233 :: s234 :: s235 :: s236 :: s237 :: s238 :: s239 :: s240 :: s241 :: s242 :: s243 :: s244 :: s245 :: s246 :: s247 :: s248 :: s249 :: s250 :: s251 :: s252 :: s253 :: s254 :: s255 :: s256 :: s257 :: s258 :: s259 :: s260 :: s261 :: s262 :: s263 :: s264 :: s265 :: s266 :: s267 :: s268 :: []).toArray, []⟩ wx) : ((Tryd.f15.body.bind (blkIn 8)).getD .skip).wp Tryd.prog Q ⟨(s0 :: s1 :: s2 :: s3 :: s4 :: s5 :: s6 :: s7 :: s8 :: s9 :: s10 :: .slice (some ⟨G0, 0, none⟩) 16 c0 :: s12 :: s13 :: .int .i64 16 :: s15 :: s16 :: s17 :: s18 :: s19 :: s20 :: s21 :: s22 :: s23 :: s24 :: s25 :: s26 :: s27 :: s28 :: s29 :: s30 :: s31 :: s32 :: s33 :: s34 :: s35 :: s36 :: s37 :: s38 :: s39 :: s40 :: s41 :: s42 :: s43 :: s44 :: s45 :: s46 :: s47 :: s48 :: s49 :: s50 :: s51 :: s52 :: s53 :: s54 :: s55 :: s56 :: s57 :: s58 :: s59 :: s60 :: s61 :: s62 :: s63 :: s64 :: s65 :: s66 :: s67 :: s68 :: s69 :: s70 :: s71 :: s72 :: s73 :: s74 :: s75 :: s76 :: s77 :: s78 :: s79 :: s80 :: s81 :: s82 :: s83 :: s84 :: s85 :: s86 :: s87 :: s88 :: s89 :: s90 :: s91 :: s92 :: s93 :: s94 :: s95 :: s96 :: s97 :: s98 :: s99 :: s100 :: s101 :: s102 :: s103 :: s104 :: s105 :: s106 :: s107 :: s108 :: s109 :: s110 :: s111 :: s112 :: s113 :: s114 :: s115 :: s116 :: s117 :: s118 :: s119 :: s120 :: s121 :: s122 :: s123 :: s124 :: s125 :: s126 :: s127 :: s128 :: s129 :: s130 :: s131 :: s132 :: s133 :: s134 :: s135 :: s136 :: s137 :: s138 :: s139 :: s140 :: s141 :: s142 :: s143 :: s144 :: s145 :: s146 :: s147 :: s148 :: s149 :: s150 :: s151 :: s152 :: s153 :: s154 :: s155 :: s156 :: s157 :: s158 :: s159 :: s160 :: s161 :: s162 :: s163 :: s164 :: s165 :: s166 :: s167 :: s168 :: s169 :: s170 :: s171 :: s172 :: s173 :: s174 :: s175 :: s176 :: s177 :: s178 :: s179 :: s180 :: s181 :: s182 :: s183 :: s184 :: s185 :: s186 :: s187 :: s188 :: s189 :: s190 :: s191 :: s192 :: s193 :: s194 :: s195 :: s196 :: s197 :: s198 :: s199 :: s200 :: s201 :: s202 :: s203 :: s204 :: s205 :: s206 :: s207 :: s208 :: s209 :: s210 :: s211 :: s212 :: s213 :: s214 :: s215 :: s216 :: s217 :: s218 :: s219 :: s220 :: s221 :: s222 :: s223 :: s224 :: s225 :: s226 :: s227 :: s228 :: s229 :: s230 :: s231 :: s232 :: s233 :: s234 :: s235 :: s236 :: s237 :: s238 :: s239 :: s240 :: s241 :: s242 :: s243 :: s244 :: s245 :: s246 :: s247 :: s248 :: s249 :: s250 :: s251 :: s252 :: s253 :: s254 :: s255 :: s256 :: s257 :: s258 :: s259 :: s260 :: s261 :: s262 :: s263 :: s264 :: s265 :: s266 :: s267 :: s268 :: []).toArray, []⟩ wa := by
  conv => arg 2; whnf
  have HQ := Lib.hid hQ
  have HQP := Lib.hid hQP
  have HX := Lib.hid hx
  have H0 := Lib.hid hc
  clear hQ hQP hx hc
  obtain ⟨i0, hi, hz0, hz1, hz2⟩ := info_partsU infoU32
  go_wp2_with fail
  go_loopw [11, 14] (fun v i wr => ∃ k G c : Nat, 16 ≤ k ∧ k ≤ 64 ∧ i = .int .i64 (k : Nat) ∧ v = .slice (some ⟨G, 0, none⟩) k c ∧ Hid (CW w g U E h B v k x wr)) (fun _ i _ => 64 - (intOf i).toNat)
  case atStart => exact ⟨16, G0, c0, by omega, by omega, rfl, rfl, H0⟩
  case round =>
    obtain ⟨k, G, c, hk16, hk, rfl, rfl, H⟩ := hrel
    clear H0
    have hk0 : (0 : Int) ≤ k := by omega
    by_cases hlt : k < 64
    · have hlt' : (k : Int) < 64 := by omega
      obtain ⟨i2, e2⟩ : ∃ i, k - 2 = i := ⟨_, rfl⟩
      obtain ⟨i7, e7⟩ : ∃ i, k - 7 = i := ⟨_, rfl⟩
      obtain ⟨i15, e15⟩ : ∃ i, k - 15 = i := ⟨_, rfl⟩
      obtain ⟨i16, e16⟩ : ∃ i, k - 16 = i := ⟨_, rfl⟩
      have hxk := HX.out k hk16 hlt
      rw [e2, e7, e15, e16] at hxk
      have HL := Lib.hid (show i2 < k ∧ i7 < k ∧ i15 < k ∧ i16 < k from by omega)
      have HS2 := Lib.hid (subI (a := k) (b := 2) (c := i2) (by omega) (by omega))
      have HS7 := Lib.hid (subI (a := k) (b := 7) (c := i7) (by omega) (by omega))
      have HS15 := Lib.hid (subI (a := k) (b := 15) (c := i15) (by omega) (by omega))
      have HS16 := Lib.hid (subI (a := k) (b := 16) (c := i16) (by omega) (by omega))
      obtain ⟨b, hb⟩ : ∃ b, x i2 = b := ⟨_, rfl⟩
      obtain ⟨d, hd⟩ : ∃ b, x i7 = b := ⟨_, rfl⟩
      obtain ⟨a, ha⟩ : ∃ b, x i15 = b := ⟨_, rfl⟩
      obtain ⟨e, he⟩ : ∃ b, x i16 = b := ⟨_, rfl⟩
      rw [hb, hd, ha, he] at hxk
      have HXK := Lib.hid hxk
      have HV := Lib.hid (And.intro hb (And.intro hd (And.intro ha he)))
      clear e2 e7 e15 e16 hxk hb hd ha he
      go_upto_region 20 with fail
      refine wp_region_quiet (C := CW w g U E h B (.slice (some ⟨G, 0, none⟩) k c) k x) (by kernel_rfl) (by kernel_rfl) H.out.drew ?_
      with_reducible refine q_val (.slice (some ⟨G, 0, none⟩) k c) (by kernel_rfl) (fun _ _ => by kernel_rfl) ?_
      with_reducible refine q_val (.int .i64 (k : Nat)) (by kernel_rfl) (fun _ _ => by kernel_rfl) ?_
      with_reducible refine q_v (binOp BinOp.sub 3 (.int .i64 (k : Nat)) (.int .i64 (15 : Nat))) (.int .i64 (i15 : Nat)) (by kernel_rfl) (by kernel_rfl) (fun wz _ => HS15.out wz) ?_
      with_reducible refine q_v (Instr.indexAt 37 (.slice (some ⟨G, 0, none⟩) k c) (.int .i64 (i15 : Nat))) (.pointer (some ⟨G, i15, none⟩)) (by kernel_rfl) (by kernel_rfl) (fun wz _ => ixS G k c i15 HL.out.2.2.1 wz) ?_
      with_reducible refine q_load 38 (.tmp 107) (.pointer (some ⟨G, i15, none⟩)) (.int .u32 a) rfl (by kernel_rfl) (by kernel_rfl) (fun _ c => c.ld i15 HL.out.2.2.1 _ HV.out.2.2.1) ?_
      with_reducible refine q_val (.slice (some ⟨G, 0, none⟩) k c) (by kernel_rfl) (fun _ _ => by kernel_rfl) ?_
      with_reducible refine q_val (.int .i64 (k : Nat)) (by kernel_rfl) (fun _ _ => by kernel_rfl) ?_
      with_reducible refine q_v (binOp BinOp.sub 3 (.int .i64 (k : Nat)) (.int .i64 (2 : Nat))) (.int .i64 (i2 : Nat)) (by kernel_rfl) (by kernel_rfl) (fun wz _ => HS2.out wz) ?_
      with_reducible refine q_v (Instr.indexAt 37 (.slice (some ⟨G, 0, none⟩) k c) (.int .i64 (i2 : Nat))) (.pointer (some ⟨G, i2, none⟩)) (by kernel_rfl) (by kernel_rfl) (fun wz _ => ixS G k c i2 HL.out.1 wz) ?_
      with_reducible refine q_load 38 (.tmp 112) (.pointer (some ⟨G, i2, none⟩)) (.int .u32 b) rfl (by kernel_rfl) (by kernel_rfl) (fun _ c => c.ld i2 HL.out.1 _ HV.out.1) ?_
      with_reducible refine q_val (.int .u32 a) (by kernel_rfl) (fun _ _ => by kernel_rfl) ?_
      with_reducible refine q_val (.int .u32 b) (by kernel_rfl) (fun _ _ => by kernel_rfl) ?_
      with_reducible refine wpQuiet_nil ?_
      intro w1 hC
      simp only [Act.put, List.setIfInBounds_toArray, List.set_cons_succ, List.set_cons_zero]
      have H1 := Lib.hid hC
      clear hC H
      go_upto_region 21 with fail
      refine region_move_tail 29 (CW w g U E h B (.slice (some ⟨G, 0, none⟩) k c) k x) (.slice (some ⟨G, 0, none⟩) k c) (by kernel_rfl) (by kernel_rfl) H1.out.drew (fun c _ _ h => HQP.out c _ _ _ _ h) (Or.inl ⟨by rfl, fun _ => by kernel_rfl⟩) ?_
      simp only [List.take_succ_cons, List.take_zero, List.drop_succ_cons, List.drop_zero]
      with_reducible refine q_val (.int .u32 b) (by kernel_rfl) (fun _ _ => by kernel_rfl) ?_
      with_reducible refine q_call 24 #[.int .u32 b, .int .i64 17] (.int .u32 (rdn 17 b)) (by kernel_rfl) (fun _ => by kernel_rfl) (fun wx c => (hrdown 17 (by decide) (by decide) b wx).mono fun e w' hh => ⟨hh.1, by rw [hh.2]; exact c⟩) ?_
      with_reducible refine q_val (.int .u32 b) (by kernel_rfl) (fun _ _ => by kernel_rfl) ?_
      with_reducible refine q_call 24 #[.int .u32 b, .int .i64 19] (.int .u32 (rdn 19 b)) (by kernel_rfl) (fun _ => by kernel_rfl) (fun wx c => (hrdown 19 (by decide) (by decide) b wx).mono fun e w' hh => ⟨hh.1, by rw [hh.2]; exact c⟩) ?_
      with_reducible refine q_val (.int .u32 (bits .xor .u32 (rdn 17 b) (rdn 19 b))) (by kernel_rfl) (fun _ _ => by kernel_rfl) ?_
      with_reducible refine q_val (.int .u32 b) (by kernel_rfl) (fun _ _ => by kernel_rfl) ?_
      with_reducible refine q_v (binOp BinOp.shr 38 (.int .u32 b) (.int .u64 (10 : Nat))) (.int .u32 (b / 2 ^ 10)) (by kernel_rfl) (by kernel_rfl) (fun wz _ => shr32u b 10 (by decide) wz) ?_
      with_reducible refine q_val (.int .u32 (shf 17 19 10 b)) (by kernel_rfl) (fun _ _ => by kernel_rfl) ?_
      with_reducible refine q_val (.slice (some ⟨G, 0, none⟩) k c) (by kernel_rfl) (fun _ _ => by kernel_rfl) ?_
      with_reducible refine q_val (.int .i64 (k : Nat)) (by kernel_rfl) (fun _ _ => by kernel_rfl) ?_
      with_reducible refine q_v (binOp BinOp.sub 3 (.int .i64 (k : Nat)) (.int .i64 (7 : Nat))) (.int .i64 (i7 : Nat)) (by kernel_rfl) (by kernel_rfl) (fun wz _ => HS7.out wz) ?_
      with_reducible refine q_v (Instr.indexAt 37 (.slice (some ⟨G, 0, none⟩) k c) (.int .i64 (i7 : Nat))) (.pointer (some ⟨G, i7, none⟩)) (by kernel_rfl) (by kernel_rfl) (fun wz _ => ixS G k c i7 HL.out.2.1 wz) ?_
      with_reducible refine q_load 38 (.tmp 126) (.pointer (some ⟨G, i7, none⟩)) (.int .u32 d) rfl (by kernel_rfl) (by kernel_rfl) (fun _ c => c.ld i7 HL.out.2.1 _ HV.out.2.1) ?_
      with_reducible refine q_val (.int .u32 (IntKind.u32.wrap (shf 17 19 10 b + d))) (by kernel_rfl) (fun _ _ => by kernel_rfl) ?_
      with_reducible refine q_val (.int .u32 a) (by kernel_rfl) (fun _ _ => by kernel_rfl) ?_
      with_reducible refine q_call 24 #[.int .u32 a, .int .i64 7] (.int .u32 (rdn 7 a)) (by kernel_rfl) (fun _ => by kernel_rfl) (fun wx c => (hrdown 7 (by decide) (by decide) a wx).mono fun e w' hh => ⟨hh.1, by rw [hh.2]; exact c⟩) ?_
      with_reducible refine q_val (.int .u32 a) (by kernel_rfl) (fun _ _ => by kernel_rfl) ?_
      with_reducible refine q_call 24 #[.int .u32 a, .int .i64 18] (.int .u32 (rdn 18 a)) (by kernel_rfl) (fun _ => by kernel_rfl) (fun wx c => (hrdown 18 (by decide) (by decide) a wx).mono fun e w' hh => ⟨hh.1, by rw [hh.2]; exact c⟩) ?_
      with_reducible refine q_val (.int .u32 (bits .xor .u32 (rdn 7 a) (rdn 18 a))) (by kernel_rfl) (fun _ _ => by kernel_rfl) ?_
      with_reducible refine q_val (.int .u32 a) (by kernel_rfl) (fun _ _ => by kernel_rfl) ?_
      with_reducible refine q_v (binOp BinOp.shr 38 (.int .u32 a) (.int .u64 (3 : Nat))) (.int .u32 (a / 2 ^ 3)) (by kernel_rfl) (by kernel_rfl) (fun wz _ => shr32u a 3 (by decide) wz) ?_
      with_reducible refine q_val (.int .u32 (shf 7 18 3 a)) (by kernel_rfl) (fun _ _ => by kernel_rfl) ?_
      with_reducible refine q_val (.int .u32 (IntKind.u32.wrap (IntKind.u32.wrap (shf 17 19 10 b + d) + shf 7 18 3 a))) (by kernel_rfl) (fun _ _ => by kernel_rfl) ?_
      with_reducible refine q_val (.slice (some ⟨G, 0, none⟩) k c) (by kernel_rfl) (fun _ _ => by kernel_rfl) ?_
      with_reducible refine q_val (.int .i64 (k : Nat)) (by kernel_rfl) (fun _ _ => by kernel_rfl) ?_
      with_reducible refine q_v (binOp BinOp.sub 3 (.int .i64 (k : Nat)) (.int .i64 (16 : Nat))) (.int .i64 (i16 : Nat)) (by kernel_rfl) (by kernel_rfl) (fun wz _ => HS16.out wz) ?_
      with_reducible refine q_v (Instr.indexAt 37 (.slice (some ⟨G, 0, none⟩) k c) (.int .i64 (i16 : Nat))) (.pointer (some ⟨G, i16, none⟩)) (by kernel_rfl) (by kernel_rfl) (fun wz _ => ixS G k c i16 HL.out.2.2.2 wz) ?_
      with_reducible refine q_load 38 (.tmp 141) (.pointer (some ⟨G, i16, none⟩)) (.int .u32 e) rfl (by kernel_rfl) (by kernel_rfl) (fun _ c => c.ld i16 HL.out.2.2.2 _ HV.out.2.2.2) ?_
      with_reducible refine q_val (.int .u32 (IntKind.u32.wrap (IntKind.u32.wrap (IntKind.u32.wrap (shf 17 19 10 b + d) + shf 7 18 3 a) + e))) (by kernel_rfl) (fun _ _ => by kernel_rfl) ?_
      with_reducible refine wpQuiet_nil ?_
      intro w2 hC
      simp only [Act.put, List.setIfInBounds_toArray, List.set_cons_succ, List.set_cons_zero]
      rw [wrap3, show (shf 17 19 10 b + d + shf 7 18 3 a + e) % 4294967296 = x k from HXK.out.symm]
      have H2 := Lib.hid hC
      have hul : B ≤ w2.heap.size := by have h1 := hC.own.lt G (by simp [Value.ownBlock]); omega
      have HPX := Lib.hid (px_snoc x k _ rfl)
      clear hC H1 HS2 HS7 HS15 HS16 HXK HV HL
      go_wp2_with (at_builtin; refine wpList_append_lies _ rfl _ _ 37 rfl B 38 i0 (.int .u32 0) 1 4 Tryd.underlying37 hi hz0 hz1 hz2 rfl (by decide) _ k (px x k) rfl (World.ownsRow.alloc H2.out.own _) ⟨w2.heap.size, 0, none⟩ 1 1 [.int .u32 (x k)] rfl rfl (one_new32 _ _) (by intro u hu; simp at hu; subst hu; rfl) (by omega) (by unfold maxLen; omega) (by omega) (by simp; omega) (w2.heap.size + 1) (by simp) ?_; intro g2 c2 w3 hown3 hgrow hat hlt3)
      rw [HPX.out] at hown3
      have HQ2 := Lib.hid (show CW w g U E h B (.slice (some ⟨g2, 0, none⟩) (k + 1) c2) (k + 1) x w3 from ⟨(H2.out.ch.below ((Below.refl _ _).alloc (Nat.le_refl _) _)).keep (G := G) hgrow (by have h1 := (H2.out.own.lt G (by simp [Value.ownBlock])).1; have h2 := H2.out.lt; omega), hown3, H2.out.lt⟩)
      clear hgrow hat hlt3 hown3 H2 hul HPX
      go_roundw
      case rel => exact ⟨k + 1, g2, c2, by omega, by omega, by go_num, rfl, HQ2⟩
      case measure => simp [intOf]; omega
    · obtain rfl : k = 64 := by omega
      rw [show (((64 : Nat) : Int)) = (64 : Int) from rfl]
      have HB := Lib.hid H.out
      clear H
      go_wp2_with fail
      exact HQ.out _ _ _ _ _ _ _ _ _ _ _ _ _ _ _ _ _ _ _ _ _ _ _ _ _ _ _ _ _ _ _ _ _ _ _ _ _ _ _ _ _ _ _ _ _ _ _ _ _ _ _ HB.out
end Go.Proofs.YtkecehcnoihiiaaDoor
namespace Go.Proofs.YtkecehcnoihiiaaDoor
open Go.RowKit

/-- The worlds of a block while its rounds are gone through: its numbers at G, the eight at V. -/
structure CV (w : World) (g L : Nat) (E : Nat → Nat) (h : Nat → Int) (G V : Nat) (x v : Nat → Int) (wx : World) : Prop where
  ch : CH w g L E h wx
  wl : ∀ j, j < 64 → wx.cell? ⟨G, j, none⟩ = some (.int .u32 (x j))
  rv : wx.heap[V]? = some (.cells (ar .u32 8 v) 39 (0, 0))
  lt : g < V ∧ G ≠ V
theorem CV.drew {w wx : World} {g L G V : Nat} {E : Nat → Nat} {h x v : Nat → Int} (c : CV w g L E h G V x v wx) : CV w g L E h G V x v wx.drew := ⟨c.ch.drew, fun j hj => (drew_cell _ _).trans (c.wl j hj), c.rv, c.lt⟩
theorem CV.cell {w wx : World} {g L G V : Nat} {E : Nat → Nat} {h x v : Nat → Int} (c : CV w g L E h G V x v wx) (j : Nat) (hj : j < 8) : wx.cell? ⟨V, j, none⟩ = some (.int .u32 (v j)) := (cell_of_row wx _ j _ _ _ c.rv).trans (ar_at _ _ _ _ hj)
theorem CV.ld {w wx : World} {g L G V : Nat} {E : Nat → Nat} {h x v : Nat → Int} (c : CV w g L E h G V x v wx) (j : Nat) (hj : j < 8) : (Instr.loadAt 38 (.pointer (some ⟨V, j, none⟩))).run Tryd.prog wx = .ok (.int .u32 (v j)) wx := load_u32 _ _ _ _ (c.cell j hj)
theorem CV.row {w wx : World} {g L G V : Nat} {E : Nat → Nat} {h x v : Nat → Int} (c : CV w g L E h G V x v wx) (u : Nat → Int) : CV w g L E h G V x u (wx.setRow V (ar .u32 8 u)) := by
  have l := c.ch.hg
  have l2 := c.lt
  have ho : ∀ p : Addr, p.block ≠ V → (wx.setRow V (ar .u32 8 u)).cell? p = wx.cell? p := fun p hp => World.cell?_of_block (w := wx) (setRow_other _ _ _ _ hp)
  exact ⟨⟨below_setRow c.ch.old (by omega) _, (setRow_other _ _ _ _ (by omega)).trans c.ch.r0, (setRow_other _ _ _ _ (by omega)).trans c.ch.r1, fun j hj => (ho ⟨g, j, none⟩ (by show g ≠ V; omega)).trans (c.ch.by8 j hj), l.1, by rw [setRow_size]; exact l.2⟩, fun j hj => (ho ⟨G, j, none⟩ l2.2).trans (c.wl j hj), setRow_heap _ _ _ _ _ _ c.rv, l2⟩
theorem infoEight : (Tryd.prog.info? 39).map (·.size) = some 8 := by kernel_rfl
theorem stp_lit (k x : Int) (v : Nat → Int) (T1 T2 : Int) (h1 : rT1 k x v = T1) (h2 : rT2 v = T2) : ar .u32 8 (stp k x v) = #[.int .u32 (IntKind.u32.wrap (T1 + T2)), .int .u32 (v 0), .int .u32 (v 1), .int .u32 (v 2), .int .u32 (IntKind.u32.wrap (v 3 + T1)), .int .u32 (v 4), .int .u32 (v 5), .int .u32 (v 6)] := by
  rw [ar8_lit, wrap1, wrap1, ← h1, ← h2]
  rfl
set_option maxRecDepth 100000 in
set_option maxHeartbeats 8000000 in
-- SIXTY-FOUR ROUNDS.
theorem hash_b10 {w wa : World} {g U G V c kg kc : Nat} {E : Nat → Nat} {h x : Nat → Int} (hK : kg < w.heap.size ∧ ∀ j, j < 64 → w.cell? ⟨kg, j, none⟩ = some (.int .u32 (kT j))) (hc : CV w g U E h G V x h wa) {Q : Exit → Act → World → Prop}
    {s0 s2 s3 s4 s5 s6 s7 s8 s9 s10 s12 s13 s14 s15 s16 s19 s20 s21 s22 s23 s24 s25 s26 s27 s28 s29 s30 s31 s32 s33 s34 s35 s36 s37 s38 s39 s40 s41 s42 s43 s44 s45 s46 s47 s48 s49 s50 s51 s52 s53 s54 s55 s56 s57 s58 s59 s60 s61 s62 s63 s64 s65 s66 s67 s68 s69 s70 s71 s72 s73 s74 s75 s76 s77 s78 s79 s80 s81 s82 s83 s84 s85 s86 s87 s88 s89 s90 s91 s92 s93 s94 s95 s96 s97 s98 s99 s100 s101 s102 s103 s104 s105 s106 s107 s108 s109 s110 s111 s112 s113 s114 s115 s116 s117 s118 s119 s120 s121 s122 s123 s124 s125 s126 s127 s128 s129 s130 s131 s132 s133 s134 s135 s136 s137 s138 s139 s140 s141 s142 s143 s144 s145 s146 s147 s148 s149 s150 s151 s152 s153 s154 s155 s156 s157 s158 s159 s160 s161 s162 s163 s164 s165 s166 s167 s168 s169 s170 s171 s172 s173 s174 s175 s176 s177 s178 s179 s180 s181 s182 s183 s184 s185 s186 s187 s188 s189 s190 s191 s192 s193 s194 s195 s196 s197 s198 s199 s200 s201 s202 s203 s204 s205 s206 s207 s208 s209 s210 s211 s212 s213 s214 s215 s216 s217 s218 s219 s220 s221 s222 s223 s224 s225 s226 s227 s228 s229 s230 s231 s232 s233 s234 s235 s236 s237 s238 s239 s240 s241 s242 s243 s244 s245 s246 s247 s248 s249 s250 s251 s252 s253 s254 s255 s256 s257 s258 s259 s260 s261 s262 s263 s264 s265 s266 s267 s268 : Value} (hQ : ∀ (u19 u20 u147 u148 u149 u150 u151 u152 u153 u154 u155 u156 u157 u158 u159 u160 u161 u162 u163 u164 u165 u166 u167 u168 u169 u170 u171 u172 u173 u174 u175 u176 u177 u178 u179 u180 u181 u182 u183 u184 u185 u186 u187 u188 u189 u190 u191 u192 u193 u194 u195 u196 u197 u198 u199 u200 u201 u202 u203 u204 u205 u206 u207 u208 u209 u210 u211 u212 u213 u214 u215 u216 u217 u218 u219 u220 u221 u222 u223 u224 u225 u226 u227 u228 u229 u230 u231 u232 u233 u234 u235 u236 : Value) (wx : World), CV w g U E h G V x (rds h x 64) wx → Q .normal ⟨(s0 :: .slice (some ⟨kg, 0, none⟩) 64 kc :: s2 :: s3 :: s4 :: s5 :: s6 :: s7 :: s8 :: s9 :: s10 :: .slice (some ⟨G, 0, none⟩) 64 c :: s12 :: s13 :: s14 :: s15 :: s16 :: .pointer (some ⟨V, 0, none⟩) :: .int .i64 64 :: u19 :: u20 :: s21 :: s22 :: s23 :: s24 :: s25 :: s26 :: s27 :: s28 :: s29 :: s30 :: s31 :: s32 :: s33 :: s34 :: s35 :: s36 :: s37 :: s38 :: s39 :: s40 :: s41 :: s42 :: s43 :: s44 :: s45 :: s46 :: s47 :: s48 :: s49 :: s50 :: s51 :: s52 :: s53 :: s54 :: s55 :: s56 :: s57 :: s58 :: s59 :: s60 :: s61 :: s62 :: s63 :: s64 :: s65 :: s66 :: s67 :: s68 :: s69 :: s70 :: s71 :: s72 :: s73 :: s74 :: s75 :: s76 :: s77 :: s78 :: s79 :: s80 :: s81 :: s82 :: s83 :: s84 :: s85 :: s86 :: s87 :: s88 :: s89 :: s90 :: s91 :: s92 :: s93 :: s94 :: s95 :: s96 :: s97 :: s98 :: s99 :: s100 :: s101 :: s102 :: s103 :: s104 :: s105 :: s106 :: s107 :: s108 :: s109 :: s110 :: s111 :: s112 :: s113 :: s114 :: s115 :: s116 :: s117 :: s118 :: s119 :: s120 :: s121 :: s122 :: s123 :: s124 :: s125 :: s126 :: s127 :: s128 :: s129 :: s130 :: s131 :: s132 :: s133 :: s134 :: s135 :: s136 :: s137 :: s138 :: s139 :: s140 :: s141 :: s142 :: s143 :: s144 :: s145 :: s146 :: u147 :: u148 :: u149 :: u150 :: u151 :: u152 :: u153 :: u154 :: u155 :: u156 :: u157 :: u158 :: u159 :: u160 :: u161 :: u162 :: u163 :: u164 :: u165 :: u166 :: u167 :: u168 :: u169 :: u170 :: u171 :: u172 :: u173 :: u174 :: u175 :: u176 :: u177 :: u178 :: u179 :: u180 :: u181 :: u182 :: u183 :: u184 :: u185 :: u186 :: u187 :: u188 :: u189 :: u190 :: u191 :: u192 :: u193 :: u194 :: u195 :: u196 :: u197 :: u198 :: u199 :: u200 :: u201 :: u202 :: u203 :: u204 :: u205 :: u206 :: u207 :: u208 :: u209 :: u210 :: u211 :: u212 :: u213 :: u214 :: u215 :: u216 :: u217 :: u218 :: u219 :: u220 :: u221 :: u222 :: u223 :: u224 :: u225 :: u226 :: u227 :: u228 :: u229 :: u230 :: u231 :: u232 :: u233 :: u234 :: u235 :: u236 :: s237 :: s238 :: s239 :: s240 :: s241 :: s242 :: s243 :: s244 :: s245 :: s246 :: s247 :: s248 :: s249 :: s250 :: s251 :: s252 :: s253 :: s254 :: s255 :: s256 :: s257 :: s258 :: s259 :: s260 :: s261 :: s262 :: s263 :: s264 :: s265 :: s266 :: s267 :: s268 :: []).toArray, []⟩ wx) : ((Tryd.f15.body.bind (blkIn 10)).getD .skip).wp Tryd.prog Q ⟨(s0 :: .slice (some ⟨kg, 0, none⟩) 64 kc :: s2 :: s3 :: s4 :: s5 :: s6 :: s7 :: s8 :: s9 :: s10 :: .slice (some ⟨G, 0, none⟩) 64 c :: s12 :: s13 :: s14 :: s15 :: s16 :: .pointer (some ⟨V, 0, none⟩) :: .int .i64 0 :: s19 :: s20 :: s21 :: s22 :: s23 :: s24 :: s25 :: s26 :: s27 :: s28 :: s29 :: s30 :: s31 :: s32 :: s33 :: s34 :: s35 :: s36 :: s37 :: s38 :: s39 :: s40 :: s41 :: s42 :: s43 :: s44 :: s45 :: s46 :: s47 :: s48 :: s49 :: s50 :: s51 :: s52 :: s53 :: s54 :: s55 :: s56 :: s57 :: s58 :: s59 :: s60 :: s61 :: s62 :: s63 :: s64 :: s65 :: s66 :: s67 :: s68 :: s69 :: s70 :: s71 :: s72 :: s73 :: s74 :: s75 :: s76 :: s77 :: s78 :: s79 :: s80 :: s81 :: s82 :: s83 :: s84 :: s85 :: s86 :: s87 :: s88 :: s89 :: s90 :: s91 :: s92 :: s93 :: s94 :: s95 :: s96 :: s97 :: s98 :: s99 :: s100 :: s101 :: s102 :: s103 :: s104 :: s105 :: s106 :: s107 :: s108 :: s109 :: s110 :: s111 :: s112 :: s113 :: s114 :: s115 :: s116 :: s117 :: s118 :: s119 :: s120 :: s121 :: s122 :: s123 :: s124 :: s125 :: s126 :: s127 :: s128 :: s129 :: s130 :: s131 :: s132 :: s133 :: s134 :: s135 :: s136 :: s137 :: s138 :: s139 :: s140 :: s141 :: s142 :: s143 :: s144 :: s145 :: s146 :: s147 :: s148 :: s149 :: s150 :: s151 :: s152 :: s153 :: s154 :: s155 :: s156 :: s157 :: s158 :: s159 :: s160 :: s161 :: s162 :: s163 :: s164 :: s165 :: s166 :: s167 :: s168 :: s169 :: s170 :: s171 :: s172 :: s173 :: s174 :: s175 :: s176 :: s177 :: s178 :: s179 :: s180 :: s181 :: s182 :: s183 :: s184 :: s185 :: s186 :: s187 :: s188 :: s189 :: s190 :: s191 :: s192 :: s193 :: s194 :: s195 :: s196 :: s197 :: s198 :: s199 :: s200 :: s201 :: s202 :: s203 :: s204 :: s205 :: s206 :: s207 :: s208 :: s209 :: s210 :: s211 :: s212 :: s213 :: s214 :: s215 :: s216 :: s217 :: s218 :: s219 :: s220 :: s221 :: s222 :: s223 :: s224 :: s225 :: s226 :: s227 :: s228 :: s229 :: s230 :: s231 :: s232 :: s233 :: s234 :: s235 :: s236 :: s237 :: s238 :: s239 :: s240 :: s241 :: s242 :: s243 :: s244 :: s245 :: s246 :: s247 :: s248 :: s249 :: s250 :: s251 :: s252 :: s253 :: s254 :: s255 :: s256 :: s257 :: s258 :: s259 :: s260 :: s261 :: s262 :: s263 :: s264 :: s265 :: s266 :: s267 :: s268 :: []).toArray, []⟩ wa := by
  conv => arg 2; whnf
  have HQ := Lib.hid hQ
  have HKT := Lib.hid hK
  have H0 := Lib.hid hc
  have HI : ∀ f, Hid ((Tryd.prog.info? 39).map (·.size) = some (ar .u32 8 f).size) := fun f => Lib.hid (by rw [ar_size]; exact infoEight)
  clear hQ hK hc
  go_wp2_with fail
  go_loopw [18] (fun i wr => ∃ k : Nat, k ≤ 64 ∧ i = .int .i64 (k : Nat) ∧ Hid (CV w g U E h G V x (rds h x k) wr)) (fun i _ => 64 - (intOf i).toNat)
  case atStart => exact ⟨0, by omega, rfl, H0⟩
  case round =>
    obtain ⟨k, hk, rfl, H⟩ := hrel
    clear H0
    have hk0 : (0 : Int) ≤ k := by omega
    by_cases hlt : k < 64
    · have hlt' : (k : Int) < 64 := by omega
      have HK := Lib.hid hlt
      obtain ⟨v, hv⟩ : ∃ v, rds h x k = v := ⟨_, rfl⟩
      have HN := Lib.hid (show rds h x (k + 1) = stp (kT k) (x k) v from by rw [← hv]; rfl)
      rw [hv] at H
      obtain ⟨y, hy⟩ : ∃ y, x k = y := ⟨_, rfl⟩
      obtain ⟨z, hz⟩ : ∃ z, kT k = z := ⟨_, rfl⟩
      have HC := Lib.hid (show ∀ wx, CV w g U E h G V x v wx → wx.cell? ⟨kg, k, none⟩ = some (.int .u32 z) ∧ wx.cell? ⟨G, k, none⟩ = some (.int .u32 y) from fun wx cx => by
        rw [← hy, ← hz]
        exact ⟨(cx.ch.old.cell (p := ⟨kg, k, none⟩) HKT.out.1).trans (HKT.out.2 k HK.out), cx.wl k HK.out⟩)
      rw [hy, hz] at HN
      clear hv hy hz
      go_upto_region 26 with fail
      refine wp_region_quiet (C := CV w g U E h G V x v) (by kernel_rfl) (by kernel_rfl) H.out.drew ?_
      with_reducible refine q_val (.pointer (some ⟨V, 7, none⟩)) (by kernel_rfl) (fun _ _ => by kernel_rfl) ?_
      with_reducible refine q_load 38 (.tmp 151) (.pointer (some ⟨V, 7, none⟩)) (.int .u32 (v 7)) rfl (by kernel_rfl) (by kernel_rfl) (fun _ c => c.ld 7 (by decide)) ?_
      with_reducible refine q_val (.pointer (some ⟨V, 4, none⟩)) (by kernel_rfl) (fun _ _ => by kernel_rfl) ?_
      with_reducible refine q_load 38 (.tmp 153) (.pointer (some ⟨V, 4, none⟩)) (.int .u32 (v 4)) rfl (by kernel_rfl) (by kernel_rfl) (fun _ c => c.ld 4 (by decide)) ?_
      with_reducible refine q_call 24 #[.int .u32 (v 4), .int .i64 6] (.int .u32 (rdn 6 (v 4))) (by kernel_rfl) (fun _ => by kernel_rfl) (fun wx c => (hrdown 6 (by decide) (by decide) (v 4) wx).mono fun e w' hh => ⟨hh.1, by rw [hh.2]; exact c⟩) ?_
      with_reducible refine q_val (.pointer (some ⟨V, 4, none⟩)) (by kernel_rfl) (fun _ _ => by kernel_rfl) ?_
      with_reducible refine q_load 38 (.tmp 156) (.pointer (some ⟨V, 4, none⟩)) (.int .u32 (v 4)) rfl (by kernel_rfl) (by kernel_rfl) (fun _ c => c.ld 4 (by decide)) ?_
      with_reducible refine q_call 24 #[.int .u32 (v 4), .int .i64 11] (.int .u32 (rdn 11 (v 4))) (by kernel_rfl) (fun _ => by kernel_rfl) (fun wx c => (hrdown 11 (by decide) (by decide) (v 4) wx).mono fun e w' hh => ⟨hh.1, by rw [hh.2]; exact c⟩) ?_
      with_reducible refine q_val (.int .u32 (bits .xor .u32 (rdn 6 (v 4)) (rdn 11 (v 4)))) (by kernel_rfl) (fun _ _ => by kernel_rfl) ?_
      with_reducible refine q_val (.pointer (some ⟨V, 4, none⟩)) (by kernel_rfl) (fun _ _ => by kernel_rfl) ?_
      with_reducible refine q_load 38 (.tmp 160) (.pointer (some ⟨V, 4, none⟩)) (.int .u32 (v 4)) rfl (by kernel_rfl) (by kernel_rfl) (fun _ c => c.ld 4 (by decide)) ?_
      with_reducible refine q_call 24 #[.int .u32 (v 4), .int .i64 25] (.int .u32 (rdn 25 (v 4))) (by kernel_rfl) (fun _ => by kernel_rfl) (fun wx c => (hrdown 25 (by decide) (by decide) (v 4) wx).mono fun e w' hh => ⟨hh.1, by rw [hh.2]; exact c⟩) ?_
      with_reducible refine q_val (.int .u32 (trd 6 11 25 (v 4))) (by kernel_rfl) (fun _ _ => by kernel_rfl) ?_
      with_reducible refine q_val (.int .u32 (IntKind.u32.wrap (v 7 + trd 6 11 25 (v 4)))) (by kernel_rfl) (fun _ _ => by kernel_rfl) ?_
      with_reducible refine q_val (.pointer (some ⟨V, 4, none⟩)) (by kernel_rfl) (fun _ _ => by kernel_rfl) ?_
      with_reducible refine q_load 38 (.tmp 165) (.pointer (some ⟨V, 4, none⟩)) (.int .u32 (v 4)) rfl (by kernel_rfl) (by kernel_rfl) (fun _ c => c.ld 4 (by decide)) ?_
      with_reducible refine q_val (.pointer (some ⟨V, 5, none⟩)) (by kernel_rfl) (fun _ _ => by kernel_rfl) ?_
      with_reducible refine q_load 38 (.tmp 167) (.pointer (some ⟨V, 5, none⟩)) (.int .u32 (v 5)) rfl (by kernel_rfl) (by kernel_rfl) (fun _ c => c.ld 5 (by decide)) ?_
      with_reducible refine q_val (.int .u32 (bits .and .u32 (v 4) (v 5))) (by kernel_rfl) (fun _ _ => by kernel_rfl) ?_
      with_reducible refine q_val (.pointer (some ⟨V, 4, none⟩)) (by kernel_rfl) (fun _ _ => by kernel_rfl) ?_
      with_reducible refine q_load 38 (.tmp 170) (.pointer (some ⟨V, 4, none⟩)) (.int .u32 (v 4)) rfl (by kernel_rfl) (by kernel_rfl) (fun _ c => c.ld 4 (by decide)) ?_
      with_reducible refine q_val (.int .u32 (bits .xor .u32 IntKind.u32.max (v 4))) (by kernel_rfl) (fun _ _ => by kernel_rfl) ?_
      with_reducible refine q_val (.pointer (some ⟨V, 6, none⟩)) (by kernel_rfl) (fun _ _ => by kernel_rfl) ?_
      with_reducible refine q_load 38 (.tmp 173) (.pointer (some ⟨V, 6, none⟩)) (.int .u32 (v 6)) rfl (by kernel_rfl) (by kernel_rfl) (fun _ c => c.ld 6 (by decide)) ?_
      with_reducible refine q_val (.int .u32 (bits .and .u32 (bits .xor .u32 IntKind.u32.max (v 4)) (v 6))) (by kernel_rfl) (fun _ _ => by kernel_rfl) ?_
      with_reducible refine q_val (.int .u32 (bits .xor .u32 (bits .and .u32 (v 4) (v 5)) (bits .and .u32 (bits .xor .u32 IntKind.u32.max (v 4)) (v 6)))) (by kernel_rfl) (fun _ _ => by kernel_rfl) ?_
      with_reducible refine q_val (.int .u32 (IntKind.u32.wrap (IntKind.u32.wrap (v 7 + trd 6 11 25 (v 4)) + bits .xor .u32 (bits .and .u32 (v 4) (v 5)) (bits .and .u32 (bits .xor .u32 IntKind.u32.max (v 4)) (v 6))))) (by kernel_rfl) (fun _ _ => by kernel_rfl) ?_
      with_reducible refine q_val (.slice (some ⟨kg, 0, none⟩) 64 kc) (by kernel_rfl) (fun _ _ => by kernel_rfl) ?_
      with_reducible refine q_val (.int .i64 (k : Nat)) (by kernel_rfl) (fun _ _ => by kernel_rfl) ?_
      with_reducible refine q_v (Instr.indexAt 37 (.slice (some ⟨kg, 0, none⟩) 64 kc) (.int .i64 (k : Nat))) (.pointer (some ⟨kg, k, none⟩)) (by kernel_rfl) (by kernel_rfl) (fun wz _ => ixS kg 64 kc k HK.out wz) ?_
      with_reducible refine q_load 38 (.tmp 180) (.pointer (some ⟨kg, k, none⟩)) (.int .u32 z) rfl (by kernel_rfl) (by kernel_rfl) (fun _ c => load_u32 _ _ _ _ (HC.out _ c).1) ?_
      with_reducible refine q_val (.int .u32 (IntKind.u32.wrap (IntKind.u32.wrap (IntKind.u32.wrap (v 7 + trd 6 11 25 (v 4)) + bits .xor .u32 (bits .and .u32 (v 4) (v 5)) (bits .and .u32 (bits .xor .u32 IntKind.u32.max (v 4)) (v 6))) + z))) (by kernel_rfl) (fun _ _ => by kernel_rfl) ?_
      with_reducible refine q_val (.slice (some ⟨G, 0, none⟩) 64 c) (by kernel_rfl) (fun _ _ => by kernel_rfl) ?_
      with_reducible refine q_val (.int .i64 (k : Nat)) (by kernel_rfl) (fun _ _ => by kernel_rfl) ?_
      with_reducible refine q_v (Instr.indexAt 37 (.slice (some ⟨G, 0, none⟩) 64 c) (.int .i64 (k : Nat))) (.pointer (some ⟨G, k, none⟩)) (by kernel_rfl) (by kernel_rfl) (fun wz _ => ixS G 64 c k HK.out wz) ?_
      with_reducible refine q_load 38 (.tmp 185) (.pointer (some ⟨G, k, none⟩)) (.int .u32 y) rfl (by kernel_rfl) (by kernel_rfl) (fun _ c => load_u32 _ _ _ _ (HC.out _ c).2) ?_
      with_reducible refine q_val (.int .u32 (IntKind.u32.wrap (IntKind.u32.wrap (IntKind.u32.wrap (IntKind.u32.wrap (v 7 + trd 6 11 25 (v 4)) + bits .xor .u32 (bits .and .u32 (v 4) (v 5)) (bits .and .u32 (bits .xor .u32 IntKind.u32.max (v 4)) (v 6))) + z) + y))) (by kernel_rfl) (fun _ _ => by kernel_rfl) ?_
      with_reducible refine q_val (.int .u32 (IntKind.u32.wrap (IntKind.u32.wrap (IntKind.u32.wrap (IntKind.u32.wrap (v 7 + trd 6 11 25 (v 4)) + bits .xor .u32 (bits .and .u32 (v 4) (v 5)) (bits .and .u32 (bits .xor .u32 IntKind.u32.max (v 4)) (v 6))) + z) + y))) (by kernel_rfl) (fun _ _ => by kernel_rfl) ?_
      with_reducible refine wpQuiet_nil ?_
      intro w1 hC
      simp only [Act.put, List.setIfInBounds_toArray, List.set_cons_succ, List.set_cons_zero]
      obtain ⟨T1, hT1⟩ : ∃ T1, rT1 z y v = T1 := ⟨_, rfl⟩
      rw [wrap4, andn32, show (v 7 + trd 6 11 25 (v 4) + bits .xor .u32 (bits .and .u32 (v 4) (v 5)) (bits .andNot .u32 (v 6) (v 4)) + z + y) % 4294967296 = T1 from hT1]
      have HT1 := Lib.hid hT1
      have H1 := Lib.hid hC
      clear hC H HC hT1
      go_upto_region 27 with fail
      refine wp_region_quiet (C := CV w g U E h G V x v) (by kernel_rfl) (by kernel_rfl) H1.out.drew ?_
      with_reducible refine q_val (.pointer (some ⟨V, 0, none⟩)) (by kernel_rfl) (fun _ _ => by kernel_rfl) ?_
      with_reducible refine q_load 38 (.tmp 188) (.pointer (some ⟨V, 0, none⟩)) (.int .u32 (v 0)) rfl (by kernel_rfl) (by kernel_rfl) (fun _ c => c.ld 0 (by decide)) ?_
      with_reducible refine q_call 24 #[.int .u32 (v 0), .int .i64 2] (.int .u32 (rdn 2 (v 0))) (by kernel_rfl) (fun _ => by kernel_rfl) (fun wx c => (hrdown 2 (by decide) (by decide) (v 0) wx).mono fun e w' hh => ⟨hh.1, by rw [hh.2]; exact c⟩) ?_
      with_reducible refine q_val (.pointer (some ⟨V, 0, none⟩)) (by kernel_rfl) (fun _ _ => by kernel_rfl) ?_
      with_reducible refine q_load 38 (.tmp 191) (.pointer (some ⟨V, 0, none⟩)) (.int .u32 (v 0)) rfl (by kernel_rfl) (by kernel_rfl) (fun _ c => c.ld 0 (by decide)) ?_
      with_reducible refine q_call 24 #[.int .u32 (v 0), .int .i64 13] (.int .u32 (rdn 13 (v 0))) (by kernel_rfl) (fun _ => by kernel_rfl) (fun wx c => (hrdown 13 (by decide) (by decide) (v 0) wx).mono fun e w' hh => ⟨hh.1, by rw [hh.2]; exact c⟩) ?_
      with_reducible refine q_val (.int .u32 (bits .xor .u32 (rdn 2 (v 0)) (rdn 13 (v 0)))) (by kernel_rfl) (fun _ _ => by kernel_rfl) ?_
      with_reducible refine q_val (.pointer (some ⟨V, 0, none⟩)) (by kernel_rfl) (fun _ _ => by kernel_rfl) ?_
      with_reducible refine q_load 38 (.tmp 195) (.pointer (some ⟨V, 0, none⟩)) (.int .u32 (v 0)) rfl (by kernel_rfl) (by kernel_rfl) (fun _ c => c.ld 0 (by decide)) ?_
      with_reducible refine q_call 24 #[.int .u32 (v 0), .int .i64 22] (.int .u32 (rdn 22 (v 0))) (by kernel_rfl) (fun _ => by kernel_rfl) (fun wx c => (hrdown 22 (by decide) (by decide) (v 0) wx).mono fun e w' hh => ⟨hh.1, by rw [hh.2]; exact c⟩) ?_
      with_reducible refine q_val (.int .u32 (trd 2 13 22 (v 0))) (by kernel_rfl) (fun _ _ => by kernel_rfl) ?_
      with_reducible refine q_val (.pointer (some ⟨V, 0, none⟩)) (by kernel_rfl) (fun _ _ => by kernel_rfl) ?_
      with_reducible refine q_load 38 (.tmp 199) (.pointer (some ⟨V, 0, none⟩)) (.int .u32 (v 0)) rfl (by kernel_rfl) (by kernel_rfl) (fun _ c => c.ld 0 (by decide)) ?_
      with_reducible refine q_val (.pointer (some ⟨V, 1, none⟩)) (by kernel_rfl) (fun _ _ => by kernel_rfl) ?_
      with_reducible refine q_load 38 (.tmp 201) (.pointer (some ⟨V, 1, none⟩)) (.int .u32 (v 1)) rfl (by kernel_rfl) (by kernel_rfl) (fun _ c => c.ld 1 (by decide)) ?_
      with_reducible refine q_val (.int .u32 (bits .and .u32 (v 0) (v 1))) (by kernel_rfl) (fun _ _ => by kernel_rfl) ?_
      with_reducible refine q_val (.pointer (some ⟨V, 0, none⟩)) (by kernel_rfl) (fun _ _ => by kernel_rfl) ?_
      with_reducible refine q_load 38 (.tmp 204) (.pointer (some ⟨V, 0, none⟩)) (.int .u32 (v 0)) rfl (by kernel_rfl) (by kernel_rfl) (fun _ c => c.ld 0 (by decide)) ?_
      with_reducible refine q_val (.pointer (some ⟨V, 2, none⟩)) (by kernel_rfl) (fun _ _ => by kernel_rfl) ?_
      with_reducible refine q_load 38 (.tmp 206) (.pointer (some ⟨V, 2, none⟩)) (.int .u32 (v 2)) rfl (by kernel_rfl) (by kernel_rfl) (fun _ c => c.ld 2 (by decide)) ?_
      with_reducible refine q_val (.int .u32 (bits .and .u32 (v 0) (v 2))) (by kernel_rfl) (fun _ _ => by kernel_rfl) ?_
      with_reducible refine q_val (.int .u32 (bits .xor .u32 (bits .and .u32 (v 0) (v 1)) (bits .and .u32 (v 0) (v 2)))) (by kernel_rfl) (fun _ _ => by kernel_rfl) ?_
      with_reducible refine q_val (.pointer (some ⟨V, 1, none⟩)) (by kernel_rfl) (fun _ _ => by kernel_rfl) ?_
      with_reducible refine q_load 38 (.tmp 210) (.pointer (some ⟨V, 1, none⟩)) (.int .u32 (v 1)) rfl (by kernel_rfl) (by kernel_rfl) (fun _ c => c.ld 1 (by decide)) ?_
      with_reducible refine q_val (.pointer (some ⟨V, 2, none⟩)) (by kernel_rfl) (fun _ _ => by kernel_rfl) ?_
      with_reducible refine q_load 38 (.tmp 212) (.pointer (some ⟨V, 2, none⟩)) (.int .u32 (v 2)) rfl (by kernel_rfl) (by kernel_rfl) (fun _ c => c.ld 2 (by decide)) ?_
      with_reducible refine q_val (.int .u32 (bits .and .u32 (v 1) (v 2))) (by kernel_rfl) (fun _ _ => by kernel_rfl) ?_
      with_reducible refine q_val (.int .u32 (bits .xor .u32 (bits .xor .u32 (bits .and .u32 (v 0) (v 1)) (bits .and .u32 (v 0) (v 2))) (bits .and .u32 (v 1) (v 2)))) (by kernel_rfl) (fun _ _ => by kernel_rfl) ?_
      with_reducible refine q_val (.int .u32 (IntKind.u32.wrap (trd 2 13 22 (v 0) + bits .xor .u32 (bits .xor .u32 (bits .and .u32 (v 0) (v 1)) (bits .and .u32 (v 0) (v 2))) (bits .and .u32 (v 1) (v 2))))) (by kernel_rfl) (fun _ _ => by kernel_rfl) ?_
      with_reducible refine q_val (.int .u32 (IntKind.u32.wrap (trd 2 13 22 (v 0) + bits .xor .u32 (bits .xor .u32 (bits .and .u32 (v 0) (v 1)) (bits .and .u32 (v 0) (v 2))) (bits .and .u32 (v 1) (v 2))))) (by kernel_rfl) (fun _ _ => by kernel_rfl) ?_
      with_reducible refine wpQuiet_nil ?_
      intro w2 hC
      simp only [Act.put, List.setIfInBounds_toArray, List.set_cons_succ, List.set_cons_zero]
      obtain ⟨T2, hT2⟩ : ∃ T2, rT2 v = T2 := ⟨_, rfl⟩
      rw [wrap1, show (trd 2 13 22 (v 0) + bits .xor .u32 (bits .xor .u32 (bits .and .u32 (v 0) (v 1)) (bits .and .u32 (v 0) (v 2))) (bits .and .u32 (v 1) (v 2))) % 4294967296 = T2 from hT2]
      have HL8 := Lib.hid (stp_lit z y v T1 T2 HT1.out hT2)
      obtain ⟨r, hr⟩ : ∃ r, stp z y v = r := ⟨_, rfl⟩
      rw [hr] at HN HL8
      have H2 := Lib.hid hC
      clear hC H1 HT1 hT2 hr
      go_upto_region 28 with fail
      refine region_list ?_
      refine wpList_val (w' := w2) rfl (.int .u32 T1) (by kernel_rfl) ?_
      refine wpList_val (w' := w2) rfl (.int .u32 T2) (by kernel_rfl) ?_
      refine wpList_val (w' := w2) rfl (.int .u32 (IntKind.u32.wrap (T1 + T2))) (by kernel_rfl) ?_
      refine wpList_val (w' := w2) rfl (.pointer (some ⟨V, 0, none⟩)) (by kernel_rfl) ?_
      refine wpList_sem (w' := w2) rfl (Instr.loadAt 38 (.pointer (some ⟨V, 0, none⟩))) (.int .u32 (v 0)) (by kernel_rfl) (H2.out.ld 0 (by decide)) ?_
      refine wpList_val (w' := w2) rfl (.pointer (some ⟨V, 1, none⟩)) (by kernel_rfl) ?_
      refine wpList_sem (w' := w2) rfl (Instr.loadAt 38 (.pointer (some ⟨V, 1, none⟩))) (.int .u32 (v 1)) (by kernel_rfl) (H2.out.ld 1 (by decide)) ?_
      refine wpList_val (w' := w2) rfl (.pointer (some ⟨V, 2, none⟩)) (by kernel_rfl) ?_
      refine wpList_sem (w' := w2) rfl (Instr.loadAt 38 (.pointer (some ⟨V, 2, none⟩))) (.int .u32 (v 2)) (by kernel_rfl) (H2.out.ld 2 (by decide)) ?_
      refine wpList_val (w' := w2) rfl (.pointer (some ⟨V, 3, none⟩)) (by kernel_rfl) ?_
      refine wpList_sem (w' := w2) rfl (Instr.loadAt 38 (.pointer (some ⟨V, 3, none⟩))) (.int .u32 (v 3)) (by kernel_rfl) (H2.out.ld 3 (by decide)) ?_
      refine wpList_val (w' := w2) rfl (.int .u32 T1) (by kernel_rfl) ?_
      refine wpList_val (w' := w2) rfl (.int .u32 (IntKind.u32.wrap (v 3 + T1))) (by kernel_rfl) ?_
      refine wpList_val (w' := w2) rfl (.pointer (some ⟨V, 4, none⟩)) (by kernel_rfl) ?_
      refine wpList_sem (w' := w2) rfl (Instr.loadAt 38 (.pointer (some ⟨V, 4, none⟩))) (.int .u32 (v 4)) (by kernel_rfl) (H2.out.ld 4 (by decide)) ?_
      refine wpList_val (w' := w2) rfl (.pointer (some ⟨V, 5, none⟩)) (by kernel_rfl) ?_
      refine wpList_sem (w' := w2) rfl (Instr.loadAt 38 (.pointer (some ⟨V, 5, none⟩))) (.int .u32 (v 5)) (by kernel_rfl) (H2.out.ld 5 (by decide)) ?_
      refine wpList_val (w' := w2) rfl (.pointer (some ⟨V, 6, none⟩)) (by kernel_rfl) ?_
      refine wpList_sem (w' := w2) rfl (Instr.loadAt 38 (.pointer (some ⟨V, 6, none⟩))) (.int .u32 (v 6)) (by kernel_rfl) (H2.out.ld 6 (by decide)) ?_
      refine wpList_val (w' := w2) rfl (.agg (ar .u32 8 r)) (by rw [HL8.out]; kernel_rfl) ?_
      simp only [Act.put, List.setIfInBounds_toArray, List.set_cons_succ, List.set_cons_zero]
      refine wpList_store_row rfl 39 _ _ rfl V (ar .u32 8 r) rfl rfl 39 _ H2.out.rv (HI r).out (by rw [ar_size, ar_size]) (ar_one _ _ _) ?_
      simp only [Act.put]
      have H3 := Lib.hid (H2.out.row r)
      obtain ⟨w3, hw3⟩ : ∃ w3, w2.setRow V (ar .u32 8 r) = w3 := ⟨_, rfl⟩
      rw [hw3] at H3 ⊢
      clear hw3 H2 HL8
      go_wp2_with fail
      go_roundw
      case rel => exact ⟨k + 1, by omega, by go_num, by rw [HN.out]; exact H3⟩
      case measure => simp [intOf]; omega
    · obtain rfl : k = 64 := by omega
      rw [show (((64 : Nat) : Int)) = (64 : Int) from rfl]
      have HB := Lib.hid H.out
      clear H
      go_wp2_with fail
      exact HQ.out _ _ _ _ _ _ _ _ _ _ _ _ _ _ _ _ _ _ _ _ _ _ _ _ _ _ _ _ _ _ _ _ _ _ _ _ _ _ _ _ _ _ _ _ _ _ _ _ _ _ _ _ _ _ _ _ _ _ _ _ _ _ _ _ _ _ _ _ _ _ _ _ _ _ _ _ _ _ _ _ _ _ _ _ _ _ _ _ _ _ _ _ _ HB.out
end Go.Proofs.YtkecehcnoihiiaaDoor
namespace Go.Proofs.YtkecehcnoihiiaaDoor
open Go.RowKit

theorem ix8 (V p : Nat) (h : p < 8) (w : World) : (Instr.indexAt 39 (.pointer (some ⟨V, 0, none⟩)) (.int .i64 (p : Nat))).run Tryd.prog w = .ok (.pointer (some ⟨V, p, none⟩)) w := by
  have h0 : (0 : Int) ≤ p := by omega
  have h1 : (p : Int) < 8 := by omega
  go_simp
theorem CH.set {w wx : World} {g L : Nat} {E : Nat → Nat} {h : Nat → Int} (c : CH w g L E h wx) (j : Nat) (hj : j < 8) (y : Int) : CH w g L E (updI h j y) (wx.setCell ⟨w.heap.size, j, none⟩ (.int .u32 y)) := by
  have l := c.hg
  exact ⟨c.old.setCell (Nat.le_refl _) _, (heap_setCell_same _ _ _ _ _ _ c.r0).trans (by rw [ar_set _ _ _ _ _ hj]), (heap_setCell_other _ _ _ _ (by show w.heap.size + 1 ≠ w.heap.size; omega)).trans c.r1, fun i hi => (World.cell?_of_block (w := wx) (a := ⟨g, i, none⟩) (heap_setCell_other _ _ _ _ (by show g ≠ w.heap.size; omega))).trans (c.by8 i hi), l.1, by simpa using l.2⟩
/-- The worlds of a block while its sums are made. -/
structure CS (w : World) (g L : Nat) (E : Nat → Nat) (h : Nat → Int) (V : Nat) (r : Nat → Int) (wx : World) : Prop where
  ch : CH w g L E h wx
  rv : wx.heap[V]? = some (.cells (ar .u32 8 r) 39 (0, 0))
  lt : g < V
theorem CS.drew {w wx : World} {g L V : Nat} {E : Nat → Nat} {h r : Nat → Int} (c : CS w g L E h V r wx) : CS w g L E h V r wx.drew := ⟨c.ch.drew, c.rv, c.lt⟩
theorem CS.set {w wx : World} {g L V : Nat} {E : Nat → Nat} {h r : Nat → Int} (c : CS w g L E h V r wx) (j : Nat) (hj : j < 8) (y : Int) : CS w g L E (updI h j y) V r (wx.setCell ⟨w.heap.size, j, none⟩ (.int .u32 y)) :=
  ⟨c.ch.set j hj y, (heap_setCell_other _ _ _ _ (by have l := c.ch.hg; have l2 := c.lt; show V ≠ w.heap.size; omega)).trans c.rv, c.lt⟩
set_option maxRecDepth 100000 in
set_option maxHeartbeats 8000000 in
-- EIGHT SUMS.
theorem hash_b12 {w wa : World} {g U V : Nat} {E : Nat → Nat} {h r : Nat → Int} (hc : CS w g U E h V r wa) {Q : Exit → Act → World → Prop}
    {s0 s1 s2 s3 s4 s6 s7 s8 s9 s10 s11 s12 s13 s14 s15 s16 s18 s19 s20 s22 s23 s24 s25 s26 s27 s28 s29 s30 s31 s32 s33 s34 s35 s36 s37 s38 s39 s40 s41 s42 s43 s44 s45 s46 s47 s48 s49 s50 s51 s52 s53 s54 s55 s56 s57 s58 s59 s60 s61 s62 s63 s64 s65 s66 s67 s68 s69 s70 s71 s72 s73 s74 s75 s76 s77 s78 s79 s80 s81 s82 s83 s84 s85 s86 s87 s88 s89 s90 s91 s92 s93 s94 s95 s96 s97 s98 s99 s100 s101 s102 s103 s104 s105 s106 s107 s108 s109 s110 s111 s112 s113 s114 s115 s116 s117 s118 s119 s120 s121 s122 s123 s124 s125 s126 s127 s128 s129 s130 s131 s132 s133 s134 s135 s136 s137 s138 s139 s140 s141 s142 s143 s144 s145 s146 s147 s148 s149 s150 s151 s152 s153 s154 s155 s156 s157 s158 s159 s160 s161 s162 s163 s164 s165 s166 s167 s168 s169 s170 s171 s172 s173 s174 s175 s176 s177 s178 s179 s180 s181 s182 s183 s184 s185 s186 s187 s188 s189 s190 s191 s192 s193 s194 s195 s196 s197 s198 s199 s200 s201 s202 s203 s204 s205 s206 s207 s208 s209 s210 s211 s212 s213 s214 s215 s216 s217 s218 s219 s220 s221 s222 s223 s224 s225 s226 s227 s228 s229 s230 s231 s232 s233 s234 s235 s236 s237 s238 s239 s240 s241 s242 s243 s244 s245 s246 s247 s248 s249 s250 s251 s252 s253 s254 s255 s256 s257 s258 s259 s260 s261 s262 s263 s264 s265 s266 s267 s268 : Value} (hQ : ∀ (u237 u238 u239 u240 u241 u242 u243 u244 u245 u246 u247 u248 u249 : Value) (wx : World), CS w g U E (adD h r 8) V r wx → Q .normal ⟨(s0 :: s1 :: s2 :: s3 :: s4 :: .pointer (some ⟨w.heap.size, 0, none⟩) :: s6 :: s7 :: s8 :: s9 :: s10 :: s11 :: s12 :: s13 :: s14 :: s15 :: s16 :: .pointer (some ⟨V, 0, none⟩) :: s18 :: s19 :: s20 :: .int .i64 8 :: s22 :: s23 :: s24 :: s25 :: s26 :: s27 :: s28 :: s29 :: s30 :: s31 :: s32 :: s33 :: s34 :: s35 :: s36 :: s37 :: s38 :: s39 :: s40 :: s41 :: s42 :: s43 :: s44 :: s45 :: s46 :: s47 :: s48 :: s49 :: s50 :: s51 :: s52 :: s53 :: s54 :: s55 :: s56 :: s57 :: s58 :: s59 :: s60 :: s61 :: s62 :: s63 :: s64 :: s65 :: s66 :: s67 :: s68 :: s69 :: s70 :: s71 :: s72 :: s73 :: s74 :: s75 :: s76 :: s77 :: s78 :: s79 :: s80 :: s81 :: s82 :: s83 :: s84 :: s85 :: s86 :: s87 :: s88 :: s89 :: s90 :: s91 :: s92 :: s93 :: s94 :: s95 :: s96 :: s97 :: s98 :: s99 :: s100 :: s101 :: s102 :: s103 :: s104 :: s105 :: s106 :: s107 :: s108 :: s109 :: s110 :: s111 :: s112 :: s113 :: s114 :: s115 :: s116 :: s117 :: s118 :: s119 :: s120 :: s121 :: s122 :: s123 :: s124 :: s125 :: s126 :: s127 :: s128 :: s129 :: s130 :: s131 :: s132 :: s133 :: s134 :: s135 :: s136 :: s137 :: s138 :: s139 :: s140 :: s141 :: s142 :: s143 :: s144 :: s145 :: s146 :: s147 :: s148 :: s149 :: s150 :: s151 :: s152 :: s153 :: s154 :: s155 :: s156 :: s157 :: s158 :: s159 :: s160 :: s161 :: s162 :: s163 :: s164 :: s165 :: s166 :: s167 :: s168 :: s169 :: s170 :: s171 :: s172 :: s173 :: s174 :: s175 :: s176 :: s177 :: s178 :: s179 :: s180 :: s181 :: s182 :: s183 :: s184 :: s185 :: s186 :: s187 :: s188 :: s189 :: s190 :: s191 :: s192 :: s193 :: s194 :: s195 :: s196 :: s197 :: s198 :: s199 :: s200 :: s201 :: s202 :: s203 :: s204 :: s205 :: s206 :: s207 :: s208 :: s209 :: s210 :: s211 :: s212 :: s213 :: s214 :: s215 :: s216 :: s217 :: s218 :: s219 :: s220 :: s221 :: s222 :: s223 :: s224 :: s225 :: s226 :: s227 :: s228 :: s229 :: s230 :: s231 :: s232 :: s233 :: s234 :: s235 :: s236 :: u237 :: u238 :: u239 :: u240 :: u241 :: u242 :: u243 :: u244 :: u245 :: u246 :: u247 :: u248 :: u249 :: s250 :: s251 :: s252 :: s253 :: s254 :: s255 :: s256 :: s257 :: s258 :: s259 :: s260 :: s261 :: s262 :: s263 :: s264 :: s265 :: s266 :: s267 :: s268 :: []).toArray, []⟩ wx) : ((Tryd.f15.body.bind (blkIn 12)).getD .skip).wp Tryd.prog Q ⟨(s0 :: s1 :: s2 :: s3 :: s4 :: .pointer (some ⟨w.heap.size, 0, none⟩) :: s6 :: s7 :: s8 :: s9 :: s10 :: s11 :: s12 :: s13 :: s14 :: s15 :: s16 :: .pointer (some ⟨V, 0, none⟩) :: s18 :: s19 :: s20 :: .int .i64 0 :: s22 :: s23 :: s24 :: s25 :: s26 :: s27 :: s28 :: s29 :: s30 :: s31 :: s32 :: s33 :: s34 :: s35 :: s36 :: s37 :: s38 :: s39 :: s40 :: s41 :: s42 :: s43 :: s44 :: s45 :: s46 :: s47 :: s48 :: s49 :: s50 :: s51 :: s52 :: s53 :: s54 :: s55 :: s56 :: s57 :: s58 :: s59 :: s60 :: s61 :: s62 :: s63 :: s64 :: s65 :: s66 :: s67 :: s68 :: s69 :: s70 :: s71 :: s72 :: s73 :: s74 :: s75 :: s76 :: s77 :: s78 :: s79 :: s80 :: s81 :: s82 :: s83 :: s84 :: s85 :: s86 :: s87 :: s88 :: s89 :: s90 :: s91 :: s92 :: s93 :: s94 :: s95 :: s96 :: s97 :: s98 :: s99 :: s100 :: s101 :: s102 :: s103 :: s104 :: s105 :: s106 :: s107 :: s108 :: s109 :: s110 :: s111 :: s112 :: s113 :: s114 :: s115 :: s116 :: s117 :: s118 :: s119 :: s120 :: s121 :: s122 :: s123 :: s124 :: s125 :: s126 :: s127 :: s128 :: s129 :: s130 :: s131 :: s132 :: s133 :: s134 :: s135 :: s136 :: s137 :: s138 :: s139 :: s140 :: s141 :: s142 :: s143 :: s144 :: s145 :: s146 :: s147 :: s148 :: s149 :: s150 :: s151 :: s152 :: s153 :: s154 :: s155 :: s156 :: s157 :: s158 :: s159 :: s160 :: s161 :: s162 :: s163 :: s164 :: s165 :: s166 :: s167 :: s168 :: s169 :: s170 :: s171 :: s172 :: s173 :: s174 :: s175 :: s176 :: s177 :: s178 :: s179 :: s180 :: s181 :: s182 :: s183 :: s184 :: s185 :: s186 :: s187 :: s188 :: s189 :: s190 :: s191 :: s192 :: s193 :: s194 :: s195 :: s196 :: s197 :: s198 :: s199 :: s200 :: s201 :: s202 :: s203 :: s204 :: s205 :: s206 :: s207 :: s208 :: s209 :: s210 :: s211 :: s212 :: s213 :: s214 :: s215 :: s216 :: s217 :: s218 :: s219 :: s220 :: s221 :: s222 :: s223 :: s224 :: s225 :: s226 :: s227 :: s228 :: s229 :: s230 :: s231 :: s232 :: s233 :: s234 :: s235 :: s236 :: s237 :: s238 :: s239 :: s240 :: s241 :: s242 :: s243 :: s244 :: s245 :: s246 :: s247 :: s248 :: s249 :: s250 :: s251 :: s252 :: s253 :: s254 :: s255 :: s256 :: s257 :: s258 :: s259 :: s260 :: s261 :: s262 :: s263 :: s264 :: s265 :: s266 :: s267 :: s268 :: []).toArray, []⟩ wa := by
  conv => arg 2; whnf
  have HQ := Lib.hid hQ
  have H0 := Lib.hid (show CS w g U E (adD h r 0) V r wa from by rw [adD_0]; exact hc)
  clear hQ hc
  go_wp2_with fail
  go_loopw [21] (fun i wr => ∃ k : Nat, k ≤ 8 ∧ i = .int .i64 (k : Nat) ∧ Hid (CS w g U E (adD h r k) V r wr)) (fun i _ => 8 - (intOf i).toNat)
  case atStart => exact ⟨0, by omega, rfl, H0⟩
  case round =>
    obtain ⟨k, hk, rfl, H⟩ := hrel
    clear H0
    have hk0 : (0 : Int) ≤ k := by omega
    by_cases hlt : k < 8
    · have hlt' : (k : Int) < 8 := by omega
      have HK := Lib.hid hlt
      have HX2 := Lib.hid (And.intro (adD_next h r k) (adD_at h r k))
      obtain ⟨a, ha⟩ : ∃ a, h k = a := ⟨_, rfl⟩
      obtain ⟨b, hb⟩ : ∃ a, r k = a := ⟨_, rfl⟩
      rw [ha, hb] at HX2
      have HB := Lib.hid hb
      clear ha hb
      go_upto_region 32 with fail
      refine region_quiet_tail 9 (CS w g U E (adD h r k) V r) (by kernel_rfl) (by kernel_rfl) H.out.drew ?_
      simp only [List.take_succ_cons, List.take_zero, List.drop_succ_cons, List.drop_zero]
      with_reducible refine q_val (.int .i64 (k : Nat)) (by kernel_rfl) (fun _ _ => by kernel_rfl) ?_
      with_reducible refine q_val (.int .i64 (k : Nat)) (by kernel_rfl) (fun _ _ => by kernel_rfl) ?_
      with_reducible refine q_v (Instr.indexAt 39 (.pointer (some ⟨w.heap.size, 0, none⟩)) (.int .i64 (k : Nat))) (.pointer (some ⟨w.heap.size, k, none⟩)) (by kernel_rfl) (by kernel_rfl) (fun wz _ => ix8 (w.heap.size) k HK.out wz) ?_
      with_reducible refine q_load 38 (.tmp 243) (.pointer (some ⟨w.heap.size, k, none⟩)) (.int .u32 a) rfl (by kernel_rfl) (by kernel_rfl) (fun _ c => load_u32 _ _ _ _ ((cell_of_row _ _ k _ _ _ c.ch.r0).trans ((ar_at _ _ _ _ HK.out).trans (by rw [HX2.out.2])))) ?_
      with_reducible refine q_val (.int .i64 (k : Nat)) (by kernel_rfl) (fun _ _ => by kernel_rfl) ?_
      with_reducible refine q_v (Instr.indexAt 39 (.pointer (some ⟨V, 0, none⟩)) (.int .i64 (k : Nat))) (.pointer (some ⟨V, k, none⟩)) (by kernel_rfl) (by kernel_rfl) (fun wz _ => ix8 (V) k HK.out wz) ?_
      with_reducible refine q_load 38 (.tmp 246) (.pointer (some ⟨V, k, none⟩)) (.int .u32 b) rfl (by kernel_rfl) (by kernel_rfl) (fun _ c => load_u32 _ _ _ _ ((cell_of_row _ _ k _ _ _ c.rv).trans ((ar_at _ _ _ _ HK.out).trans (by rw [HB.out])))) ?_
      with_reducible refine q_val (.int .u32 (IntKind.u32.wrap (a + b))) (by kernel_rfl) (fun _ _ => by kernel_rfl) ?_
      with_reducible refine q_v (Instr.indexAt 39 (.pointer (some ⟨w.heap.size, 0, none⟩)) (.int .i64 (k : Nat))) (.pointer (some ⟨w.heap.size, k, none⟩)) (by kernel_rfl) (by kernel_rfl) (fun wz _ => ix8 (w.heap.size) k HK.out wz) ?_
      with_reducible refine wpQuiet_nil ?_
      intro w1 hC
      simp only [Act.put, List.setIfInBounds_toArray, List.set_cons_succ, List.set_cons_zero]
      rw [wrap1]
      have co := (cell_of_row w1 _ k _ _ _ hC.ch.r0).trans (ar_at _ _ _ _ HK.out)
      have fo := frozen_of_row w1 _ k _ _ hC.ch.r0
      have hst := hC.set k HK.out ((a + b) % 4294967296)
      rw [HX2.out.1] at hst
      have H2 := Lib.hid hst
      clear hC hst H HB
      go_wp2_with fail
      go_roundw
      case rel => exact ⟨k + 1, by omega, by go_num, H2⟩
      case measure => simp [intOf]; omega
    · obtain rfl : k = 8 := by omega
      rw [show (((8 : Nat) : Int)) = (8 : Int) from rfl]
      have HB := Lib.hid H.out
      clear H
      go_wp2_with fail
      exact HQ.out _ _ _ _ _ _ _ _ _ _ _ _ _ _ HB.out
end Go.Proofs.YtkecehcnoihiiaaDoor
namespace Go.Proofs.YtkecehcnoihiiaaDoor
open Go.RowKit

/-- The worlds of Hash while it lays the answer down. -/
structure CHo (w : World) (O : Nat) (h v : Nat → Int) (wx : World) : Prop where
  old : Below w.heap.size w wx
  r0 : wx.heap[w.heap.size]? = some (.cells (ar .u32 8 h) 39 (0, 0))
  r1 : wx.heap[w.heap.size + 1]? = some (.cells #[.int .u8 0, .int .u8 0, .int .u8 0, .int .u8 0, .int .u8 0, .int .u8 0, .int .u8 0, .int .u8 0, .int .u8 0, .int .u8 0, .int .u8 0, .int .u8 0, .int .u8 0, .int .u8 0, .int .u8 0, .int .u8 0, .int .u8 0, .int .u8 0, .int .u8 0, .int .u8 0, .int .u8 0, .int .u8 0, .int .u8 0, .int .u8 0, .int .u8 0, .int .u8 0, .int .u8 0, .int .u8 0, .int .u8 0, .int .u8 0, .int .u8 0, .int .u8 0] 25 (0, 0))
  rO : wx.heap[O]? = some (.cells (ar .u8 32 v) 25 (0, 0))
  hO : w.heap.size + 1 < O
theorem CHo.set {w wx : World} {O : Nat} {h v : Nat → Int} (c : CHo w O h v wx) (j : Nat) (hj : j < 32) (y : Int) : CHo w O h (updI v j y) (wx.setCell ⟨O, j, none⟩ (.int .u8 y)) := by
  have hO := c.hO
  exact ⟨c.old.setCell (by show w.heap.size ≤ O; omega) _, (heap_setCell_other _ _ _ _ (by show w.heap.size ≠ O; omega)).trans c.r0, (heap_setCell_other _ _ _ _ (by show w.heap.size + 1 ≠ O; omega)).trans c.r1, (heap_setCell_same _ _ _ _ _ _ c.rO).trans (by rw [ar_set _ _ _ _ _ hj]), hO⟩
set_option maxRecDepth 100000 in
set_option maxHeartbeats 8000000 in
-- THE BYTES OF THE ANSWER.
theorem hash_b14 {w wa : World} {O : Nat} {h : Nat → Int} (hc : CHo w O h (sbD (sby h) 0) wa) {Q : Exit → Act → World → Prop}
    {s0 s1 s2 s3 s4 s6 s7 s8 s9 s10 s11 s12 s13 s14 s15 s16 s17 s18 s19 s20 s21 s24 s25 s26 s27 s28 s29 s30 s31 s32 s33 s34 s35 s36 s37 s38 s39 s40 s41 s42 s43 s44 s45 s46 s47 s48 s49 s50 s51 s52 s53 s54 s55 s56 s57 s58 s59 s60 s61 s62 s63 s64 s65 s66 s67 s68 s69 s70 s71 s72 s73 s74 s75 s76 s77 s78 s79 s80 s81 s82 s83 s84 s85 s86 s87 s88 s89 s90 s91 s92 s93 s94 s95 s96 s97 s98 s99 s100 s101 s102 s103 s104 s105 s106 s107 s108 s109 s110 s111 s112 s113 s114 s115 s116 s117 s118 s119 s120 s121 s122 s123 s124 s125 s126 s127 s128 s129 s130 s131 s132 s133 s134 s135 s136 s137 s138 s139 s140 s141 s142 s143 s144 s145 s146 s147 s148 s149 s150 s151 s152 s153 s154 s155 s156 s157 s158 s159 s160 s161 s162 s163 s164 s165 s166 s167 s168 s169 s170 s171 s172 s173 s174 s175 s176 s177 s178 s179 s180 s181 s182 s183 s184 s185 s186 s187 s188 s189 s190 s191 s192 s193 s194 s195 s196 s197 s198 s199 s200 s201 s202 s203 s204 s205 s206 s207 s208 s209 s210 s211 s212 s213 s214 s215 s216 s217 s218 s219 s220 s221 s222 s223 s224 s225 s226 s227 s228 s229 s230 s231 s232 s233 s234 s235 s236 s237 s238 s239 s240 s241 s242 s243 s244 s245 s246 s247 s248 s249 s250 s251 s252 s253 s254 s255 s256 s257 s258 s259 s260 s261 s262 s263 s264 s265 s266 s267 s268 : Value} (hQ : ∀ (u251 u252 u253 u254 u255 u256 u257 u258 u259 u260 u261 u262 u263 u264 u265 u266 u267 : Value) (wx : World), CHo w O h (sbD (sby h) 32) wx → Q .normal ⟨(s0 :: s1 :: s2 :: s3 :: s4 :: .pointer (some ⟨w.heap.size, 0, none⟩) :: s6 :: s7 :: s8 :: s9 :: s10 :: s11 :: s12 :: s13 :: s14 :: s15 :: s16 :: s17 :: s18 :: s19 :: s20 :: s21 :: .pointer (some ⟨O, 0, none⟩) :: .int .i64 32 :: s24 :: s25 :: s26 :: s27 :: s28 :: s29 :: s30 :: s31 :: s32 :: s33 :: s34 :: s35 :: s36 :: s37 :: s38 :: s39 :: s40 :: s41 :: s42 :: s43 :: s44 :: s45 :: s46 :: s47 :: s48 :: s49 :: s50 :: s51 :: s52 :: s53 :: s54 :: s55 :: s56 :: s57 :: s58 :: s59 :: s60 :: s61 :: s62 :: s63 :: s64 :: s65 :: s66 :: s67 :: s68 :: s69 :: s70 :: s71 :: s72 :: s73 :: s74 :: s75 :: s76 :: s77 :: s78 :: s79 :: s80 :: s81 :: s82 :: s83 :: s84 :: s85 :: s86 :: s87 :: s88 :: s89 :: s90 :: s91 :: s92 :: s93 :: s94 :: s95 :: s96 :: s97 :: s98 :: s99 :: s100 :: s101 :: s102 :: s103 :: s104 :: s105 :: s106 :: s107 :: s108 :: s109 :: s110 :: s111 :: s112 :: s113 :: s114 :: s115 :: s116 :: s117 :: s118 :: s119 :: s120 :: s121 :: s122 :: s123 :: s124 :: s125 :: s126 :: s127 :: s128 :: s129 :: s130 :: s131 :: s132 :: s133 :: s134 :: s135 :: s136 :: s137 :: s138 :: s139 :: s140 :: s141 :: s142 :: s143 :: s144 :: s145 :: s146 :: s147 :: s148 :: s149 :: s150 :: s151 :: s152 :: s153 :: s154 :: s155 :: s156 :: s157 :: s158 :: s159 :: s160 :: s161 :: s162 :: s163 :: s164 :: s165 :: s166 :: s167 :: s168 :: s169 :: s170 :: s171 :: s172 :: s173 :: s174 :: s175 :: s176 :: s177 :: s178 :: s179 :: s180 :: s181 :: s182 :: s183 :: s184 :: s185 :: s186 :: s187 :: s188 :: s189 :: s190 :: s191 :: s192 :: s193 :: s194 :: s195 :: s196 :: s197 :: s198 :: s199 :: s200 :: s201 :: s202 :: s203 :: s204 :: s205 :: s206 :: s207 :: s208 :: s209 :: s210 :: s211 :: s212 :: s213 :: s214 :: s215 :: s216 :: s217 :: s218 :: s219 :: s220 :: s221 :: s222 :: s223 :: s224 :: s225 :: s226 :: s227 :: s228 :: s229 :: s230 :: s231 :: s232 :: s233 :: s234 :: s235 :: s236 :: s237 :: s238 :: s239 :: s240 :: s241 :: s242 :: s243 :: s244 :: s245 :: s246 :: s247 :: s248 :: s249 :: s250 :: u251 :: u252 :: u253 :: u254 :: u255 :: u256 :: u257 :: u258 :: u259 :: u260 :: u261 :: u262 :: u263 :: u264 :: u265 :: u266 :: u267 :: s268 :: []).toArray, []⟩ wx) : ((Tryd.f15.body.bind (blkIn 14)).getD .skip).wp Tryd.prog Q ⟨(s0 :: s1 :: s2 :: s3 :: s4 :: .pointer (some ⟨w.heap.size, 0, none⟩) :: s6 :: s7 :: s8 :: s9 :: s10 :: s11 :: s12 :: s13 :: s14 :: s15 :: s16 :: s17 :: s18 :: s19 :: s20 :: s21 :: .pointer (some ⟨O, 0, none⟩) :: .int .i64 0 :: s24 :: s25 :: s26 :: s27 :: s28 :: s29 :: s30 :: s31 :: s32 :: s33 :: s34 :: s35 :: s36 :: s37 :: s38 :: s39 :: s40 :: s41 :: s42 :: s43 :: s44 :: s45 :: s46 :: s47 :: s48 :: s49 :: s50 :: s51 :: s52 :: s53 :: s54 :: s55 :: s56 :: s57 :: s58 :: s59 :: s60 :: s61 :: s62 :: s63 :: s64 :: s65 :: s66 :: s67 :: s68 :: s69 :: s70 :: s71 :: s72 :: s73 :: s74 :: s75 :: s76 :: s77 :: s78 :: s79 :: s80 :: s81 :: s82 :: s83 :: s84 :: s85 :: s86 :: s87 :: s88 :: s89 :: s90 :: s91 :: s92 :: s93 :: s94 :: s95 :: s96 :: s97 :: s98 :: s99 :: s100 :: s101 :: s102 :: s103 :: s104 :: s105 :: s106 :: s107 :: s108 :: s109 :: s110 :: s111 :: s112 :: s113 :: s114 :: s115 :: s116 :: s117 :: s118 :: s119 :: s120 :: s121 :: s122 :: s123 :: s124 :: s125 :: s126 :: s127 :: s128 :: s129 :: s130 :: s131 :: s132 :: s133 :: s134 :: s135 :: s136 :: s137 :: s138 :: s139 :: s140 :: s141 :: s142 :: s143 :: s144 :: s145 :: s146 :: s147 :: s148 :: s149 :: s150 :: s151 :: s152 :: s153 :: s154 :: s155 :: s156 :: s157 :: s158 :: s159 :: s160 :: s161 :: s162 :: s163 :: s164 :: s165 :: s166 :: s167 :: s168 :: s169 :: s170 :: s171 :: s172 :: s173 :: s174 :: s175 :: s176 :: s177 :: s178 :: s179 :: s180 :: s181 :: s182 :: s183 :: s184 :: s185 :: s186 :: s187 :: s188 :: s189 :: s190 :: s191 :: s192 :: s193 :: s194 :: s195 :: s196 :: s197 :: s198 :: s199 :: s200 :: s201 :: s202 :: s203 :: s204 :: s205 :: s206 :: s207 :: s208 :: s209 :: s210 :: s211 :: s212 :: s213 :: s214 :: s215 :: s216 :: s217 :: s218 :: s219 :: s220 :: s221 :: s222 :: s223 :: s224 :: s225 :: s226 :: s227 :: s228 :: s229 :: s230 :: s231 :: s232 :: s233 :: s234 :: s235 :: s236 :: s237 :: s238 :: s239 :: s240 :: s241 :: s242 :: s243 :: s244 :: s245 :: s246 :: s247 :: s248 :: s249 :: s250 :: s251 :: s252 :: s253 :: s254 :: s255 :: s256 :: s257 :: s258 :: s259 :: s260 :: s261 :: s262 :: s263 :: s264 :: s265 :: s266 :: s267 :: s268 :: []).toArray, []⟩ wa := by
  conv => arg 2; whnf
  have HQ := Lib.hid hQ
  have H0 := Lib.hid hc
  clear hQ hc
  go_wp2_with fail
  go_loopw [23] (fun i wr => ∃ k : Nat, k ≤ 32 ∧ i = .int .i64 (k : Nat) ∧ Hid (CHo w O h (sbD (sby h) k) wr)) (fun i _ => 32 - (intOf i).toNat)
  case atStart => exact ⟨0, by omega, rfl, H0⟩
  case round =>
    obtain ⟨k, hk, rfl, H⟩ := hrel
    clear H0
    have hk0 : (0 : Int) ≤ k := by omega
    by_cases hlt : k < 32
    · have hlt' : (k : Int) < 32 := by omega
      have HK := Lib.hid hlt
      have HN := Lib.hid (sbD_next (sby h) k)
      have hy : sby h k = h (k / 4) / 2 ^ (24 - k % 4 * 8) % 256 := rfl
      obtain ⟨y, hy'⟩ : ∃ y, sby h k = y := ⟨_, rfl⟩
      rw [hy'] at HN hy
      obtain ⟨p, hp⟩ : ∃ p, k / 4 = p := ⟨_, rfl⟩
      obtain ⟨s, hs⟩ : ∃ s, 24 - k % 4 * 8 = s := ⟨_, rfl⟩
      obtain ⟨z, hz⟩ : ∃ z, h p = z := ⟨_, rfl⟩
      rw [hp, hs, hz] at hy
      have c8 := (cell_of_row wr _ p _ _ _ H.out.r0).trans (ar_at _ _ _ _ (show p < 8 by omega))
      rw [hz] at c8
      have e1 : (k : Int) / 4 = (p : Int) := by omega
      have e1' : (k : Int).tdiv 4 = (p : Int) := by rw [Int.tdiv_eq_ediv_of_nonneg (by omega)]; omega
      obtain ⟨r, hr⟩ : ∃ r, k % 4 = r := ⟨_, rfl⟩
      have e2 : (k : Int) % 4 = (r : Int) := by omega
      have e2' : (k : Int).tmod 4 = (r : Int) := by rw [Int.tmod_eq_emod_of_nonneg (by omega)]; omega
      have w1 : IntKind.i64.wrap (p : Int) = (p : Int) := by rw [IntKind.wrap_i64]; omega
      have w2 : IntKind.i64.wrap (r : Int) = (r : Int) := by rw [IntKind.wrap_i64]; omega
      obtain ⟨r8, hr8⟩ : ∃ r8, r * 8 = r8 := ⟨_, rfl⟩
      have e3 : 8 * (r : Int) = (r8 : Int) := by omega
      have w3 : IntKind.i64.wrap (r8 : Int) = (r8 : Int) := by rw [IntKind.wrap_i64]; omega
      have e4 : (24 : Int) - (r8 : Int) = (s : Int) := by omega
      have w4 : IntKind.i64.wrap (s : Int) = (s : Int) := by rw [IntKind.wrap_i64]; omega
      have w5 : IntKind.u64.wrap (s : Int) = (s : Int) := by rw [IntKind.wrap_u64]; omega
      have s0 : (0 : Int) ≤ s := by omega
      have s1 : (s : Int) < 32 := by omega
      have p0 : (0 : Int) ≤ p := by omega
      have p1 : (p : Int) < 8 := by omega
      have e5 : IntKind.u8.wrap (z / 2 ^ s) = y := by rw [IntKind.wrap_u8, hy]
      have e6 : z / 2 ^ s % 256 = y := hy.symm
      have co := (cell_of_row wr _ k _ _ _ H.out.rO).trans (ar_at _ _ _ _ hlt)
      have fo := frozen_of_row _ _ k _ _ H.out.rO
      have H5 := H.out.set k HK.out y
      rw [HN.out] at H5
      have H6 := Lib.hid H5
      clear H5 hy hy' hp hs hz hr hr8 H HN
      go_wp2_with fail
      go_roundw
      case rel => exact ⟨k + 1, by omega, by go_num, H6⟩
      case measure => simp [intOf]; omega
    · obtain rfl : k = 32 := by omega
      rw [show (((32 : Nat) : Int)) = (32 : Int) from rfl]
      have HB := Lib.hid H.out
      clear H
      go_wp2_with fail
      exact HQ.out _ _ _ _ _ _ _ _ _ _ _ _ _ _ _ _ _ _ HB.out
end Go.Proofs.YtkecehcnoihiiaaDoor
namespace Go.Proofs.YtkecehcnoihiiaaDoor
open Go.RowKit

theorem CH.congr {w wx : World} {g L : Nat} {E : Nat → Nat} {h h' : Nat → Int} (c : CH w g L E h wx) (e : ∀ j, j < 8 → h j = h' j) : CH w g L E h' wx := ⟨c.old, by rw [← ar_congr e]; exact c.r0, c.r1, c.by8, c.hg⟩
theorem adD_hmx (h : Nat → Int) (f : Nat → Nat) (j : Nat) (hj : j < 8) : adD h (rds h (sw f) 64) 8 j = hmx h f j := by unfold adD hmx; rw [if_pos hj]
theorem CV.start {w w0 wz : World} {g L B G c : Nat} {E : Nat → Nat} {h x : Nat → Int} (cx : CW w g L E h B (.slice (some ⟨G, 0, none⟩) 64 c) 64 x w0) {old : Array Value} (hz : wz = (w0.alloc (.cells old 39)).setRow w0.heap.size (ar .u32 8 h)) : CV w g L E h G w0.heap.size x h wz := by
  have hb : Below w0.heap.size w0 wz := by rw [hz]; exact below_setRow ((Below.refl _ _).alloc (Nat.le_refl _) _) (Nat.le_refl _) _
  have hG := cx.own.lt G (by simp [Value.ownBlock])
  have hc := cx.ch.below hb
  refine ⟨hc, fun j hj => (hb.cell (p := ⟨G, j, none⟩) hG.2).trans ((cx.own.cellAt j (by omega)).trans (px_at _ _ _ hj)), ?_, cx.ch.hg.2, by omega⟩
  rw [hz]
  exact setRow_heap _ _ _ _ _ _ (heap_alloc_new _ _)
set_option maxRecDepth 100000 in
set_option maxHeartbeats 8000000 in
-- ALL BLOCKS.
theorem hash_b4 {w wa : World} {g U q kg kc N : Nat} {E : Nat → Nat} (hE : ∀ j, E j < 256) (hN : U = 64 * N) (hU : U < 2000000) (hq : U ≤ q) (hK : kg < w.heap.size ∧ ∀ j, j < 64 → w.cell? ⟨kg, j, none⟩ = some (.int .u32 (kT j))) (hc : CH w g U E (hB E 0) wa) {Q : Exit → Act → World → Prop}
    {s0 s2 s3 s4 s6 s8 s9 s11 s12 s13 s14 s15 s16 s17 s18 s19 s20 s21 s22 s23 s24 s25 s26 s27 s28 s29 s30 s31 s32 s33 s34 s35 s36 s37 s38 s39 s40 s41 s42 s43 s44 s45 s46 s47 s48 s49 s50 s51 s52 s53 s54 s55 s56 s57 s58 s59 s60 s61 s62 s63 s64 s65 s66 s67 s68 s69 s70 s71 s72 s73 s74 s75 s76 s77 s78 s79 s80 s81 s82 s83 s84 s85 s86 s87 s88 s89 s90 s91 s92 s93 s94 s95 s96 s97 s98 s99 s100 s101 s102 s103 s104 s105 s106 s107 s108 s109 s110 s111 s112 s113 s114 s115 s116 s117 s118 s119 s120 s121 s122 s123 s124 s125 s126 s127 s128 s129 s130 s131 s132 s133 s134 s135 s136 s137 s138 s139 s140 s141 s142 s143 s144 s145 s146 s147 s148 s149 s150 s151 s152 s153 s154 s155 s156 s157 s158 s159 s160 s161 s162 s163 s164 s165 s166 s167 s168 s169 s170 s171 s172 s173 s174 s175 s176 s177 s178 s179 s180 s181 s182 s183 s184 s185 s186 s187 s188 s189 s190 s191 s192 s193 s194 s195 s196 s197 s198 s199 s200 s201 s202 s203 s204 s205 s206 s207 s208 s209 s210 s211 s212 s213 s214 s215 s216 s217 s218 s219 s220 s221 s222 s223 s224 s225 s226 s227 s228 s229 s230 s231 s232 s233 s234 s235 s236 s237 s238 s239 s240 s241 s242 s243 s244 s245 s246 s247 s248 s249 s250 s251 s252 s253 s254 s255 s256 s257 s258 s259 s260 s261 s262 s263 s264 s265 s266 s267 s268 : Value} (hQP : ∀ c (a : Act) d v w, Q (.panic c) (a.put d v) w → Q (.panic c) a w) (hQ : ∀ (u11 u12 u13 u14 u15 u16 u17 u18 u19 u20 u21 u53 u54 u55 u56 u57 u58 u59 u60 u61 u62 u63 u64 u65 u66 u67 u68 u69 u70 u71 u72 u73 u74 u75 u76 u77 u78 u79 u80 u81 u82 u83 u84 u85 u86 u87 u88 u89 u90 u91 u92 u93 u94 u95 u96 u97 u98 u99 u100 u101 u102 u103 u104 u105 u106 u107 u108 u109 u110 u111 u112 u113 u114 u115 u116 u117 u118 u119 u120 u121 u122 u123 u124 u125 u126 u127 u128 u129 u130 u131 u132 u133 u134 u135 u136 u137 u138 u139 u140 u141 u142 u143 u144 u145 u146 u147 u148 u149 u150 u151 u152 u153 u154 u155 u156 u157 u158 u159 u160 u161 u162 u163 u164 u165 u166 u167 u168 u169 u170 u171 u172 u173 u174 u175 u176 u177 u178 u179 u180 u181 u182 u183 u184 u185 u186 u187 u188 u189 u190 u191 u192 u193 u194 u195 u196 u197 u198 u199 u200 u201 u202 u203 u204 u205 u206 u207 u208 u209 u210 u211 u212 u213 u214 u215 u216 u217 u218 u219 u220 u221 u222 u223 u224 u225 u226 u227 u228 u229 u230 u231 u232 u233 u234 u235 u236 u237 u238 u239 u240 u241 u242 u243 u244 u245 u246 u247 u248 u249 : Value) (wx : World), CH w g U E (hB E N) wx → Q .normal ⟨(s0 :: .slice (some ⟨kg, 0, none⟩) 64 kc :: s2 :: s3 :: s4 :: .pointer (some ⟨w.heap.size, 0, none⟩) :: s6 :: .slice (some ⟨g, 0, none⟩) U q :: s8 :: s9 :: .int .i64 (U : Nat) :: u11 :: u12 :: u13 :: u14 :: u15 :: u16 :: u17 :: u18 :: u19 :: u20 :: u21 :: s22 :: s23 :: s24 :: s25 :: s26 :: s27 :: s28 :: s29 :: s30 :: s31 :: s32 :: s33 :: s34 :: s35 :: s36 :: s37 :: s38 :: s39 :: s40 :: s41 :: s42 :: s43 :: s44 :: s45 :: s46 :: s47 :: s48 :: s49 :: s50 :: s51 :: s52 :: u53 :: u54 :: u55 :: u56 :: u57 :: u58 :: u59 :: u60 :: u61 :: u62 :: u63 :: u64 :: u65 :: u66 :: u67 :: u68 :: u69 :: u70 :: u71 :: u72 :: u73 :: u74 :: u75 :: u76 :: u77 :: u78 :: u79 :: u80 :: u81 :: u82 :: u83 :: u84 :: u85 :: u86 :: u87 :: u88 :: u89 :: u90 :: u91 :: u92 :: u93 :: u94 :: u95 :: u96 :: u97 :: u98 :: u99 :: u100 :: u101 :: u102 :: u103 :: u104 :: u105 :: u106 :: u107 :: u108 :: u109 :: u110 :: u111 :: u112 :: u113 :: u114 :: u115 :: u116 :: u117 :: u118 :: u119 :: u120 :: u121 :: u122 :: u123 :: u124 :: u125 :: u126 :: u127 :: u128 :: u129 :: u130 :: u131 :: u132 :: u133 :: u134 :: u135 :: u136 :: u137 :: u138 :: u139 :: u140 :: u141 :: u142 :: u143 :: u144 :: u145 :: u146 :: u147 :: u148 :: u149 :: u150 :: u151 :: u152 :: u153 :: u154 :: u155 :: u156 :: u157 :: u158 :: u159 :: u160 :: u161 :: u162 :: u163 :: u164 :: u165 :: u166 :: u167 :: u168 :: u169 :: u170 :: u171 :: u172 :: u173 :: u174 :: u175 :: u176 :: u177 :: u178 :: u179 :: u180 :: u181 :: u182 :: u183 :: u184 :: u185 :: u186 :: u187 :: u188 :: u189 :: u190 :: u191 :: u192 :: u193 :: u194 :: u195 :: u196 :: u197 :: u198 :: u199 :: u200 :: u201 :: u202 :: u203 :: u204 :: u205 :: u206 :: u207 :: u208 :: u209 :: u210 :: u211 :: u212 :: u213 :: u214 :: u215 :: u216 :: u217 :: u218 :: u219 :: u220 :: u221 :: u222 :: u223 :: u224 :: u225 :: u226 :: u227 :: u228 :: u229 :: u230 :: u231 :: u232 :: u233 :: u234 :: u235 :: u236 :: u237 :: u238 :: u239 :: u240 :: u241 :: u242 :: u243 :: u244 :: u245 :: u246 :: u247 :: u248 :: u249 :: s250 :: s251 :: s252 :: s253 :: s254 :: s255 :: s256 :: s257 :: s258 :: s259 :: s260 :: s261 :: s262 :: s263 :: s264 :: s265 :: s266 :: s267 :: s268 :: []).toArray, []⟩ wx) : ((Tryd.f15.body.bind (blkIn 4)).getD .skip).wp Tryd.prog Q ⟨(s0 :: .slice (some ⟨kg, 0, none⟩) 64 kc :: s2 :: s3 :: s4 :: .pointer (some ⟨w.heap.size, 0, none⟩) :: s6 :: .slice (some ⟨g, 0, none⟩) U q :: s8 :: s9 :: .int .i64 0 :: s11 :: s12 :: s13 :: s14 :: s15 :: s16 :: s17 :: s18 :: s19 :: s20 :: s21 :: s22 :: s23 :: s24 :: s25 :: s26 :: s27 :: s28 :: s29 :: s30 :: s31 :: s32 :: s33 :: s34 :: s35 :: s36 :: s37 :: s38 :: s39 :: s40 :: s41 :: s42 :: s43 :: s44 :: s45 :: s46 :: s47 :: s48 :: s49 :: s50 :: s51 :: s52 :: s53 :: s54 :: s55 :: s56 :: s57 :: s58 :: s59 :: s60 :: s61 :: s62 :: s63 :: s64 :: s65 :: s66 :: s67 :: s68 :: s69 :: s70 :: s71 :: s72 :: s73 :: s74 :: s75 :: s76 :: s77 :: s78 :: s79 :: s80 :: s81 :: s82 :: s83 :: s84 :: s85 :: s86 :: s87 :: s88 :: s89 :: s90 :: s91 :: s92 :: s93 :: s94 :: s95 :: s96 :: s97 :: s98 :: s99 :: s100 :: s101 :: s102 :: s103 :: s104 :: s105 :: s106 :: s107 :: s108 :: s109 :: s110 :: s111 :: s112 :: s113 :: s114 :: s115 :: s116 :: s117 :: s118 :: s119 :: s120 :: s121 :: s122 :: s123 :: s124 :: s125 :: s126 :: s127 :: s128 :: s129 :: s130 :: s131 :: s132 :: s133 :: s134 :: s135 :: s136 :: s137 :: s138 :: s139 :: s140 :: s141 :: s142 :: s143 :: s144 :: s145 :: s146 :: s147 :: s148 :: s149 :: s150 :: s151 :: s152 :: s153 :: s154 :: s155 :: s156 :: s157 :: s158 :: s159 :: s160 :: s161 :: s162 :: s163 :: s164 :: s165 :: s166 :: s167 :: s168 :: s169 :: s170 :: s171 :: s172 :: s173 :: s174 :: s175 :: s176 :: s177 :: s178 :: s179 :: s180 :: s181 :: s182 :: s183 :: s184 :: s185 :: s186 :: s187 :: s188 :: s189 :: s190 :: s191 :: s192 :: s193 :: s194 :: s195 :: s196 :: s197 :: s198 :: s199 :: s200 :: s201 :: s202 :: s203 :: s204 :: s205 :: s206 :: s207 :: s208 :: s209 :: s210 :: s211 :: s212 :: s213 :: s214 :: s215 :: s216 :: s217 :: s218 :: s219 :: s220 :: s221 :: s222 :: s223 :: s224 :: s225 :: s226 :: s227 :: s228 :: s229 :: s230 :: s231 :: s232 :: s233 :: s234 :: s235 :: s236 :: s237 :: s238 :: s239 :: s240 :: s241 :: s242 :: s243 :: s244 :: s245 :: s246 :: s247 :: s248 :: s249 :: s250 :: s251 :: s252 :: s253 :: s254 :: s255 :: s256 :: s257 :: s258 :: s259 :: s260 :: s261 :: s262 :: s263 :: s264 :: s265 :: s266 :: s267 :: s268 :: []).toArray, []⟩ wa := by
  conv => arg 2; whnf
  have HQ := Lib.hid hQ
  have HQP := Lib.hid hQP
  have HX := Lib.hid (And.intro hE (And.intro hU (And.intro hq hK)))
  have HN := Lib.hid hN
  have H0 := Lib.hid hc
  have HI : ∀ f, Hid ((Tryd.prog.info? 39).map (·.size) = some (ar .u32 8 f).size) := fun f => Lib.hid (by rw [ar_size]; exact infoEight)
  clear hQ hQP hE hU hq hK hc hN
  go_wp2_with fail
  go_loopw [10] (fun i wr => ∃ k y : Nat, k ≤ N ∧ y = 64 * k ∧ i = .int .i64 (y : Nat) ∧ Hid (CH w g U E (hB E k) wr)) (fun i _ => U - (intOf i).toNat)
  case atStart => exact ⟨0, 0, by omega, rfl, rfl, H0⟩
  case round =>
    obtain ⟨k, y, hk, hy, rfl, H⟩ := hrel
    clear H0
    have hUN := HN.out
    have hU2 := HX.out.2.1
    have hy0 : (0 : Int) ≤ y := by omega
    by_cases hlt : k < N
    · have hlt' : (y : Int) < U := by omega
      have HY := Lib.hid (show y + 64 ≤ U ∧ y = 64 * k ∧ k < N from by omega)
      obtain ⟨x, hx⟩ : ∃ x, sw (fun j => E (y + j)) = x := ⟨_, rfl⟩
      obtain ⟨h, hh⟩ : ∃ h, hB E k = h := ⟨_, rfl⟩
      have H6 := Lib.hid (show ∀ j, j < 16 → x j = nb (E (y + 4 * j)) (E (y + 4 * j + 1)) (E (y + 4 * j + 2)) (E (y + 4 * j + 3)) from fun j hj => by rw [← hx, sw_lo _ hj]; rfl)
      have H8 := Lib.hid (show ∀ j, 16 ≤ j → j < 64 → x j = (shf 17 19 10 (x (j - 2)) + x (j - 7) + shf 7 18 3 (x (j - 15)) + x (j - 16)) % 4294967296 from fun j hj _ => by rw [← hx, sw_hi _ hj])
      have HNX := Lib.hid (show hB E (k + 1) = hmx h fun j => E (y + j) from by rw [hB, hh, hy])
      rw [hh] at H
      have HXS := Lib.hid hx
      obtain ⟨B, hB'⟩ : ∃ B, wr.heap.size = B := ⟨_, rfl⟩
      have H1 := Lib.hid (show CW w g U E h B (.slice (some ⟨B, 0, none⟩) 0 0) 0 x (wr.alloc (.cells #[] 38)) from by
        have h1 := World.ownsRow_made (base := B) (e := 38) (size := 1) wr #[] 0 (by omega) (by decide) (by simp)
        rw [hB'] at h1
        exact ⟨H.out.below ((Below.refl _ _).alloc (Nat.le_refl _) _), by simpa [px] using h1, by rw [← hB']; exact H.out.hg.2⟩)
      clear hh hx hy hUN hU2 H hlt hk
      go_upto_block 6 with fail
      try rw [hB']
      refine hash_b6 (w := w) (h := h) (x := x) HX.out.1 HY.out.1 HX.out.2.1 HX.out.2.2.1 H6.out H1.out (fun c _ _ _ _ h => HQP.out c _ _ _ _ h) ?_
      intro p13 p60 p61 p62 p63 p64 p65 p66 p67 p68 p69 p70 p71 p72 p73 p74 p75 p76 p77 p78 p79 p80 p81 p82 p83 p84 p85 p86 p87 p88 p89 p90 p91 p92 p93 p94 p95 p96 p97 p98 p99 G c w6 hc6
      have H2 := Lib.hid hc6
      clear hc6 H1 H6 hB'
      go_upto_block 8 with fail
      refine hash_b8 (w := w) (h := h) (x := x) H8.out H2.out (fun c _ _ _ _ h => HQP.out c _ _ _ _ h) ?_
      intro p15 p16 p100 p101 p102 p103 p104 p105 p106 p107 p108 p109 p110 p111 p112 p113 p114 p115 p116 p117 p118 p119 p120 p121 p122 p123 p124 p125 p126 p127 p128 p129 p130 p131 p132 p133 p134 p135 p136 p137 p138 p139 p140 p141 p142 p143 p144 p145 G2 c2 w8 hc8
      obtain ⟨V, hV⟩ : ∃ V, w8.heap.size = V := ⟨_, rfl⟩
      have HR0 := Lib.hid hc8.ch.r0
      have HRV := Lib.hid (show (w8.alloc (.cells #[.int .u32 0, .int .u32 0, .int .u32 0, .int .u32 0, .int .u32 0, .int .u32 0, .int .u32 0, .int .u32 0] 39)).heap[V]? = some (.cells #[.int .u32 0, .int .u32 0, .int .u32 0, .int .u32 0, .int .u32 0, .int .u32 0, .int .u32 0, .int .u32 0] 39 (0, 0)) from by rw [← hV]; exact heap_alloc_new _ _)
      have H3 := Lib.hid (show CV w g U E h G2 V x h ((w8.alloc (.cells #[.int .u32 0, .int .u32 0, .int .u32 0, .int .u32 0, .int .u32 0, .int .u32 0, .int .u32 0, .int .u32 0] 39)).setRow V (ar .u32 8 h)) from by have h1 := CV.start hc8 (old := #[.int .u32 0, .int .u32 0, .int .u32 0, .int .u32 0, .int .u32 0, .int .u32 0, .int .u32 0, .int .u32 0]) rfl; rw [hV] at h1; exact h1)
      clear hc8 H2 H8
      go_upto_block 10 with (first | (refine wpList_load_row rfl 39 _ rfl w.heap.size rfl 39 _ (0, 0) _ HR0.out Tryd.underlying39 rfl (HI h).out ?_) | (refine wpList_store_row rfl 39 _ _ rfl V (ar .u32 8 h) rfl rfl 39 _ HRV.out (HI h).out (by rw [ar_size]; rfl) (ar_one _ _ _) ?_))
      try rw [hV]
      refine hash_b10 (w := w) (h := h) (x := x) HX.out.2.2.2 H3.out ?_
      intro p19 p20 p147 p148 p149 p150 p151 p152 p153 p154 p155 p156 p157 p158 p159 p160 p161 p162 p163 p164 p165 p166 p167 p168 p169 p170 p171 p172 p173 p174 p175 p176 p177 p178 p179 p180 p181 p182 p183 p184 p185 p186 p187 p188 p189 p190 p191 p192 p193 p194 p195 p196 p197 p198 p199 p200 p201 p202 p203 p204 p205 p206 p207 p208 p209 p210 p211 p212 p213 p214 p215 p216 p217 p218 p219 p220 p221 p222 p223 p224 p225 p226 p227 p228 p229 p230 p231 p232 p233 p234 p235 p236 w10 hc10
      obtain ⟨r, hr⟩ : ∃ r, rds h x 64 = r := ⟨_, rfl⟩
      have HRR := Lib.hid hr
      rw [hr] at hc10
      have H4 := Lib.hid (show CS w g U E h V r w10 from ⟨hc10.ch, hc10.rv, hc10.lt.1⟩)
      clear hc10 H3 HR0 HRV hV hr
      go_upto_block 12 with fail
      refine hash_b12 (w := w) (h := h) (r := r) H4.out ?_
      intro p237 p238 p239 p240 p241 p242 p243 p244 p245 p246 p247 p248 p249 w12 hc12
      have H5 := Lib.hid (show CH w g U E (hB E (k + 1)) w12 from by
        rw [HNX.out]
        refine hc12.ch.congr fun j hj => ?_
        rw [← HRR.out, ← HXS.out]
        exact adD_hmx _ _ j hj)
      clear hc12 H4
      have hwy : IntKind.i64.wrap ((y : Int) + 64) = (y : Int) + 64 := by rw [IntKind.wrap_i64]; have := HY.out.1; have := HX.out.2.1; omega
      go_wp2_with fail
      go_roundw
      case rel => exact ⟨k + 1, y + 64, by have := HY.out.2.2; omega, by have := HY.out.2.1; omega, by go_num, H5⟩
      case measure => simp [intOf]; have := HY.out.1; omega
    · obtain rfl : k = N := by omega
      have hyU : y = U := by omega
      clear hUN hy
      subst hyU
      have hyy : ¬ (y : Int) < y := by omega
      have HB := Lib.hid H.out
      clear H
      go_wp2_with fail
      exact HQ.out _ _ _ _ _ _ _ _ _ _ _ _ _ _ _ _ _ _ _ _ _ _ _ _ _ _ _ _ _ _ _ _ _ _ _ _ _ _ _ _ _ _ _ _ _ _ _ _ _ _ _ _ _ _ _ _ _ _ _ _ _ _ _ _ _ _ _ _ _ _ _ _ _ _ _ _ _ _ _ _ _ _ _ _ _ _ _ _ _ _ _ _ _ _ _ _ _ _ _ _ _ _ _ _ _ _ _ _ _ _ _ _ _ _ _ _ _ _ _ _ _ _ _ _ _ _ _ _ _ _ _ _ _ _ _ _ _ _ _ _ _ _ _ _ _ _ _ _ _ _ _ _ _ _ _ _ _ _ _ _ _ _ _ _ _ _ _ _ _ _ _ _ _ _ _ _ _ _ _ _ _ _ _ _ _ _ _ _ _ _ _ _ _ _ _ _ _ _ _ _ _ _ _ _ _ _ _ _ _ HB.out
end Go.Proofs.YtkecehcnoihiiaaDoor
namespace Go.Proofs.YtkecehcnoihiiaaDoor
open Go.RowKit

theorem own_below {base : Nat} {w w2 w3 : World} {v : Value} {n : Nat} {xs : List Value} {o : Obj} (hown : w2.ownsRow base 5 1 v n xs) (hb : Below base w w2) (hbs : base ≤ w2.heap.size) (hg : (w2.alloc o).grownBy w3 v.ownBlock) : Below base w w3 :=
  (hb.alloc hbs _).grown hg (by simp; omega) (fun j hj => (hown.lt j hj).1)
theorem wrap_8 {e s b : Nat} (h : e / 2 ^ s % 256 = b) : IntKind.u8.wrap ((e : Int) / 2 ^ s) = (b : Int) := by
  rw [IntKind.wrap_u8]
  have h2 : ((e : Int) / 2 ^ s) = ((e / 2 ^ s : Nat) : Int) := by simp
  rw [h2]
  omega
theorem spad_n (f : Nat → Nat) (n : Nat) : spad f n n = 128 := by
  unfold spad sE
  rw [if_neg (by omega), Nat.sub_self, if_pos rfl]
theorem spad_0 {f : Nat → Nat} {n j : Nat} (h : n < j) (h2 : j + 8 < sT n) : spad f n j = 0 := by
  unfold sT at h2
  unfold spad sE
  rw [if_neg (by omega), if_neg (by omega), if_pos (by omega)]
theorem spad_m {f : Nat → Nat} {n j k : Nat} (h2 : j + 8 = sT n + k) : spad f n j = 8 * n / 2 ^ (56 - 8 * k) % 256 := by
  have ha : 1 ≤ aheadS n := by unfold aheadS; omega
  unfold sT at h2
  unfold spad sE
  rw [if_neg (by omega), if_neg (by omega), if_neg (by omega), show j - n - aheadS n = k by omega]
set_option maxRecDepth 100000 in
set_option maxHeartbeats 8000000 in
-- NOUGHTS BEHIND.
theorem hash_b0 {w0 wa : World} {f : Nat → Nat} {n g0 q0 L : Nat} (hn : n < 1500000) (hL : sT n = L) (hc : Own8 w0.heap.size (spad f n) (n + 1) (.slice (some ⟨g0, 0, none⟩) (n + 1) q0) wa ∧ Below w0.heap.size w0 wa) {Q : Exit → Act → World → Prop}
    {s0 s1 s2 s3 s4 s5 s6 s8 s9 s10 s11 s12 s13 s14 s15 s16 s17 s18 s19 s20 s21 s22 s23 s24 s25 s26 s27 s28 s29 s30 s31 s32 s33 s34 s35 s36 s37 s38 s39 s40 s41 s42 s43 s44 s45 s46 s47 s48 s49 s50 s51 s52 s53 s54 s55 s56 s57 s58 s59 s60 s61 s62 s63 s64 s65 s66 s67 s68 s69 s70 s71 s72 s73 s74 s75 s76 s77 s78 s79 s80 s81 s82 s83 s84 s85 s86 s87 s88 s89 s90 s91 s92 s93 s94 s95 s96 s97 s98 s99 s100 s101 s102 s103 s104 s105 s106 s107 s108 s109 s110 s111 s112 s113 s114 s115 s116 s117 s118 s119 s120 s121 s122 s123 s124 s125 s126 s127 s128 s129 s130 s131 s132 s133 s134 s135 s136 s137 s138 s139 s140 s141 s142 s143 s144 s145 s146 s147 s148 s149 s150 s151 s152 s153 s154 s155 s156 s157 s158 s159 s160 s161 s162 s163 s164 s165 s166 s167 s168 s169 s170 s171 s172 s173 s174 s175 s176 s177 s178 s179 s180 s181 s182 s183 s184 s185 s186 s187 s188 s189 s190 s191 s192 s193 s194 s195 s196 s197 s198 s199 s200 s201 s202 s203 s204 s205 s206 s207 s208 s209 s210 s211 s212 s213 s214 s215 s216 s217 s218 s219 s220 s221 s222 s223 s224 s225 s226 s227 s228 s229 s230 s231 s232 s233 s234 s235 s236 s237 s238 s239 s240 s241 s242 s243 s244 s245 s246 s247 s248 s249 s250 s251 s252 s253 s254 s255 s256 s257 s258 s259 s260 s261 s262 s263 s264 s265 s266 s267 s268 : Value} (hQ : ∀ (u33 u34 u35 u36 u37 u38 u39 : Value) (g c q : Nat) (wx : World), c + 8 = L → n + 1 ≤ c → Own8 w0.heap.size (spad f n) c (.slice (some ⟨g, 0, none⟩) c q) wx ∧ Below w0.heap.size w0 wx → Q .normal ⟨(s0 :: s1 :: s2 :: s3 :: s4 :: s5 :: s6 :: .slice (some ⟨g, 0, none⟩) c q :: s8 :: s9 :: s10 :: s11 :: s12 :: s13 :: s14 :: s15 :: s16 :: s17 :: s18 :: s19 :: s20 :: s21 :: s22 :: s23 :: s24 :: s25 :: s26 :: s27 :: s28 :: s29 :: s30 :: s31 :: s32 :: u33 :: u34 :: u35 :: u36 :: u37 :: u38 :: u39 :: s40 :: s41 :: s42 :: s43 :: s44 :: s45 :: s46 :: s47 :: s48 :: s49 :: s50 :: s51 :: s52 :: s53 :: s54 :: s55 :: s56 :: s57 :: s58 :: s59 :: s60 :: s61 :: s62 :: s63 :: s64 :: s65 :: s66 :: s67 :: s68 :: s69 :: s70 :: s71 :: s72 :: s73 :: s74 :: s75 :: s76 :: s77 :: s78 :: s79 :: s80 :: s81 :: s82 :: s83 :: s84 :: s85 :: s86 :: s87 :: s88 :: s89 :: s90 :: s91 :: s92 :: s93 :: s94 :: s95 :: s96 :: s97 :: s98 :: s99 :: s100 :: s101 :: s102 :: s103 :: s104 :: s105 :: s106 :: s107 :: s108 :: s109 :: s110 :: s111 :: s112 :: s113 :: s114 :: s115 :: s116 :: s117 :: s118 :: s119 :: s120 :: s121 :: s122 :: s123 :: s124 :: s125 :: s126 :: s127 :: s128 :: s129 :: s130 :: s131 :: s132 :: s133 :: s134 :: s135 :: s136 :: s137 :: s138 :: s139 :: s140 :: s141 :: s142 :: s143 :: s144 :: s145 :: s146 :: s147 :: s148 :: s149 :: s150 :: s151 :: s152 :: s153 :: s154 :: s155 :: s156 :: s157 :: s158 :: s159 :: s160 :: s161 :: s162 :: s163 :: s164 :: s165 :: s166 :: s167 :: s168 :: s169 :: s170 :: s171 :: s172 :: s173 :: s174 :: s175 :: s176 :: s177 :: s178 :: s179 :: s180 :: s181 :: s182 :: s183 :: s184 :: s185 :: s186 :: s187 :: s188 :: s189 :: s190 :: s191 :: s192 :: s193 :: s194 :: s195 :: s196 :: s197 :: s198 :: s199 :: s200 :: s201 :: s202 :: s203 :: s204 :: s205 :: s206 :: s207 :: s208 :: s209 :: s210 :: s211 :: s212 :: s213 :: s214 :: s215 :: s216 :: s217 :: s218 :: s219 :: s220 :: s221 :: s222 :: s223 :: s224 :: s225 :: s226 :: s227 :: s228 :: s229 :: s230 :: s231 :: s232 :: s233 :: s234 :: s235 :: s236 :: s237 :: s238 :: s239 :: s240 :: s241 :: s242 :: s243 :: s244 :: s245 :: s246 :: s247 :: s248 :: s249 :: s250 :: s251 :: s252 :: s253 :: s254 :: s255 :: s256 :: s257 :: s258 :: s259 :: s260 :: s261 :: s262 :: s263 :: s264 :: s265 :: s266 :: s267 :: s268 :: []).toArray, []⟩ wx) : ((Tryd.f15.body.bind (blkIn 0)).getD .skip).wp Tryd.prog Q ⟨(s0 :: s1 :: s2 :: s3 :: s4 :: s5 :: s6 :: .slice (some ⟨g0, 0, none⟩) (n + 1) q0 :: s8 :: s9 :: s10 :: s11 :: s12 :: s13 :: s14 :: s15 :: s16 :: s17 :: s18 :: s19 :: s20 :: s21 :: s22 :: s23 :: s24 :: s25 :: s26 :: s27 :: s28 :: s29 :: s30 :: s31 :: s32 :: s33 :: s34 :: s35 :: s36 :: s37 :: s38 :: s39 :: s40 :: s41 :: s42 :: s43 :: s44 :: s45 :: s46 :: s47 :: s48 :: s49 :: s50 :: s51 :: s52 :: s53 :: s54 :: s55 :: s56 :: s57 :: s58 :: s59 :: s60 :: s61 :: s62 :: s63 :: s64 :: s65 :: s66 :: s67 :: s68 :: s69 :: s70 :: s71 :: s72 :: s73 :: s74 :: s75 :: s76 :: s77 :: s78 :: s79 :: s80 :: s81 :: s82 :: s83 :: s84 :: s85 :: s86 :: s87 :: s88 :: s89 :: s90 :: s91 :: s92 :: s93 :: s94 :: s95 :: s96 :: s97 :: s98 :: s99 :: s100 :: s101 :: s102 :: s103 :: s104 :: s105 :: s106 :: s107 :: s108 :: s109 :: s110 :: s111 :: s112 :: s113 :: s114 :: s115 :: s116 :: s117 :: s118 :: s119 :: s120 :: s121 :: s122 :: s123 :: s124 :: s125 :: s126 :: s127 :: s128 :: s129 :: s130 :: s131 :: s132 :: s133 :: s134 :: s135 :: s136 :: s137 :: s138 :: s139 :: s140 :: s141 :: s142 :: s143 :: s144 :: s145 :: s146 :: s147 :: s148 :: s149 :: s150 :: s151 :: s152 :: s153 :: s154 :: s155 :: s156 :: s157 :: s158 :: s159 :: s160 :: s161 :: s162 :: s163 :: s164 :: s165 :: s166 :: s167 :: s168 :: s169 :: s170 :: s171 :: s172 :: s173 :: s174 :: s175 :: s176 :: s177 :: s178 :: s179 :: s180 :: s181 :: s182 :: s183 :: s184 :: s185 :: s186 :: s187 :: s188 :: s189 :: s190 :: s191 :: s192 :: s193 :: s194 :: s195 :: s196 :: s197 :: s198 :: s199 :: s200 :: s201 :: s202 :: s203 :: s204 :: s205 :: s206 :: s207 :: s208 :: s209 :: s210 :: s211 :: s212 :: s213 :: s214 :: s215 :: s216 :: s217 :: s218 :: s219 :: s220 :: s221 :: s222 :: s223 :: s224 :: s225 :: s226 :: s227 :: s228 :: s229 :: s230 :: s231 :: s232 :: s233 :: s234 :: s235 :: s236 :: s237 :: s238 :: s239 :: s240 :: s241 :: s242 :: s243 :: s244 :: s245 :: s246 :: s247 :: s248 :: s249 :: s250 :: s251 :: s252 :: s253 :: s254 :: s255 :: s256 :: s257 :: s258 :: s259 :: s260 :: s261 :: s262 :: s263 :: s264 :: s265 :: s266 :: s267 :: s268 :: []).toArray, []⟩ wa := by
  conv => arg 2; whnf
  have HQ := Lib.hid hQ
  have H0 := Lib.hid hc
  obtain ⟨i0, hi, hz0, hz1, hz2⟩ := info_partsB info8
  have hL0 : L % 64 = 0 ∧ n + 9 ≤ L ∧ L < n + 73 := by unfold sT aheadS at hL; omega
  obtain ⟨hL1, hL2, hL3⟩ := hL0
  have HL := Lib.hid hL
  clear hQ hc hL
  go_wp2_with fail
  go_loopw [7] (fun v wr => ∃ c : Nat, n + 1 ≤ c ∧ c + 8 ≤ L ∧ (∃ g q, v = .slice (some ⟨g, 0, none⟩) c q) ∧ Hid (Own8 w0.heap.size (spad f n) c v wr ∧ Below w0.heap.size w0 wr)) (fun v _ => match v with | .slice _ c _ => L - c | _ => 0)
  case atStart => exact ⟨n + 1, by omega, by omega, ⟨_, _, rfl⟩, H0⟩
  case round =>
    obtain ⟨c, hc1, hc2, ⟨g, q, rfl⟩, H⟩ := hrel
    have hbs : w0.heap.size ≤ wr.heap.size := H.out.2.size
    have hc0 : (0 : Int) ≤ c := by omega
    clear H0
    by_cases h : c + 8 = L
    · have ht : ((c : Int) % 64 != 56) = false := by simp; omega
      have HB := Lib.hid (And.intro h (And.intro hc1 H.out))
      clear H
      go_wp2_with fail
      exact HQ.out _ _ _ _ _ _ _ _ _ _ _ HB.out.1 HB.out.2.1 HB.out.2.2
    · have ht : ((c : Int) % 64 != 56) = true := by simp; omega
      have HLc := HL.out
      go_wp2_with (at_builtin; refine wpList_append_lies _ rfl _ _ 22 rfl w0.heap.size 5 i0 (.int .u8 0) 1 1 Tryd.underlying22 hi hz0 hz1 hz2 rfl (by decide) _ (c) (p8 (spad f n) (c)) rfl (World.ownsRow.alloc H.out.1 _) ⟨wr.heap.size, 0, none⟩ 1 1 [.int .u8 0] rfl rfl (cell_one_new _ _ _) (by intro u hu; simp at hu; subst hu; rfl) (by omega) (by unfold maxLen; omega) (by omega) (by simp; omega) (wr.heap.size + 1) (by simp) ?_; intro g2 c2 w3 hown3 hgrow hat hlt3; (have hb3 := own_below H.out.1 H.out.2 H.out.2.size hgrow); (rw [p8_snoc (spad f n) (spad f n) (c) 0 (fun j hj => rfl) (by rw [spad_0 (by omega) (by omega)]; rfl)] at hown3); (have HQ1 := Lib.hid (And.intro hown3 hb3)); clear hgrow hat hlt3 hown3 hb3 H)
      go_roundw
      case rel => exact ⟨c + 1, by omega, by omega, ⟨_, _, rfl⟩, HQ1⟩
      case measure => simp; omega
set_option maxRecDepth 100000 in
set_option maxHeartbeats 8000000 in
-- THE COUNT OF BITS BEHIND.
theorem hash_b2 {w0 wa : World} {f : Nat → Nat} {n g0 q0 c L e8 : Nat} (hn : n < 1500000) (hL : sT n = L) (hcL : c + 8 = L) (he8 : 8 * n = e8) (hc : Own8 w0.heap.size (spad f n) c (.slice (some ⟨g0, 0, none⟩) c q0) wa ∧ Below w0.heap.size w0 wa) {Q : Exit → Act → World → Prop}
    {s0 s1 s2 s3 s4 s5 s6 s10 s11 s12 s13 s14 s15 s16 s17 s18 s19 s20 s21 s22 s23 s24 s25 s26 s27 s28 s29 s30 s31 s32 s33 s34 s35 s36 s37 s38 s39 s40 s41 s42 s43 s44 s45 s46 s47 s48 s49 s50 s51 s52 s53 s54 s55 s56 s57 s58 s59 s60 s61 s62 s63 s64 s65 s66 s67 s68 s69 s70 s71 s72 s73 s74 s75 s76 s77 s78 s79 s80 s81 s82 s83 s84 s85 s86 s87 s88 s89 s90 s91 s92 s93 s94 s95 s96 s97 s98 s99 s100 s101 s102 s103 s104 s105 s106 s107 s108 s109 s110 s111 s112 s113 s114 s115 s116 s117 s118 s119 s120 s121 s122 s123 s124 s125 s126 s127 s128 s129 s130 s131 s132 s133 s134 s135 s136 s137 s138 s139 s140 s141 s142 s143 s144 s145 s146 s147 s148 s149 s150 s151 s152 s153 s154 s155 s156 s157 s158 s159 s160 s161 s162 s163 s164 s165 s166 s167 s168 s169 s170 s171 s172 s173 s174 s175 s176 s177 s178 s179 s180 s181 s182 s183 s184 s185 s186 s187 s188 s189 s190 s191 s192 s193 s194 s195 s196 s197 s198 s199 s200 s201 s202 s203 s204 s205 s206 s207 s208 s209 s210 s211 s212 s213 s214 s215 s216 s217 s218 s219 s220 s221 s222 s223 s224 s225 s226 s227 s228 s229 s230 s231 s232 s233 s234 s235 s236 s237 s238 s239 s240 s241 s242 s243 s244 s245 s246 s247 s248 s249 s250 s251 s252 s253 s254 s255 s256 s257 s258 s259 s260 s261 s262 s263 s264 s265 s266 s267 s268 : Value} (hQ : ∀ (u40 u41 u42 u43 u44 u45 u46 u47 u48 u49 u50 u51 u52 : Value) (g q : Nat) (wx : World), Own8 w0.heap.size (spad f n) L (.slice (some ⟨g, 0, none⟩) L q) wx ∧ Below w0.heap.size w0 wx → Q .normal ⟨(s0 :: s1 :: s2 :: s3 :: s4 :: s5 :: s6 :: .slice (some ⟨g, 0, none⟩) L q :: .int .u64 (e8 : Nat) :: .int .i64 (-1) :: s10 :: s11 :: s12 :: s13 :: s14 :: s15 :: s16 :: s17 :: s18 :: s19 :: s20 :: s21 :: s22 :: s23 :: s24 :: s25 :: s26 :: s27 :: s28 :: s29 :: s30 :: s31 :: s32 :: s33 :: s34 :: s35 :: s36 :: s37 :: s38 :: s39 :: u40 :: u41 :: u42 :: u43 :: u44 :: u45 :: u46 :: u47 :: u48 :: u49 :: u50 :: u51 :: u52 :: s53 :: s54 :: s55 :: s56 :: s57 :: s58 :: s59 :: s60 :: s61 :: s62 :: s63 :: s64 :: s65 :: s66 :: s67 :: s68 :: s69 :: s70 :: s71 :: s72 :: s73 :: s74 :: s75 :: s76 :: s77 :: s78 :: s79 :: s80 :: s81 :: s82 :: s83 :: s84 :: s85 :: s86 :: s87 :: s88 :: s89 :: s90 :: s91 :: s92 :: s93 :: s94 :: s95 :: s96 :: s97 :: s98 :: s99 :: s100 :: s101 :: s102 :: s103 :: s104 :: s105 :: s106 :: s107 :: s108 :: s109 :: s110 :: s111 :: s112 :: s113 :: s114 :: s115 :: s116 :: s117 :: s118 :: s119 :: s120 :: s121 :: s122 :: s123 :: s124 :: s125 :: s126 :: s127 :: s128 :: s129 :: s130 :: s131 :: s132 :: s133 :: s134 :: s135 :: s136 :: s137 :: s138 :: s139 :: s140 :: s141 :: s142 :: s143 :: s144 :: s145 :: s146 :: s147 :: s148 :: s149 :: s150 :: s151 :: s152 :: s153 :: s154 :: s155 :: s156 :: s157 :: s158 :: s159 :: s160 :: s161 :: s162 :: s163 :: s164 :: s165 :: s166 :: s167 :: s168 :: s169 :: s170 :: s171 :: s172 :: s173 :: s174 :: s175 :: s176 :: s177 :: s178 :: s179 :: s180 :: s181 :: s182 :: s183 :: s184 :: s185 :: s186 :: s187 :: s188 :: s189 :: s190 :: s191 :: s192 :: s193 :: s194 :: s195 :: s196 :: s197 :: s198 :: s199 :: s200 :: s201 :: s202 :: s203 :: s204 :: s205 :: s206 :: s207 :: s208 :: s209 :: s210 :: s211 :: s212 :: s213 :: s214 :: s215 :: s216 :: s217 :: s218 :: s219 :: s220 :: s221 :: s222 :: s223 :: s224 :: s225 :: s226 :: s227 :: s228 :: s229 :: s230 :: s231 :: s232 :: s233 :: s234 :: s235 :: s236 :: s237 :: s238 :: s239 :: s240 :: s241 :: s242 :: s243 :: s244 :: s245 :: s246 :: s247 :: s248 :: s249 :: s250 :: s251 :: s252 :: s253 :: s254 :: s255 :: s256 :: s257 :: s258 :: s259 :: s260 :: s261 :: s262 :: s263 :: s264 :: s265 :: s266 :: s267 :: s268 :: []).toArray, []⟩ wx) : ((Tryd.f15.body.bind (blkIn 2)).getD .skip).wp Tryd.prog Q ⟨(s0 :: s1 :: s2 :: s3 :: s4 :: s5 :: s6 :: .slice (some ⟨g0, 0, none⟩) c q0 :: .int .u64 (e8 : Nat) :: .int .i64 7 :: s10 :: s11 :: s12 :: s13 :: s14 :: s15 :: s16 :: s17 :: s18 :: s19 :: s20 :: s21 :: s22 :: s23 :: s24 :: s25 :: s26 :: s27 :: s28 :: s29 :: s30 :: s31 :: s32 :: s33 :: s34 :: s35 :: s36 :: s37 :: s38 :: s39 :: s40 :: s41 :: s42 :: s43 :: s44 :: s45 :: s46 :: s47 :: s48 :: s49 :: s50 :: s51 :: s52 :: s53 :: s54 :: s55 :: s56 :: s57 :: s58 :: s59 :: s60 :: s61 :: s62 :: s63 :: s64 :: s65 :: s66 :: s67 :: s68 :: s69 :: s70 :: s71 :: s72 :: s73 :: s74 :: s75 :: s76 :: s77 :: s78 :: s79 :: s80 :: s81 :: s82 :: s83 :: s84 :: s85 :: s86 :: s87 :: s88 :: s89 :: s90 :: s91 :: s92 :: s93 :: s94 :: s95 :: s96 :: s97 :: s98 :: s99 :: s100 :: s101 :: s102 :: s103 :: s104 :: s105 :: s106 :: s107 :: s108 :: s109 :: s110 :: s111 :: s112 :: s113 :: s114 :: s115 :: s116 :: s117 :: s118 :: s119 :: s120 :: s121 :: s122 :: s123 :: s124 :: s125 :: s126 :: s127 :: s128 :: s129 :: s130 :: s131 :: s132 :: s133 :: s134 :: s135 :: s136 :: s137 :: s138 :: s139 :: s140 :: s141 :: s142 :: s143 :: s144 :: s145 :: s146 :: s147 :: s148 :: s149 :: s150 :: s151 :: s152 :: s153 :: s154 :: s155 :: s156 :: s157 :: s158 :: s159 :: s160 :: s161 :: s162 :: s163 :: s164 :: s165 :: s166 :: s167 :: s168 :: s169 :: s170 :: s171 :: s172 :: s173 :: s174 :: s175 :: s176 :: s177 :: s178 :: s179 :: s180 :: s181 :: s182 :: s183 :: s184 :: s185 :: s186 :: s187 :: s188 :: s189 :: s190 :: s191 :: s192 :: s193 :: s194 :: s195 :: s196 :: s197 :: s198 :: s199 :: s200 :: s201 :: s202 :: s203 :: s204 :: s205 :: s206 :: s207 :: s208 :: s209 :: s210 :: s211 :: s212 :: s213 :: s214 :: s215 :: s216 :: s217 :: s218 :: s219 :: s220 :: s221 :: s222 :: s223 :: s224 :: s225 :: s226 :: s227 :: s228 :: s229 :: s230 :: s231 :: s232 :: s233 :: s234 :: s235 :: s236 :: s237 :: s238 :: s239 :: s240 :: s241 :: s242 :: s243 :: s244 :: s245 :: s246 :: s247 :: s248 :: s249 :: s250 :: s251 :: s252 :: s253 :: s254 :: s255 :: s256 :: s257 :: s258 :: s259 :: s260 :: s261 :: s262 :: s263 :: s264 :: s265 :: s266 :: s267 :: s268 :: []).toArray, []⟩ wa := by
  conv => arg 2; whnf
  have HQ := Lib.hid hQ
  have H0 := Lib.hid hc
  obtain ⟨i0, hi, hz0, hz1, hz2⟩ := info_partsB info8
  have HL := Lib.hid (And.intro hL (And.intro hcL he8))
  have hc9 : c < 2000000 := by unfold sT aheadS at hL; omega
  have he0 : (0 : Int) ≤ e8 := by omega
  clear hQ hc hL hcL he8
  go_wp2_with fail
  go_loopw [7, 9] (fun v i wr => ∃ (k : Nat) (z : Int), k ≤ 8 ∧ z = 7 - (k : Int) ∧ i = .int .i64 z ∧ (∃ g q, v = .slice (some ⟨g, 0, none⟩) (c + k) q) ∧ Hid (Own8 w0.heap.size (spad f n) (c + k) v wr ∧ Below w0.heap.size w0 wr)) (fun _ i _ => (intOf i + 1).toNat)
  case atStart => exact ⟨0, 7, by omega, by omega, rfl, ⟨_, _, rfl⟩, H0⟩
  case round =>
    obtain ⟨k, z, hk, hz, rfl, ⟨g, q, rfl⟩, H2⟩ := hrel
    clear H0
    have hbs : w0.heap.size ≤ wr.heap.size := H2.out.2.size
    by_cases hlt : k < 8
    · obtain ⟨j, hj⟩ : ∃ j : Nat, z = (j : Int) := ⟨7 - k, by omega⟩
      subst hj
      have hk0 : (0 : Int) ≤ j := by omega
      have hj8 : (j : Int) < 8 := by omega
      obtain ⟨s, hs⟩ : ∃ s : Nat, 8 * (j : Int) = (s : Int) := ⟨8 * j, by omega⟩
      have hs0' : (0 : Int) ≤ s := by omega
      have hs1 : (s : Int) < 64 := by omega
      have hws : IntKind.i64.wrap (s : Int) = (s : Int) := by rw [IntKind.wrap_i64]; omega
      have hwu : IntKind.u64.wrap (s : Int) = (s : Int) := by rw [IntKind.wrap_u64]; omega
      obtain ⟨b, hb⟩ : ∃ b, e8 / 2 ^ s % 256 = b := ⟨_, rfl⟩
      have hwb := wrap_8 hb
      have hpd : spad f n (c + k) = b := by
        rw [spad_m (k := k) (by rw [HL.out.1]; have := HL.out.2.1; omega), ← hb, HL.out.2.2, show 56 - 8 * k = s by omega]
      have HB := Lib.hid hpd
      have HZJ := Lib.hid hz
      clear hb hpd hz
      go_wp2_with (at_builtin; refine wpList_append_lies _ rfl _ _ 22 rfl w0.heap.size 5 i0 (.int .u8 0) 1 1 Tryd.underlying22 hi hz0 hz1 hz2 rfl (by decide) _ (c + k) (p8 (spad f n) (c + k)) rfl (World.ownsRow.alloc H2.out.1 _) ⟨wr.heap.size, 0, none⟩ 1 1 [.int .u8 (b : Int)] rfl rfl (cell_one_new _ _ _) (by intro u hu; simp at hu; subst hu; rfl) (by omega) (by unfold maxLen; omega) (by omega) (by simp; omega) (wr.heap.size + 1) (by simp) ?_; intro g2 c2 w3 hown3 hgrow hat hlt3; (have hb3 := own_below H2.out.1 H2.out.2 H2.out.2.size hgrow); (rw [p8_snoc (spad f n) (spad f n) (c + k) (b : Int) (fun j hj => rfl) (by rw [HB.out])] at hown3); (have HQ1 := Lib.hid (And.intro hown3 hb3)); clear hgrow hat hlt3 hown3 hb3 H2)
      go_roundw
      case rel => exact ⟨k + 1, (j : Int) - 1, by omega, by have := HZJ.out; omega, by go_num, ⟨_, _, rfl⟩, HQ1⟩
      case measure => simp [intOf]
    · obtain rfl : k = 8 := by omega
      obtain rfl : z = -1 := by omega
      have HB := H2.out
      rw [HL.out.2.1] at HB ⊢
      have HB := Lib.hid HB
      clear H2
      go_wp2_with fail
      exact HQ.out _ _ _ _ _ _ _ _ _ _ _ _ _ _ _ _ HB.out
end Go.Proofs.YtkecehcnoihiiaaDoor
