/- What word.product, word.narrow, word.Mul and word.Of come to, called with any words in any world. (With it, merged: Shelf · Num · Add · Div64 · DivW · Guess · Mul · Adds · Product · Wide · Muls.) -/
import Derived.Shelf.Strings.Builder1
import Derived.Shelf.Strings.Builder2
import Derived.Shelf.Small.Bits
import Derived.Shelf.Strings.BuilderF
import Derived.Shelf.Strconv.Itoa0
import Derived.Shelf.Strconv.Itoa1
import Derived.Shelf.LaysM
import Derived.Shelf.Strconv.Itoa2
import Derived.Shelf.Strings.Prefix
import Derived.Shelf.Bits.Mul64
import Derived.Shelf.Strings.Repeat
import Derived.Test.YthfadinocadhaaaDoorProg
import Derived.WalkKit
import Derived.Laws.Externs
import Derived.WalkSpells
import Derived.WalkLawsBesides
import Derived.LoopN
import Derived.Handy
import Derived.Outline
import Derived.RegionTactic
import Derived.BigRegion
import Derived.Deep.LoopGhost
import Derived.BigQuiet
import Derived.Lib.Hide
import Derived.Deep.QuietTactic
import Derived.Lib.ItoaNum
import Derived.Laws.Bits64b
namespace Go.Proofs
open Go.Shelf
def Tryd.lays170_ren : Go.Shelf.Ren := ⟨fun | 170 => 104 | n => n, fun | 70 => 94 | 3 => 3 | 0 => 0 | 72 => 96 | 37 => 35 | 5 => 5 | n => n, fun | n => n⟩
theorem Tryd.lays170 : Go.Proofs.Lays.n170 Tryd.prog Tryd.lays170_ren := {
  mixed := by kernel_rfl
  f170 := Tryd.func104.trans (congrArg some (by kernel_rfl))
  t0 := Tryd.underlying0
  a0 := Tryd.isAgg0
  z0 := Tryd.sizeOf0
  v0 := Tryd.zeroValue0
  t3 := Tryd.underlying3
  a3 := Tryd.isAgg3
  z3 := Tryd.sizeOf3
  v3 := Tryd.zeroValue3
  t37 := Tryd.underlying35
  a37 := Tryd.isAgg35
  z37 := Tryd.sizeOf35
  v37 := Tryd.zeroValue35
  t70 := Tryd.underlying94
  a70 := Tryd.isAgg94
  z70 := Tryd.sizeOf94
  v70 := Tryd.zeroValue94
  t72 := Tryd.underlying96
  a72 := Tryd.isAgg96
  z72 := Tryd.sizeOf96
  v72 := Tryd.zeroValue96 }
open Go.RowKit in
/-- (*strings.Builder).Len: "Len returns the number of accumulated bytes; b.Len() == len(b.String()).": the world is as it was. (LAID: no walk: one application.) -/
theorem Tryd.Builder_Len (B b : Nat) (bs : List Value) (w : World) (h : Lib.IsBuilder 96 5 B b bs w) :
    Calls Tryd.prog 104 #[.pointer (some ⟨b, 0, none⟩)] w fun e w' => e = .returned (.int .i64 bs.length) ∧ w' = w := Any.Builder_Len Tryd.lays170 B b bs w h
def Tryd.lays169_ren : Go.Shelf.Ren := ⟨fun | 169 => 105 | n => n, fun | 70 => 94 | 9 => 9 | 0 => 0 | 72 => 96 | 37 => 35 | 127 => 115 | 3 => 3 | 5 => 5 | n => n, fun | n => n⟩
theorem Tryd.lays169 : Go.Proofs.Lays.n169 Tryd.prog Tryd.lays169_ren := {
  mixed := by kernel_rfl
  f169 := Tryd.func105.trans (congrArg some (by kernel_rfl))
  t0 := Tryd.underlying0
  a0 := Tryd.isAgg0
  z0 := Tryd.sizeOf0
  v0 := Tryd.zeroValue0
  t3 := Tryd.underlying3
  a3 := Tryd.isAgg3
  z3 := Tryd.sizeOf3
  v3 := Tryd.zeroValue3
  t9 := Tryd.underlying9
  a9 := Tryd.isAgg9
  z9 := Tryd.sizeOf9
  v9 := Tryd.zeroValue9
  t37 := Tryd.underlying35
  a37 := Tryd.isAgg35
  z37 := Tryd.sizeOf35
  v37 := Tryd.zeroValue35
  t70 := Tryd.underlying94
  a70 := Tryd.isAgg94
  z70 := Tryd.sizeOf94
  v70 := Tryd.zeroValue94
  t72 := Tryd.underlying96
  a72 := Tryd.isAgg96
  z72 := Tryd.sizeOf96
  v72 := Tryd.zeroValue96
  t127 := Tryd.underlying115
  a127 := Tryd.isAgg115
  z127 := Tryd.sizeOf115
  v127 := Tryd.zeroValue115 }
theorem Tryd.Builder_Extra_169 : Builder.Extra Tryd.prog Tryd.lays169_ren := {
  sizeBuilder := by kernel_rfl
  liesBuilder := by kernel_rfl
  t5 := Tryd.underlying5
  a5 := Tryd.isAgg5
  z5 := Tryd.sizeOf5
  v5 := Tryd.zeroValue5
  infoByte := by kernel_rfl
  cellsByte := by kernel_rfl
  sizeByte := by kernel_rfl
  neB5 := by decide }
open Go.RowKit in
/-- (*strings.Builder).String: "String returns the accumulated string.": OF A BUILDER THAT HOLDS AT LEAST ONE BYTE. ✋ THE MODEL FREEZES THOSE BYTES IN THE BUFFER (unsafe.String): a later write INTO them ends the model's run without an answer; a later append BEHIND them goes on. The statement's order of evaluation is drawn: one draw. (LAID: no walk: one application.) -/
theorem Tryd.Builder_String (B b : Nat) (l : List UInt8) (w : World) (h : Lib.IsBuilder 96 5 B b (Lib.byteCells l) w) (h0 : l ≠ []) :
    Calls Tryd.prog 105 #[.pointer (some ⟨b, 0, none⟩)] w fun e w' => e = .returned (.string ⟨l.toArray⟩) ∧ Below B w w' := Any.Builder_String Tryd.lays169 Tryd.Builder_Extra_169 B b l w h h0
open Go.RowKit in
/-- (*strings.Builder).String OF A BUILDER THAT HOLDS NO BYTE: the empty string. (Its buffer is nil, or a row of which it has taken nothing yet; where that row has NO capacity the model lays one new block for unsafe.SliceData's 'some address'.) One draw. (LAID: no walk: one application.) -/
theorem Tryd.Builder_String_empty (B b : Nat) (w : World) (h : Lib.IsBuilder 96 5 B b [] w) (hBw : B ≤ w.heap.size) :
    Calls Tryd.prog 105 #[.pointer (some ⟨b, 0, none⟩)] w fun e w' => e = .returned (.string ⟨#[]⟩) ∧ Below B w w' := Any.Builder_String_empty Tryd.lays169 Tryd.Builder_Extra_169 B b w h hBw
open Go.RowKit in
/-- (*strings.Builder).String: "String returns the accumulated string.": WHATEVER THE BUILDER HOLDS. (LAID: no walk: one application.) -/
theorem Tryd.Builder_String_any (B b : Nat) (l : List UInt8) (w : World) (h : Lib.IsBuilder 96 5 B b (Lib.byteCells l) w) (hBw : B ≤ w.heap.size) :
    Calls Tryd.prog 105 #[.pointer (some ⟨b, 0, none⟩)] w fun e w' => e = .returned (.string ⟨l.toArray⟩) ∧ Below B w w' := Any.Builder_String_any Tryd.lays169 Tryd.Builder_Extra_169 B b l w h hBw
def Tryd.lays241_ren : Go.Shelf.Ren := ⟨fun | 241 => 117 | 277 => 124 | n => n, fun | 70 => 94 | 3 => 3 | 0 => 0 | 72 => 96 | 37 => 35 | 5 => 5 | n => n, fun | n => n⟩
theorem Tryd.lays241 : Go.Proofs.Lays.n241 Tryd.prog Tryd.lays241_ren := {
  mixed := by kernel_rfl
  f241 := Tryd.func117.trans (congrArg some (by kernel_rfl))
  f277 := Tryd.func124.trans (congrArg some (by kernel_rfl))
  t0 := Tryd.underlying0
  a0 := Tryd.isAgg0
  z0 := Tryd.sizeOf0
  v0 := Tryd.zeroValue0
  t3 := Tryd.underlying3
  a3 := Tryd.isAgg3
  z3 := Tryd.sizeOf3
  v3 := Tryd.zeroValue3
  t37 := Tryd.underlying35
  a37 := Tryd.isAgg35
  z37 := Tryd.sizeOf35
  v37 := Tryd.zeroValue35
  t70 := Tryd.underlying94
  a70 := Tryd.isAgg94
  z70 := Tryd.sizeOf94
  v70 := Tryd.zeroValue94
  t72 := Tryd.underlying96
  a72 := Tryd.isAgg96
  z72 := Tryd.sizeOf96
  v72 := Tryd.zeroValue96 }
theorem Tryd.Builder_Extra_241 : Builder.Extra Tryd.prog Tryd.lays241_ren := {
  sizeBuilder := by kernel_rfl
  liesBuilder := by kernel_rfl
  t5 := Tryd.underlying5
  a5 := Tryd.isAgg5
  z5 := Tryd.sizeOf5
  v5 := Tryd.zeroValue5
  infoByte := by kernel_rfl
  cellsByte := by kernel_rfl
  sizeByte := by kernel_rfl
  neB5 := by decide }
open Go.RowKit in
/-- (*strings.Builder).grow (no doc but "grow copies the buffer to a new, larger buffer so that there are at least n bytes of capacity beyond len(b.buf)."): AT A BUILDER WITHOUT A BUFFER: a new row of whatever bytes for its buffer, none of them its own yet. Three draws. (LAID: no walk: one application.) -/
theorem Tryd.Builder_grow_fresh (B b n : Nat) (w : World) (hB : B ≤ b) (hbk : w.heap[b]? = some (.cells #[.pointer (some ⟨b, 0, none⟩), .slice none 0 0] 96 (0, 0))) (hBw : B ≤ w.heap.size) (hn : n ≤ 281474976710656) :
    Calls Tryd.prog 117 #[.pointer (some ⟨b, 0, none⟩), .int .i64 n] w fun e w' => e = .returned (.tuple #[]) ∧ (Lib.BuilderAt 96 5 B b (.pointer (some ⟨b, 0, none⟩)) [] w' ∧ Below B w w') := Any.Builder_grow_fresh Tryd.lays241 Tryd.Builder_Extra_241 B b n w hB hbk hBw hn
def Tryd.lays165_ren : Go.Shelf.Ren := ⟨fun | 165 => 102 | 240 => 116 | 241 => 117 | 276 => 123 | 277 => 124 | n => n, fun | 70 => 94 | 3 => 3 | 0 => 0 | 4 => 4 | 9 => 9 | 20 => 20 | 72 => 96 | 37 => 35 | 164 => 122 | 5 => 5 | n => n, fun | n => n⟩
theorem Tryd.lays165 : Go.Proofs.Lays.n165 Tryd.prog Tryd.lays165_ren := {
  mixed := by kernel_rfl
  f165 := Tryd.func102.trans (congrArg some (by kernel_rfl))
  f240 := Tryd.func116.trans (congrArg some (by kernel_rfl))
  f241 := Tryd.func117.trans (congrArg some (by kernel_rfl))
  f276 := Tryd.func123.trans (congrArg some (by kernel_rfl))
  f277 := Tryd.func124.trans (congrArg some (by kernel_rfl))
  t0 := Tryd.underlying0
  a0 := Tryd.isAgg0
  z0 := Tryd.sizeOf0
  v0 := Tryd.zeroValue0
  t3 := Tryd.underlying3
  a3 := Tryd.isAgg3
  z3 := Tryd.sizeOf3
  v3 := Tryd.zeroValue3
  t4 := Tryd.underlying4
  a4 := Tryd.isAgg4
  z4 := Tryd.sizeOf4
  v4 := Tryd.zeroValue4
  t9 := Tryd.underlying9
  a9 := Tryd.isAgg9
  z9 := Tryd.sizeOf9
  v9 := Tryd.zeroValue9
  t20 := Tryd.underlying20
  a20 := Tryd.isAgg20
  z20 := Tryd.sizeOf20
  v20 := Tryd.zeroValue20
  t37 := Tryd.underlying35
  a37 := Tryd.isAgg35
  z37 := Tryd.sizeOf35
  v37 := Tryd.zeroValue35
  t70 := Tryd.underlying94
  a70 := Tryd.isAgg94
  z70 := Tryd.sizeOf94
  v70 := Tryd.zeroValue94
  t72 := Tryd.underlying96
  a72 := Tryd.isAgg96
  z72 := Tryd.sizeOf96
  v72 := Tryd.zeroValue96
  t164 := Tryd.underlying122
  a164 := Tryd.isAgg122
  z164 := Tryd.sizeOf122
  v164 := Tryd.zeroValue122 }
theorem Tryd.Builder_Extra_165 : Builder.Extra Tryd.prog Tryd.lays165_ren := {
  sizeBuilder := by kernel_rfl
  liesBuilder := by kernel_rfl
  t5 := Tryd.underlying5
  a5 := Tryd.isAgg5
  z5 := Tryd.sizeOf5
  v5 := Tryd.zeroValue5
  infoByte := by kernel_rfl
  cellsByte := by kernel_rfl
  sizeByte := by kernel_rfl
  neB5 := by decide }
open Go.RowKit in
/-- (*strings.Builder).Grow AT A BUILDER THAT HAS NOT BEEN WRITTEN ('var b strings.Builder; b.Grow(n)'): "Grow grows b's capacity, if necessary, to guarantee space for another n bytes.": it holds no byte behind it as before it. (LAID: no walk: one application.) -/
theorem Tryd.Builder_Grow_fresh (B b n : Nat) (w : World) (hB : B ≤ b) (hbk : w.heap[b]? = some (.cells #[.pointer none, .slice none 0 0] 96 (0, 0))) (hBw : B ≤ w.heap.size) (hn : n ≤ 281474976710656) :
    Calls Tryd.prog 102 #[.pointer (some ⟨b, 0, none⟩), .int .i64 n] w fun e w' => e = .returned (.tuple #[]) ∧ (Lib.BuilderAt 96 5 B b (.pointer (some ⟨b, 0, none⟩)) [] w' ∧ Below B w w') := Any.Builder_Grow_fresh Tryd.lays165 Tryd.Builder_Extra_165 B b n w hB hbk hBw hn
def Tryd.lays134_ren : Go.Shelf.Ren := ⟨fun | 134 => 95 | 129 => 84 | n => n, fun | 53 => 22 | 3 => 3 | 4 => 4 | 46 => 72 | 5 => 5 | 9 => 9 | n => n, fun | n => n⟩
theorem Tryd.lays134 : Go.Proofs.Lays.n134 Tryd.prog Tryd.lays134_ren := {
  mixed := by kernel_rfl
  f129 := Tryd.func84.trans (congrArg some (by kernel_rfl))
  f134 := Tryd.func95.trans (congrArg some (by kernel_rfl))
  t3 := Tryd.underlying3
  a3 := Tryd.isAgg3
  z3 := Tryd.sizeOf3
  v3 := Tryd.zeroValue3
  t4 := Tryd.underlying4
  a4 := Tryd.isAgg4
  z4 := Tryd.sizeOf4
  v4 := Tryd.zeroValue4
  t5 := Tryd.underlying5
  a5 := Tryd.isAgg5
  z5 := Tryd.sizeOf5
  v5 := Tryd.zeroValue5
  t9 := Tryd.underlying9
  a9 := Tryd.isAgg9
  z9 := Tryd.sizeOf9
  v9 := Tryd.zeroValue9
  t46 := Tryd.underlying72
  a46 := Tryd.isAgg72
  z46 := Tryd.sizeOf72
  v46 := Tryd.zeroValue72
  t53 := Tryd.underlying22
  a53 := Tryd.isAgg22
  z53 := Tryd.sizeOf22
  v53 := Tryd.zeroValue22 }
/-- bits.LeadingZeros64: "LeadingZeros64 returns the number of leading zero bits in x; the result is 64 for x == 0.": IT RETURNS '64 - Lib.bitLen x'; the world is as it was. ITS CALLEE bits.Len64 IS MET BY ITS OWN CONTRACT OFF THE SHELF (lay that first): entered in place it sends the kernel out of memory. (LAID: no walk: one application.) -/
theorem Tryd.bits_LeadingZeros64 (x : Int) (w : World) (h0 : 0 ≤ x) (h1 : x ≤ 18446744073709551615) :
    Calls Tryd.prog 95 #[.int .u64 x] w fun e w' => e = .returned (.int .i64 (64 - (Lib.bitLen x.toNat : Int))) ∧ w' = w := Any.bits_LeadingZeros64 Tryd.lays134 x w h0 h1
open Go.RowKit in
/-- (*strings.Builder).Len: "Len returns the number of accumulated bytes; b.Len() == len(b.String()).": the world is as it was. (THE FORM '_f': 'Lib.IsBuilderF'.) (LAID: no walk: one application.) -/
theorem Tryd.Builder_Len_f (B b : Nat) (bs : List Value) (w : World) (h : Lib.IsBuilderF 96 5 B b bs w) :
    Calls Tryd.prog 104 #[.pointer (some ⟨b, 0, none⟩)] w fun e w' => e = .returned (.int .i64 bs.length) ∧ w' = w := Any.Builder_Len_f Tryd.lays170 B b bs w h
open Go.RowKit in
/-- (*strings.Builder).String: "String returns the accumulated string.": OF A BUILDER THAT HOLDS AT LEAST ONE BYTE. ✋ THE MODEL FREEZES THOSE BYTES IN THE BUFFER (unsafe.String): a later write INTO them ends the model's run without an answer; a later append BEHIND them goes on. The statement's order of evaluation is drawn: one draw. THE FORM '_f': IT SAYS BESIDES THAT THE BUILDER IS A BUILDER STILL ('Lib.IsBuilderF', the same bytes): SO IT CAN BE WRITTEN ON: 'b.WriteString(b.String()[:k])'. (LAID: no walk: one application.) -/
theorem Tryd.Builder_String_f (B b : Nat) (l : List UInt8) (w : World) (h : Lib.IsBuilderF 96 5 B b (Lib.byteCells l) w) (h0 : l ≠ []) :
    Calls Tryd.prog 105 #[.pointer (some ⟨b, 0, none⟩)] w fun e w' => e = .returned (.string ⟨l.toArray⟩) ∧ (Lib.IsBuilderF 96 5 B b (Lib.byteCells l) w' ∧ Below B w w') := Any.Builder_String_f Tryd.lays169 Tryd.Builder_Extra_169 B b l w h h0
open Go.RowKit in
/-- (*strings.Builder).String OF A BUILDER THAT HOLDS NO BYTE: the empty string; THE FORM '_f': a builder still. (LAID: no walk: one application.) -/
theorem Tryd.Builder_String_empty_f (B b : Nat) (w : World) (h : Lib.IsBuilderF 96 5 B b [] w) (hBw : B ≤ w.heap.size) :
    Calls Tryd.prog 105 #[.pointer (some ⟨b, 0, none⟩)] w fun e w' => e = .returned (.string ⟨#[]⟩) ∧ (Lib.IsBuilderF 96 5 B b [] w' ∧ Below B w w') := Any.Builder_String_empty_f Tryd.lays169 Tryd.Builder_Extra_169 B b w h hBw
open Go.RowKit in
/-- (*strings.Builder).String: "String returns the accumulated string.": WHATEVER THE BUILDER HOLDS; THE FORM '_f': OF A BUILDER THAT MAY HAVE BEEN READ BEFORE; AND IT IS A BUILDER STILL, holding the same bytes: it can be written on. (LAID: no walk: one application.) -/
theorem Tryd.Builder_String_any_f (B b : Nat) (l : List UInt8) (w : World) (h : Lib.IsBuilderF 96 5 B b (Lib.byteCells l) w) (hBw : B ≤ w.heap.size) :
    Calls Tryd.prog 105 #[.pointer (some ⟨b, 0, none⟩)] w fun e w' => e = .returned (.string ⟨l.toArray⟩) ∧ (Lib.IsBuilderF 96 5 B b (Lib.byteCells l) w' ∧ Below B w w') := Any.Builder_String_any_f Tryd.lays169 Tryd.Builder_Extra_169 B b l w h hBw
def Tryd.lays129_ren : Go.Shelf.Ren := ⟨fun | 129 => 84 | n => n, fun | 53 => 22 | 3 => 3 | 4 => 4 | 46 => 72 | 5 => 5 | 9 => 9 | n => n, fun | n => n⟩
theorem Tryd.lays129 : Go.Proofs.Lays.n129 Tryd.prog Tryd.lays129_ren := {
  mixed := by kernel_rfl
  f129 := Tryd.func84.trans (congrArg some (by kernel_rfl))
  t3 := Tryd.underlying3
  a3 := Tryd.isAgg3
  z3 := Tryd.sizeOf3
  v3 := Tryd.zeroValue3
  t4 := Tryd.underlying4
  a4 := Tryd.isAgg4
  z4 := Tryd.sizeOf4
  v4 := Tryd.zeroValue4
  t5 := Tryd.underlying5
  a5 := Tryd.isAgg5
  z5 := Tryd.sizeOf5
  v5 := Tryd.zeroValue5
  t9 := Tryd.underlying9
  a9 := Tryd.isAgg9
  z9 := Tryd.sizeOf9
  v9 := Tryd.zeroValue9
  t46 := Tryd.underlying72
  a46 := Tryd.isAgg72
  z46 := Tryd.sizeOf72
  v46 := Tryd.zeroValue72
  t53 := Tryd.underlying22
  a53 := Tryd.isAgg22
  z53 := Tryd.sizeOf22
  v53 := Tryd.zeroValue22 }
/-- bits.Len64: "Len64 returns the minimum number of bits required to represent x; the result is 0 for x == 0.": IT RETURNS 'Lib.bitLen x'; the world is as it was. ('h0', 'h1': x is a uint64.) (LAID: no walk: one application.) -/
theorem Tryd.bits_Len64 (x : Int) (w : World) (h0 : 0 ≤ x) (h1 : x ≤ 18446744073709551615) :
    Calls Tryd.prog 84 #[.int .u64 x] w fun e w' => e = .returned (.int .i64 (Lib.bitLen x.toNat)) ∧ w' = w := Any.bits_Len64 Tryd.lays129 x w h0 h1
def Tryd.lays317_ren : Go.Shelf.Ren := ⟨fun | 317 => 119 | n => n, fun | 3 => 3 | 46 => 72 | n => n, fun | n => n⟩
theorem Tryd.lays317 : Go.Proofs.Lays.n317 Tryd.prog Tryd.lays317_ren := {
  mixed := by kernel_rfl
  f317 := Tryd.func119.trans (congrArg some (by kernel_rfl))
  t3 := Tryd.underlying3
  a3 := Tryd.isAgg3
  z3 := Tryd.sizeOf3
  v3 := Tryd.zeroValue3
  t46 := Tryd.underlying72
  a46 := Tryd.isAgg72
  z46 := Tryd.sizeOf72
  v46 := Tryd.zeroValue72 }
open Go.Lib in
/-- internal/strconv.log10Pow2: "log10Pow2(x) returns ⌊log₁₀ 2**x⌋ = ⌊x * log₁₀ 2⌋.": '(x * 78913) >> 18', at an x up to 64 (a length in bits). The world is as it was. (LAID: no walk: one application.) -/
theorem Tryd.internal_strconv_log10Pow2 (x : Nat) (h : x ≤ 64) (w : World) :
    Calls Tryd.prog 119 #[.int .i64 x] w fun e w' => e = .returned (.int .i64 (Lib.l10 x)) ∧ w' = w := Any.internal_strconv_log10Pow2 Tryd.lays317 x h w
def Tryd.lays318_ren : Go.Shelf.Ren := ⟨fun | 318 => 120 | n => n, fun | 3 => 3 | 4 => 4 | n => n, fun | n => n⟩
theorem Tryd.lays318 : Go.Proofs.Lays.n318 Tryd.prog Tryd.lays318_ren := {
  mixed := by kernel_rfl
  f318 := Tryd.func120.trans (congrArg some (by kernel_rfl))
  t3 := Tryd.underlying3
  a3 := Tryd.isAgg3
  z3 := Tryd.sizeOf3
  v3 := Tryd.zeroValue3
  t4 := Tryd.underlying4
  a4 := Tryd.isAgg4
  z4 := Tryd.sizeOf4
  v4 := Tryd.zeroValue4 }
open Go.Lib in
/-- internal/strconv.bool2: "bool2 converts b to an integer: 1 for true, 0 for false." The world is as it was. (LAID: no walk: one application.) -/
theorem Tryd.internal_strconv_bool2_int (b : Bool) (w : World) :
    Calls Tryd.prog 120 #[.bool b] w fun e w' => e = .returned (.int .i64 (if b then 1 else 0)) ∧ w' = w := Any.internal_strconv_bool2_int Tryd.lays318 b w
def Tryd.lays283_ren : Go.Shelf.Ren := ⟨fun | 283 => 110 | n => n, fun | 3 => 3 | 9 => 9 | 4 => 4 | n => n, fun | n => n⟩
theorem Tryd.lays283 : Go.Proofs.Lays.n283 Tryd.prog Tryd.lays283_ren := {
  mixed := by kernel_rfl
  f283 := Tryd.func110.trans (congrArg some (by kernel_rfl))
  t3 := Tryd.underlying3
  a3 := Tryd.isAgg3
  z3 := Tryd.sizeOf3
  v3 := Tryd.zeroValue3
  t4 := Tryd.underlying4
  a4 := Tryd.isAgg4
  z4 := Tryd.sizeOf4
  v4 := Tryd.zeroValue4
  t9 := Tryd.underlying9
  a9 := Tryd.isAgg9
  z9 := Tryd.sizeOf9
  v9 := Tryd.zeroValue9 }
open Go.Lib in
/-- internal/strconv.small: "small returns the string for an i with 0 <= i < nSmalls.": i's decimal numeral. The world is as it was. (LAID: no walk: one application.) -/
theorem Tryd.internal_strconv_small (i : Nat) (h : i < 100) (w : World) :
    Calls Tryd.prog 110 #[.int .i64 i] w fun e w' => e = .returned (.string ⟨(Lib.decDigits i).toArray⟩) ∧ w' = w := Any.internal_strconv_small Tryd.lays283 i h w
def Tryd.laysM284_ren : Go.Shelf.Ren := ⟨fun | 284 => 111 | 129 => 84 | 317 => 119 | 318 => 120 | n => n, fun | 53 => 22 | 3 => 3 | 212 => 118 | 0 => 0 | 4 => 4 | 46 => 72 | 5 => 5 | 9 => 9 | n => n, fun | 17 => 0 | n => n⟩
theorem Tryd.laysM284 : Go.Proofs.LaysM.n284 Tryd.prog Tryd.laysM284_ren := {
  mixed := by kernel_rfl
  f129 := Tryd.func84.trans (congrArg some (by kernel_rfl))
  f284 := Tryd.func111.trans (congrArg some (by kernel_rfl))
  f317 := Tryd.func119.trans (congrArg some (by kernel_rfl))
  f318 := Tryd.func120.trans (congrArg some (by kernel_rfl))
  t0 := Tryd.underlying0
  a0 := Tryd.isAgg0
  z0 := Tryd.sizeOf0
  v0 := Tryd.zeroValue0
  t3 := Tryd.underlying3
  a3 := Tryd.isAgg3
  z3 := Tryd.sizeOf3
  v3 := Tryd.zeroValue3
  t4 := Tryd.underlying4
  a4 := Tryd.isAgg4
  z4 := Tryd.sizeOf4
  v4 := Tryd.zeroValue4
  t5 := Tryd.underlying5
  a5 := Tryd.isAgg5
  z5 := Tryd.sizeOf5
  v5 := Tryd.zeroValue5
  t9 := Tryd.underlying9
  a9 := Tryd.isAgg9
  z9 := Tryd.sizeOf9
  v9 := Tryd.zeroValue9
  t46 := Tryd.underlying72
  a46 := Tryd.isAgg72
  z46 := Tryd.sizeOf72
  v46 := Tryd.zeroValue72
  t53 := Tryd.underlying22
  a53 := Tryd.isAgg22
  z53 := Tryd.sizeOf22
  v53 := Tryd.zeroValue22
  t212 := Tryd.underlying118
  a212 := Tryd.isAgg118
  z212 := Tryd.sizeOf118
  v212 := Tryd.zeroValue118
  g17 := by kernel_rfl
  i0 := by kernel_rfl
  i3 := by kernel_rfl
  i4 := by kernel_rfl
  i5 := by kernel_rfl
  i9 := by kernel_rfl
  i46 := by kernel_rfl
  i53 := by kernel_rfl
  i212 := by kernel_rfl
  m17 := by kernel_rfl }
open Go.Lib in
/-- internal/strconv.numDigits, at a d that is not 0: THE NUMBER OF d's DECIMAL DIGITS. The world is as it was. (LAID: no walk: one application.) -/
theorem Tryd.internal_strconv_numDigits (u : Nat) (h1 : 1 ≤ u) (h2 : u < 18446744073709551616) (w : World) (htab : Lib.TabIs Tryd.prog w "internal/strconv.uint64pow10" .u64 Lib.pow10Tab) :
    Calls Tryd.prog 111 #[.int .u64 u] w fun e w' => e = .returned (.int .i64 (Lib.nDigits u)) ∧ w' = w := Any.internal_strconv_numDigits Tryd.laysM284 u h1 h2 w htab
def Tryd.lays285_ren : Go.Shelf.Ren := ⟨fun | 285 => 112 | n => n, fun | 37 => 35 | 53 => 22 | 3 => 3 | 4 => 4 | 51 => 112 | 9 => 9 | 5 => 5 | 0 => 0 | n => n, fun | n => n⟩
theorem Tryd.lays285 : Go.Proofs.Lays.n285 Tryd.prog Tryd.lays285_ren := {
  mixed := by kernel_rfl
  f285 := Tryd.func112.trans (congrArg some (by kernel_rfl))
  t0 := Tryd.underlying0
  a0 := Tryd.isAgg0
  z0 := Tryd.sizeOf0
  v0 := Tryd.zeroValue0
  t3 := Tryd.underlying3
  a3 := Tryd.isAgg3
  z3 := Tryd.sizeOf3
  v3 := Tryd.zeroValue3
  t4 := Tryd.underlying4
  a4 := Tryd.isAgg4
  z4 := Tryd.sizeOf4
  v4 := Tryd.zeroValue4
  t5 := Tryd.underlying5
  a5 := Tryd.isAgg5
  z5 := Tryd.sizeOf5
  v5 := Tryd.zeroValue5
  t9 := Tryd.underlying9
  a9 := Tryd.isAgg9
  z9 := Tryd.sizeOf9
  v9 := Tryd.zeroValue9
  t37 := Tryd.underlying35
  a37 := Tryd.isAgg35
  z37 := Tryd.sizeOf35
  v37 := Tryd.zeroValue35
  t51 := Tryd.underlying112
  a51 := Tryd.isAgg112
  z51 := Tryd.sizeOf112
  v51 := Tryd.zeroValue112
  t53 := Tryd.underlying22
  a53 := Tryd.isAgg22
  z53 := Tryd.sizeOf22
  v53 := Tryd.zeroValue22 }
open Go.RowKit Go.Sort Go.Lib in
/-- internal/strconv.formatBase10: "formatBase10 formats the decimal representation of u into a. The caller is responsible for ensuring that a is big enough to hold u. If a is too big, leading zeros will be filled in as needed.": THE ROW HOLDS u's DIGITS ('FmtInv .. 0 ..': every place t holds 'dg u (len - 1 - t)'); all else is as it was but for the count of draws. (LAID: no walk: one application.) -/
theorem Tryd.internal_strconv_formatBase10 (blk off cap : Nat) (u : Nat) (d : Array UInt8) (w : World) (hH : Holds (fun (b : UInt8) => Value.int .u8 (b.toNat : Int)) w blk off d) (hu : u < 10 ^ d.size) (hu64 : u < 18446744073709551616) (hsz : d.size < 4611686018427387904) :
    Calls Tryd.prog 112 #[.slice (some ⟨blk, off, none⟩) d.size cap, .int .u64 u] w fun e w' =>
      e = .returned (.tuple #[]) ∧ ∃ (n v' : Nat) (dk : Array UInt8), w' = (putRow (fun (b : UInt8) => Value.int .u8 (b.toNat : Int)) w blk off dk).drewN n ∧ FmtInv d.size u 0 v' dk := Any.internal_strconv_formatBase10 Tryd.lays285 blk off cap u d w hH hu hu64 hsz
def Tryd.lays206_ren : Go.Shelf.Ren := ⟨fun | 206 => 115 | n => n, fun | 9 => 9 | 4 => 4 | 3 => 3 | n => n, fun | n => n⟩
theorem Tryd.lays206 : Go.Proofs.Lays.n206 Tryd.prog Tryd.lays206_ren := {
  mixed := by kernel_rfl
  f206 := Tryd.func115.trans (congrArg some (by kernel_rfl))
  t3 := Tryd.underlying3
  a3 := Tryd.isAgg3
  z3 := Tryd.sizeOf3
  v3 := Tryd.zeroValue3
  t4 := Tryd.underlying4
  a4 := Tryd.isAgg4
  z4 := Tryd.sizeOf4
  v4 := Tryd.zeroValue4
  t9 := Tryd.underlying9
  a9 := Tryd.isAgg9
  z9 := Tryd.sizeOf9
  v9 := Tryd.zeroValue9 }
open Go.RowKit Go.Lib in
/-- internal/stringslite.HasPrefix (what strings.HasPrefix calls). (LAID: no walk: one application.) -/
theorem Tryd.stringslite_HasPrefix (s p : ByteArray) (w : World) :
    Calls Tryd.prog 115 #[.string s, .string p] w fun e w' => e = .returned (.bool (Lib.hasPrefix s.data.toList p.data.toList)) ∧ w' = w := Any.stringslite_HasPrefix Tryd.lays206 s p w
def Tryd.lays99_ren : Go.Shelf.Ren := ⟨fun | 99 => 101 | 206 => 115 | n => n, fun | 9 => 9 | 4 => 4 | 3 => 3 | n => n, fun | n => n⟩
theorem Tryd.lays99 : Go.Proofs.Lays.n99 Tryd.prog Tryd.lays99_ren := {
  mixed := by kernel_rfl
  f99 := Tryd.func101.trans (congrArg some (by kernel_rfl))
  f206 := Tryd.func115.trans (congrArg some (by kernel_rfl))
  t3 := Tryd.underlying3
  a3 := Tryd.isAgg3
  z3 := Tryd.sizeOf3
  v3 := Tryd.zeroValue3
  t4 := Tryd.underlying4
  a4 := Tryd.isAgg4
  z4 := Tryd.sizeOf4
  v4 := Tryd.zeroValue4
  t9 := Tryd.underlying9
  a9 := Tryd.isAgg9
  z9 := Tryd.sizeOf9
  v9 := Tryd.zeroValue9 }
open Go.RowKit Go.Lib in
/-- strings.HasPrefix: "HasPrefix reports whether the string s begins with prefix.": IT RETURNS 'Lib.hasPrefix s prefix'; the world is as it was. (LAID: no walk: one application.) -/
theorem Tryd.strings_HasPrefix (s p : ByteArray) (w : World) :
    Calls Tryd.prog 101 #[.string s, .string p] w fun e w' => e = .returned (.bool (Lib.hasPrefix s.data.toList p.data.toList)) ∧ w' = w := Any.strings_HasPrefix Tryd.lays99 s p w
def Tryd.lays264_ren : Go.Shelf.Ren := ⟨fun | 264 => 106 | n => n, fun | 53 => 22 | 46 => 72 | n => n, fun | n => n⟩
theorem Tryd.lays264 : Go.Proofs.Lays.n264 Tryd.prog Tryd.lays264_ren := {
  mixed := by kernel_rfl
  f264 := Tryd.func106.trans (congrArg some (by kernel_rfl))
  t46 := Tryd.underlying72
  a46 := Tryd.isAgg72
  z46 := Tryd.sizeOf72
  v46 := Tryd.zeroValue72
  t53 := Tryd.underlying22
  a53 := Tryd.isAgg22
  z53 := Tryd.sizeOf22
  v53 := Tryd.zeroValue22 }
open Go.RowKit Go.Lib in
theorem Tryd.bits_Mul64 (x y : Nat) (hx : x < 18446744073709551616) (hy : y < 18446744073709551616) (w : World) :
    Calls Tryd.prog 106 #[.int .u64 x, .int .u64 y] w fun e w' => e = .returned (.tuple #[.int .u64 ((x * y / 18446744073709551616 : Nat) : Int), .int .u64 ((x * y % 18446744073709551616 : Nat) : Int)]) ∧ w' = w := Any.bits_Mul64 Tryd.lays264 x y hx hy w
def Tryd.lays212_ren : Go.Shelf.Ren := ⟨fun | 212 => 100 | 263 => 114 | 264 => 106 | n => n, fun | 46 => 72 | 51 => 112 | 146 => 113 | 53 => 22 | 148 => 54 | n => n, fun | n => n⟩
theorem Tryd.lays212 : Go.Proofs.Lays.n212 Tryd.prog Tryd.lays212_ren := {
  mixed := by kernel_rfl
  f212 := Tryd.func100.trans (congrArg some (by kernel_rfl))
  f263 := Tryd.func114.trans (congrArg some (by kernel_rfl))
  f264 := Tryd.func106.trans (congrArg some (by kernel_rfl))
  t46 := Tryd.underlying72
  a46 := Tryd.isAgg72
  z46 := Tryd.sizeOf72
  v46 := Tryd.zeroValue72
  t51 := Tryd.underlying112
  a51 := Tryd.isAgg112
  z51 := Tryd.sizeOf112
  v51 := Tryd.zeroValue112
  t53 := Tryd.underlying22
  a53 := Tryd.isAgg22
  z53 := Tryd.sizeOf22
  v53 := Tryd.zeroValue22
  t146 := Tryd.underlying113
  a146 := Tryd.isAgg113
  z146 := Tryd.sizeOf113
  v146 := Tryd.zeroValue113
  t148 := Tryd.underlying54
  a148 := Tryd.isAgg54
  z148 := Tryd.sizeOf54
  v148 := Tryd.zeroValue54 }
open Go.RowKit Go.Lib in
/-- math/bits.Mul: "Mul returns the full-width product of x and y": on a machine of 64 bits: Mul64's. (LAID: no walk: one application.) -/
theorem Tryd.bits_Mul (x y : Nat) (hx : x < 18446744073709551616) (hy : y < 18446744073709551616) (w : World) :
    Calls Tryd.prog 100 #[.int .u64 x, .int .u64 y] w fun e w' => e = .returned (.tuple #[.int .u64 ((x * y / 18446744073709551616 : Nat) : Int), .int .u64 ((x * y % 18446744073709551616 : Nat) : Int)]) ∧ w' = w := Any.bits_Mul Tryd.lays212 x y hx hy w
def Tryd.lays105_ren : Go.Shelf.Ren := ⟨fun | 105 => 87 | 212 => 100 | 99 => 101 | 165 => 102 | 166 => 103 | 170 => 104 | 169 => 105 | 263 => 114 | 264 => 106 | 206 => 115 | 240 => 116 | 241 => 117 | 276 => 123 | 277 => 124 | n => n, fun | 9 => 9 | 3 => 3 | 4 => 4 | 20 => 20 | 0 => 0 | 46 => 72 | 109 => 91 | 5 => 5 | 72 => 96 | 76 => 100 | 51 => 112 | 146 => 113 | 53 => 22 | 148 => 54 | 70 => 94 | 37 => 35 | 75 => 99 | 127 => 115 | 164 => 122 | 80 => 103 | n => n, fun | n => n⟩
theorem Tryd.lays105 : Go.Proofs.Lays.n105 Tryd.prog Tryd.lays105_ren := {
  mixed := by kernel_rfl
  f99 := Tryd.func101.trans (congrArg some (by kernel_rfl))
  f105 := Tryd.func87.trans (congrArg some (by kernel_rfl))
  f165 := Tryd.func102.trans (congrArg some (by kernel_rfl))
  f166 := Tryd.func103.trans (congrArg some (by kernel_rfl))
  f169 := Tryd.func105.trans (congrArg some (by kernel_rfl))
  f170 := Tryd.func104.trans (congrArg some (by kernel_rfl))
  f206 := Tryd.func115.trans (congrArg some (by kernel_rfl))
  f212 := Tryd.func100.trans (congrArg some (by kernel_rfl))
  f240 := Tryd.func116.trans (congrArg some (by kernel_rfl))
  f241 := Tryd.func117.trans (congrArg some (by kernel_rfl))
  f263 := Tryd.func114.trans (congrArg some (by kernel_rfl))
  f264 := Tryd.func106.trans (congrArg some (by kernel_rfl))
  f276 := Tryd.func123.trans (congrArg some (by kernel_rfl))
  f277 := Tryd.func124.trans (congrArg some (by kernel_rfl))
  t0 := Tryd.underlying0
  a0 := Tryd.isAgg0
  z0 := Tryd.sizeOf0
  v0 := Tryd.zeroValue0
  t3 := Tryd.underlying3
  a3 := Tryd.isAgg3
  z3 := Tryd.sizeOf3
  v3 := Tryd.zeroValue3
  t4 := Tryd.underlying4
  a4 := Tryd.isAgg4
  z4 := Tryd.sizeOf4
  v4 := Tryd.zeroValue4
  t5 := Tryd.underlying5
  a5 := Tryd.isAgg5
  z5 := Tryd.sizeOf5
  v5 := Tryd.zeroValue5
  t9 := Tryd.underlying9
  a9 := Tryd.isAgg9
  z9 := Tryd.sizeOf9
  v9 := Tryd.zeroValue9
  t20 := Tryd.underlying20
  a20 := Tryd.isAgg20
  z20 := Tryd.sizeOf20
  v20 := Tryd.zeroValue20
  t37 := Tryd.underlying35
  a37 := Tryd.isAgg35
  z37 := Tryd.sizeOf35
  v37 := Tryd.zeroValue35
  t46 := Tryd.underlying72
  a46 := Tryd.isAgg72
  z46 := Tryd.sizeOf72
  v46 := Tryd.zeroValue72
  t51 := Tryd.underlying112
  a51 := Tryd.isAgg112
  z51 := Tryd.sizeOf112
  v51 := Tryd.zeroValue112
  t53 := Tryd.underlying22
  a53 := Tryd.isAgg22
  z53 := Tryd.sizeOf22
  v53 := Tryd.zeroValue22
  t70 := Tryd.underlying94
  a70 := Tryd.isAgg94
  z70 := Tryd.sizeOf94
  v70 := Tryd.zeroValue94
  t72 := Tryd.underlying96
  a72 := Tryd.isAgg96
  z72 := Tryd.sizeOf96
  v72 := Tryd.zeroValue96
  t75 := Tryd.underlying99
  a75 := Tryd.isAgg99
  z75 := Tryd.sizeOf99
  v75 := Tryd.zeroValue99
  t76 := Tryd.underlying100
  a76 := Tryd.isAgg100
  z76 := Tryd.sizeOf100
  v76 := Tryd.zeroValue100
  t109 := Tryd.underlying91
  a109 := Tryd.isAgg91
  z109 := Tryd.sizeOf91
  v109 := Tryd.zeroValue91
  t127 := Tryd.underlying115
  a127 := Tryd.isAgg115
  z127 := Tryd.sizeOf115
  v127 := Tryd.zeroValue115
  t146 := Tryd.underlying113
  a146 := Tryd.isAgg113
  z146 := Tryd.sizeOf113
  v146 := Tryd.zeroValue113
  t148 := Tryd.underlying54
  a148 := Tryd.isAgg54
  z148 := Tryd.sizeOf54
  v148 := Tryd.zeroValue54
  t164 := Tryd.underlying122
  a164 := Tryd.isAgg122
  z164 := Tryd.sizeOf122
  v164 := Tryd.zeroValue122 }
theorem Tryd.Builder_Extra_105 : Builder.Extra Tryd.prog Tryd.lays105_ren := {
  sizeBuilder := by kernel_rfl
  liesBuilder := by kernel_rfl
  t5 := Tryd.underlying5
  a5 := Tryd.isAgg5
  z5 := Tryd.sizeOf5
  v5 := Tryd.zeroValue5
  infoByte := by kernel_rfl
  cellsByte := by kernel_rfl
  sizeByte := by kernel_rfl
  neB5 := by decide }
open Go.RowKit Go.Lib in
/-- THE MAIN CASE: at least two copies of a string that is not empty. (LAID: no walk: one application.) -/
theorem Tryd.strings_Repeat_main (s : ByteArray) (c : Nat) (w : World) (hc2 : 2 ≤ c) (hc : c ≤ 9223372036854775807) (hlen : s.size * c ≤ 140737488355328) (h0 : 0 < s.size) :
    Calls Tryd.prog 87 #[.string s, .int .i64 c] w fun e w' => e = .returned (.string ⟨(Lib.repeatL s.data.toList c).toArray⟩) ∧ Below w.heap.size w w' := Any.strings_Repeat_main Tryd.lays105 Tryd.Builder_Extra_105 s c w hc2 hc hlen h0
open Go.RowKit Go.Lib in
theorem Tryd.strings_Repeat_zero (s : ByteArray) (w : World) :
    Calls Tryd.prog 87 #[.string s, .int .i64 0] w fun e w' => e = .returned (.string ⟨#[]⟩) ∧ w' = w := Any.strings_Repeat_zero Tryd.lays105 s w
open Go.RowKit Go.Lib in
theorem Tryd.strings_Repeat_one (s : ByteArray) (w : World) :
    Calls Tryd.prog 87 #[.string s, .int .i64 1] w fun e w' => e = .returned (.string s) ∧ w' = w := Any.strings_Repeat_one Tryd.lays105 s w
open Go.RowKit Go.Lib in
/-- Copies of the empty string. (LAID: no walk: one application.) -/
theorem Tryd.strings_Repeat_empty (s : ByteArray) (c : Nat) (w : World) (hc2 : 2 ≤ c) (hc : c ≤ 9223372036854775807) (h0 : s.size = 0) :
    Calls Tryd.prog 87 #[.string s, .int .i64 c] w fun e w' => e = .returned (.string ⟨#[]⟩) ∧ w' = w := Any.strings_Repeat_empty Tryd.lays105 s c w hc2 hc h0
open Go.RowKit Go.Lib in
/-- count < 0: "It panics if count is negative". (LAID: no walk: one application.) -/
theorem Tryd.strings_Repeat_negative (s : ByteArray) (c : Int) (w : World) (hc : c < 0) :
    Calls Tryd.prog 87 #[.string s, .int .i64 c] w fun e w' => e = .panicked [{ v := repeatPanic Tryd.lays105_ren "strings: negative Repeat count", recovered := false }] ∧ w' = w := Any.strings_Repeat_negative Tryd.lays105 s c w hc
open Go.RowKit Go.Lib in
/-- len(s) * count is no int: ".. or if the result of (len(s) * count) overflows". (LAID: no walk: one application.) -/
theorem Tryd.strings_Repeat_overflow (s : ByteArray) (c : Nat) (w : World) (hc : c ≤ 9223372036854775807) (hs : s.size ≤ 9223372036854775807) (hbig : 9223372036854775807 < s.size * c) :
    Calls Tryd.prog 87 #[.string s, .int .i64 c] w fun e w' => e = .panicked [{ v := repeatPanic Tryd.lays105_ren "strings: Repeat output length overflow", recovered := false }] ∧ w' = w := Any.strings_Repeat_overflow Tryd.lays105 s c w hc hs hbig
open Go.RowKit Go.Lib in
/-- **strings.Repeat: count ≥ 0, the result within one allocation: count copies of s.** (LAID: no walk: one application.) -/
theorem Tryd.strings_Repeat (s : ByteArray) (c : Nat) (w : World) (hc : c ≤ 9223372036854775807) (hlen : s.size * c ≤ 140737488355328) :
    Calls Tryd.prog 87 #[.string s, .int .i64 c] w fun e w' => e = .returned (.string ⟨(Lib.repeatL s.data.toList c).toArray⟩) ∧ Below w.heap.size w w' := Any.strings_Repeat Tryd.lays105 Tryd.Builder_Extra_105 s c w hc hlen
end Go.Proofs
namespace Go.Proofs.YthfadinocadhaaaDoor
open Go.RowKit

/-- 2^64, and 2^256. -/
abbrev Bw : Nat := 18446744073709551616
abbrev Ww : Nat := 115792089237316195423570985008687907853269984665640564039457584007913129639936

/-- THE VALUE OF A WORD whose number is x (modulo 2^256). -/
def wv (x : Nat) : Value := .agg #[.int .u64 ((x % 18446744073709551616 : Nat) : Int), .int .u64 ((x / 18446744073709551616 % 18446744073709551616 : Nat) : Int), .int .u64 ((x / 340282366920938463463374607431768211456 % 18446744073709551616 : Nat) : Int), .int .u64 ((x / 6277101735386680763835789423207666416102355444464034512896 % 18446744073709551616 : Nat) : Int)]

/-- The number of four parts. -/
def n4 (a0 a1 a2 a3 : Nat) : Nat := a0 + 18446744073709551616 * a1 + 340282366920938463463374607431768211456 * a2 + 6277101735386680763835789423207666416102355444464034512896 * a3

theorem wv_n4 {a0 a1 a2 a3 : Nat} (h0 : a0 < 18446744073709551616) (h1 : a1 < 18446744073709551616) (h2 : a2 < 18446744073709551616) (h3 : a3 < 18446744073709551616) :
    wv (n4 a0 a1 a2 a3) = .agg #[.int .u64 a0, .int .u64 a1, .int .u64 a2, .int .u64 a3] := by
  unfold wv n4
  have e0 : (a0 + 18446744073709551616 * a1 + 340282366920938463463374607431768211456 * a2 + 6277101735386680763835789423207666416102355444464034512896 * a3) % 18446744073709551616 = a0 := by omega
  have e1 : (a0 + 18446744073709551616 * a1 + 340282366920938463463374607431768211456 * a2 + 6277101735386680763835789423207666416102355444464034512896 * a3) / 18446744073709551616 % 18446744073709551616 = a1 := by omega
  have e2 : (a0 + 18446744073709551616 * a1 + 340282366920938463463374607431768211456 * a2 + 6277101735386680763835789423207666416102355444464034512896 * a3) / 340282366920938463463374607431768211456 % 18446744073709551616 = a2 := by omega
  have e3 : (a0 + 18446744073709551616 * a1 + 340282366920938463463374607431768211456 * a2 + 6277101735386680763835789423207666416102355444464034512896 * a3) / 6277101735386680763835789423207666416102355444464034512896 % 18446744073709551616 = a3 := by omega
  rw [e0, e1, e2, e3]

/-- Each word's value has four parts, and its number is theirs. -/
theorem wv_parts (x : Nat) : ∃ a0 a1 a2 a3 : Nat, a0 < 18446744073709551616 ∧ a1 < 18446744073709551616 ∧ a2 < 18446744073709551616 ∧ a3 < 18446744073709551616 ∧
    wv x = .agg #[.int .u64 a0, .int .u64 a1, .int .u64 a2, .int .u64 a3] ∧ n4 a0 a1 a2 a3 = x % 115792089237316195423570985008687907853269984665640564039457584007913129639936 :=
  ⟨_, _, _, _, by omega, by omega, by omega, by omega, rfl, by unfold n4; omega⟩

theorem wv_congr {x y : Nat} (h : x % 115792089237316195423570985008687907853269984665640564039457584007913129639936 = y % 115792089237316195423570985008687907853269984665640564039457584007913129639936) : wv x = wv y := by
  unfold wv
  have e0 : x % 18446744073709551616 = y % 18446744073709551616 := by omega
  have e1 : x / 18446744073709551616 % 18446744073709551616 = y / 18446744073709551616 % 18446744073709551616 := by omega
  have e2 : x / 340282366920938463463374607431768211456 % 18446744073709551616 = y / 340282366920938463463374607431768211456 % 18446744073709551616 := by omega
  have e3 : x / 6277101735386680763835789423207666416102355444464034512896 % 18446744073709551616 = y / 6277101735386680763835789423207666416102355444464034512896 % 18446744073709551616 := by omega
  rw [e0, e1, e2, e3]

theorem wv_inj {x y : Nat} (h : wv x = wv y) : x % 115792089237316195423570985008687907853269984665640564039457584007913129639936 = y % 115792089237316195423570985008687907853269984665640564039457584007913129639936 := by
  simp only [wv, Value.agg.injEq, Array.mk.injEq, List.cons.injEq, Value.int.injEq, true_and, and_true] at h
  obtain ⟨h0, h1, h2, h3⟩ := h
  omega

theorem n4_lt {a0 a1 a2 a3 : Nat} (h0 : a0 < 18446744073709551616) (h1 : a1 < 18446744073709551616) (h2 : a2 < 18446744073709551616) (h3 : a3 < 18446744073709551616) :
    n4 a0 a1 a2 a3 < 115792089237316195423570985008687907853269984665640564039457584007913129639936 := by unfold n4; omega

/-- Behind a call that wrote nothing that was there (W: the world that it was called in; w: the one in which the caller began): four elder cells that held noughts hold noughts, and may be written. -/
theorem after4 {w W w1 : World} {B : Nat} (b : Nat) (hb : Below W.heap.size W w1) (h0 : Below B w W) (hB0 : B ≤ W.heap.size) (hB : b < W.heap.size)
    (c0 : W.cell? ⟨b, 0, none⟩ = some (.int .u64 0)) (c1 : W.cell? ⟨b, 1, none⟩ = some (.int .u64 0)) (c2 : W.cell? ⟨b, 2, none⟩ = some (.int .u64 0)) (c3 : W.cell? ⟨b, 3, none⟩ = some (.int .u64 0))
    (f0 : W.frozen? ⟨b, 0, none⟩ = false) (f1 : W.frozen? ⟨b, 1, none⟩ = false) (f2 : W.frozen? ⟨b, 2, none⟩ = false) (f3 : W.frozen? ⟨b, 3, none⟩ = false) :
    (w1.cell? ⟨b, 0, none⟩ = some (.int .u64 0) ∧ w1.cell? ⟨b, 1, none⟩ = some (.int .u64 0) ∧ w1.cell? ⟨b, 2, none⟩ = some (.int .u64 0) ∧ w1.cell? ⟨b, 3, none⟩ = some (.int .u64 0)) ∧
    (w1.frozen? ⟨b, 0, none⟩ = false ∧ w1.frozen? ⟨b, 1, none⟩ = false ∧ w1.frozen? ⟨b, 2, none⟩ = false ∧ w1.frozen? ⟨b, 3, none⟩ = false) ∧ b < w1.heap.size ∧ Below B w w1 :=
  ⟨⟨(hb.cell hB).trans c0, (hb.cell hB).trans c1, (hb.cell hB).trans c2, (hb.cell hB).trans c3⟩, ⟨(hb.frozen hB).trans f0, (hb.frozen hB).trans f1, (hb.frozen hB).trans f2, (hb.frozen hB).trans f3⟩, Nat.lt_of_lt_of_le hB hb.size, h0.trans (hb.mono hB0)⟩

/-- The same of one cell, whatever it holds. -/
theorem after1 {W w1 : World} {b i : Nat} {v : Value} (hb : Below W.heap.size W w1) (hB : b < W.heap.size) (c0 : W.cell? ⟨b, i, none⟩ = some v) (f0 : W.frozen? ⟨b, i, none⟩ = false) :
    w1.cell? ⟨b, i, none⟩ = some v ∧ w1.frozen? ⟨b, i, none⟩ = false ∧ b < w1.heap.size :=
  ⟨(hb.cell hB).trans c0, (hb.frozen hB).trans f0, Nat.lt_of_lt_of_le hB hb.size⟩
end Go.Proofs.YthfadinocadhaaaDoor
namespace Go.Proofs.YthfadinocadhaaaDoor
open Go.RowKit

/-- The model's entry for math/bits.Sub64. -/
def sub64E : Array Value → Sem Value := fun args => do
  let (x, y, b) ← Extern.MathBitsCarry.three "Sub64" args
  pure (Extern.MathBitsCarry.pair ((x + Extern.MathBitsCarry.m64 - y - b) % Extern.MathBitsCarry.m64) (if x < y + b then 1 else 0))
theorem run_sub64E (x y b : Nat) (hb : b ≤ 1) (w : World) :
    (sub64E #[.int .u64 x, .int .u64 y, .int .u64 b]).run Tryd.prog w =
      .ok (.tuple #[.int .u64 (((x + 18446744073709551616 - y - b) % 18446744073709551616 : Nat) : Int), .int .u64 ((if x < y + b then 1 else 0 : Nat) : Int)]) w := by
  have : b = 0 ∨ b = 1 := by omega
  rcases this with rfl | rfl <;> rfl

theorem add64_run (x y c : Nat) (hc : c ≤ 1) (w : World) :
    (callFunc 90 #[.int .u64 x, .int .u64 y, .int .u64 c]).run Tryd.prog w =
      .ok (.value (.tuple #[.int .u64 (((x + y + c) % 18446744073709551616 : Nat) : Int), .int .u64 (((x + y + c) / 18446744073709551616 : Nat) : Int)])) w := by
  rw [run_callFunc_extern Tryd.func90 (by kernel_rfl) (by kernel_rfl) (by kernel_rfl) (e := add64Entry) (by kernel_rfl), run_add64 x y c (by omega) (by omega) (by omega) (by omega)]
  simp only [Result.andThen]
  congr 5 <;> omega
theorem sub64_run (x y b : Nat) (hb : b ≤ 1) (w : World) :
    (callFunc 64 #[.int .u64 x, .int .u64 y, .int .u64 b]).run Tryd.prog w =
      .ok (.value (.tuple #[.int .u64 (((x + 18446744073709551616 - y - b) % 18446744073709551616 : Nat) : Int), .int .u64 ((if x < y + b then 1 else 0 : Nat) : Int)])) w := by
  rw [run_callFunc_extern Tryd.func64 (by kernel_rfl) (by kernel_rfl) (by kernel_rfl) (e := sub64E) (by kernel_rfl), run_sub64E x y b hb]
  rfl

theorem add64_ex (x y c : Nat) (hx : x < 18446744073709551616) (hy : y < 18446744073709551616) (hc : c ≤ 1) :
    ∃ s d : Nat, d ≤ 1 ∧ s < 18446744073709551616 ∧ s + 18446744073709551616 * d = x + y + c ∧
     ∀ w, (callFunc 90 #[.int .u64 x, .int .u64 y, .int .u64 c]).run Tryd.prog w = .ok (.value (.tuple #[.int .u64 s, .int .u64 d])) w :=
  ⟨_, _, by omega, by omega, by omega, fun w => add64_run x y c hc w⟩
theorem add64_ex0 (x y : Nat) (hx : x < 18446744073709551616) (hy : y < 18446744073709551616) :
    ∃ s d : Nat, d ≤ 1 ∧ s < 18446744073709551616 ∧ s + 18446744073709551616 * d = x + y ∧
     ∀ w, (callFunc 90 #[.int .u64 x, .int .u64 y, .int .u64 0]).run Tryd.prog w = .ok (.value (.tuple #[.int .u64 s, .int .u64 d])) w :=
  add64_ex x y 0 hx hy (by omega)
/-- What is left, and what is owed: s + y + b = x + 2^64 d. -/
theorem sub64_ex (x y b : Nat) (hx : x < 18446744073709551616) (hy : y < 18446744073709551616) (hb : b ≤ 1) :
    ∃ s d : Nat, d ≤ 1 ∧ s < 18446744073709551616 ∧ s + y + b = x + 18446744073709551616 * d ∧
     ∀ w, (callFunc 64 #[.int .u64 x, .int .u64 y, .int .u64 b]).run Tryd.prog w = .ok (.value (.tuple #[.int .u64 s, .int .u64 d])) w := by
  refine ⟨_, _, ?_, ?_, ?_, fun w => sub64_run x y b hb w⟩
  · split <;> omega
  · omega
  · split <;> omega
theorem sub64_ex0 (x y : Nat) (hx : x < 18446744073709551616) (hy : y < 18446744073709551616) :
    ∃ s d : Nat, d ≤ 1 ∧ s < 18446744073709551616 ∧ s + y = x + 18446744073709551616 * d ∧
     ∀ w, (callFunc 64 #[.int .u64 x, .int .u64 y, .int .u64 0]).run Tryd.prog w = .ok (.value (.tuple #[.int .u64 s, .int .u64 d])) w :=
  sub64_ex x y 0 hx hy (by omega)

set_option maxRecDepth 100000 in
set_option maxHeartbeats 1000000 in
theorem addCarry_walk (a0 a1 a2 a3 b0 b1 b2 b3 s0 c1 s1 c2 s2 c3 s3 c4 : Nat) (w : World)
   (h0 : ∀ w, (callFunc 90 #[.int .u64 a0, .int .u64 b0, .int .u64 0]).run Tryd.prog w = .ok (.value (.tuple #[.int .u64 s0, .int .u64 c1])) w)
   (h1 : ∀ w, (callFunc 90 #[.int .u64 a1, .int .u64 b1, .int .u64 c1]).run Tryd.prog w = .ok (.value (.tuple #[.int .u64 s1, .int .u64 c2])) w)
   (h2 : ∀ w, (callFunc 90 #[.int .u64 a2, .int .u64 b2, .int .u64 c2]).run Tryd.prog w = .ok (.value (.tuple #[.int .u64 s2, .int .u64 c3])) w)
   (h3 : ∀ w, (callFunc 90 #[.int .u64 a3, .int .u64 b3, .int .u64 c3]).run Tryd.prog w = .ok (.value (.tuple #[.int .u64 s3, .int .u64 c4])) w) :
    Calls Tryd.prog 60 #[.agg #[.int .u64 a0, .int .u64 a1, .int .u64 a2, .int .u64 a3], .agg #[.int .u64 b0, .int .u64 b1, .int .u64 b2, .int .u64 b3]] w fun e w' =>
      e = .returned (.tuple #[.agg #[.int .u64 s0, .int .u64 s1, .int .u64 s2, .int .u64 s3], .int .u64 c4]) ∧ Below w.heap.size w w' := by
  go_enter Tryd.func60, Tryd.ntmps60
  go_wp2
  refine wp_loop_rounds 5 ?_
  iterate 4 (rw [rounds_succ]; go_wp2; go_region; go_wp2)
  rw [rounds_succ]
  go_wp2
  go_returns
  exact ⟨rfl, by go_grown⟩

theorem addCarry_any (x y : Nat) (w : World) :
    Calls Tryd.prog 60 #[wv x, wv y] w fun e w' =>
      e = .returned (.tuple #[wv (x + y), .int .u64 (((x % 115792089237316195423570985008687907853269984665640564039457584007913129639936 + y % 115792089237316195423570985008687907853269984665640564039457584007913129639936) / 115792089237316195423570985008687907853269984665640564039457584007913129639936 : Nat) : Int)]) ∧ Below w.heap.size w w' := by
  obtain ⟨a0, a1, a2, a3, u0, u1, u2, u3, ea, na⟩ := wv_parts x
  obtain ⟨b0, b1, b2, b3, v0, v1, v2, v3, eb, nb⟩ := wv_parts y
  obtain ⟨s0, c1, k1, l0, e0, h0⟩ := add64_ex0 a0 b0 u0 v0
  obtain ⟨s1, c2, k2, l1, e1, h1⟩ := add64_ex a1 b1 c1 u1 v1 k1
  obtain ⟨s2, c3, k3, l2, e2, h2⟩ := add64_ex a2 b2 c2 u2 v2 k2
  obtain ⟨s3, c4, k4, l3, e3, h3⟩ := add64_ex a3 b3 c3 u3 v3 k3
  have hs : n4 s0 s1 s2 s3 + 115792089237316195423570985008687907853269984665640564039457584007913129639936 * c4 = x % 115792089237316195423570985008687907853269984665640564039457584007913129639936 + y % 115792089237316195423570985008687907853269984665640564039457584007913129639936 := by rw [← na, ← nb]; unfold n4; omega
  have hl := n4_lt l0 l1 l2 l3
  rw [ea, eb]
  refine (addCarry_walk a0 a1 a2 a3 b0 b1 b2 b3 s0 c1 s1 c2 s2 c3 s3 c4 w h0 h1 h2 h3).mono fun e w' ⟨he, hb⟩ => ⟨?_, hb⟩
  rw [he, ← hs, ← wv_n4 l0 l1 l2 l3]
  rw [wv_congr (x := n4 s0 s1 s2 s3) (y := x + y) (by omega)]
  rw [show (n4 s0 s1 s2 s3 + 115792089237316195423570985008687907853269984665640564039457584007913129639936 * c4) / 115792089237316195423570985008687907853269984665640564039457584007913129639936 = c4 by omega]

set_option maxRecDepth 100000 in
set_option maxHeartbeats 1000000 in
theorem sub_walk (a0 a1 a2 a3 b0 b1 b2 b3 s0 c1 s1 c2 s2 c3 s3 c4 : Nat) (w : World)
   (h0 : ∀ w, (callFunc 64 #[.int .u64 a0, .int .u64 b0, .int .u64 0]).run Tryd.prog w = .ok (.value (.tuple #[.int .u64 s0, .int .u64 c1])) w)
   (h1 : ∀ w, (callFunc 64 #[.int .u64 a1, .int .u64 b1, .int .u64 c1]).run Tryd.prog w = .ok (.value (.tuple #[.int .u64 s1, .int .u64 c2])) w)
   (h2 : ∀ w, (callFunc 64 #[.int .u64 a2, .int .u64 b2, .int .u64 c2]).run Tryd.prog w = .ok (.value (.tuple #[.int .u64 s2, .int .u64 c3])) w)
   (h3 : ∀ w, (callFunc 64 #[.int .u64 a3, .int .u64 b3, .int .u64 c3]).run Tryd.prog w = .ok (.value (.tuple #[.int .u64 s3, .int .u64 c4])) w) :
    Calls Tryd.prog 15 #[.agg #[.int .u64 a0, .int .u64 a1, .int .u64 a2, .int .u64 a3], .agg #[.int .u64 b0, .int .u64 b1, .int .u64 b2, .int .u64 b3]] w fun e w' =>
      e = .returned (.agg #[.int .u64 s0, .int .u64 s1, .int .u64 s2, .int .u64 s3]) ∧ Below w.heap.size w w' := by
  go_enter Tryd.func15, Tryd.ntmps15
  go_wp2
  refine wp_loop_rounds 5 ?_
  iterate 4 (rw [rounds_succ]; go_wp2; go_region; go_wp2)
  rw [rounds_succ]
  go_wp2
  go_returns
  exact ⟨rfl, by go_grown⟩

theorem sub_any (x y : Nat) (w : World) :
    Calls Tryd.prog 15 #[wv x, wv y] w fun e w' =>
      e = .returned (wv (x + (115792089237316195423570985008687907853269984665640564039457584007913129639936 - y % 115792089237316195423570985008687907853269984665640564039457584007913129639936))) ∧ Below w.heap.size w w' := by
  obtain ⟨a0, a1, a2, a3, u0, u1, u2, u3, ea, na⟩ := wv_parts x
  obtain ⟨b0, b1, b2, b3, v0, v1, v2, v3, eb, nb⟩ := wv_parts y
  obtain ⟨s0, c1, k1, l0, e0, h0⟩ := sub64_ex0 a0 b0 u0 v0
  obtain ⟨s1, c2, k2, l1, e1, h1⟩ := sub64_ex a1 b1 c1 u1 v1 k1
  obtain ⟨s2, c3, k3, l2, e2, h2⟩ := sub64_ex a2 b2 c2 u2 v2 k2
  obtain ⟨s3, c4, k4, l3, e3, h3⟩ := sub64_ex a3 b3 c3 u3 v3 k3
  have hs : n4 s0 s1 s2 s3 + y % 115792089237316195423570985008687907853269984665640564039457584007913129639936 = x % 115792089237316195423570985008687907853269984665640564039457584007913129639936 + 115792089237316195423570985008687907853269984665640564039457584007913129639936 * c4 := by rw [← na, ← nb]; unfold n4; omega
  rw [ea, eb]
  refine (sub_walk a0 a1 a2 a3 b0 b1 b2 b3 s0 c1 s1 c2 s2 c3 s3 c4 w h0 h1 h2 h3).mono fun e w' ⟨he, hb⟩ => ⟨?_, hb⟩
  rw [he, ← wv_n4 l0 l1 l2 l3]
  rw [wv_congr (x := n4 s0 s1 s2 s3) (y := x + (115792089237316195423570985008687907853269984665640564039457584007913129639936 - y % 115792089237316195423570985008687907853269984665640564039457584007913129639936)) (by omega)]

end Go.Proofs.YthfadinocadhaaaDoor
namespace Go.Proofs.YthfadinocadhaaaDoor
open Go.RowKit

/-- A guess that is not too small and whose times fit in is the quotient. -/
theorem quot_of {A y q : Nat} (hy : 0 < y) (h1 : q * y ≤ A) (h2 : A / y ≤ q) : q = A / y :=
  Nat.le_antisymm ((Nat.le_div_iff_mul_le hy).2 h1) h2

/-- Half a quotient: the guess q, and what it leaves, r. -/
structure Half (y1 y0 v u q r : Nat) : Prop where
  split : q * y1 + r = v
  least : (v * 4294967296 + u) / (4294967296 * y1 + y0) ≤ q
  most : q ≤ 4294967297
  rest : r < 4294967296

section
variable {y1 y0 v u q r : Nat} (h31 : 2147483648 ≤ y1) (h32 : y1 < 4294967296) (hy0 : y0 < 4294967296) (hu : u < 4294967296)
include h31 h32 hy0 hu

theorem Half.start (hv : v < 4294967296 * y1 + y0) : Half y1 y0 v u (v / y1) (v % y1) := by
  have hpos : 0 < y1 := by omega
  have hd := Nat.div_add_mod v y1
  have hm := Nat.mod_lt v hpos
  refine ⟨by rw [Nat.mul_comm]; exact hd, ?_, ?_, by omega⟩
  · have hlt : v * 4294967296 + u < (v / y1 + 1) * (4294967296 * y1 + y0) := by
      have h1 : v + 1 ≤ (v / y1 + 1) * y1 := by rw [Nat.add_mul, Nat.one_mul, Nat.mul_comm]; omega
      have h2 : (v + 1) * 4294967296 ≤ (v / y1 + 1) * y1 * 4294967296 := Nat.mul_le_mul_right _ h1
      have h3 : (v / y1 + 1) * (4294967296 * y1 + y0) = (v / y1 + 1) * y1 * 4294967296 + (v / y1 + 1) * y0 := by grind
      omega
    have : (v * 4294967296 + u) / (4294967296 * y1 + y0) < v / y1 + 1 := by rw [Nat.div_lt_iff_lt_mul (by omega)]; exact hlt
    omega
  · have : v / y1 < 4294967298 := by rw [Nat.div_lt_iff_lt_mul hpos]; omega
    omega

omit hu in
theorem Half.fits (h : Half y1 y0 v u q r) (h2 : q * y0 ≤ 4294967296 * r + u) : q = (v * 4294967296 + u) / (4294967296 * y1 + y0) := by
  refine quot_of (by omega) ?_ h.least
  have h3 : q * (4294967296 * y1 + y0) = (q * y1) * 4294967296 + q * y0 := by grind
  have h4 := h.split
  omega

omit h31 h32 hy0 in
theorem Half.less (h : Half y1 y0 v u q r) (hv : v < 4294967296 * y1 + y0) (ht : 4294967296 ≤ q ∨ 4294967296 * r + u < q * y0) : (v * 4294967296 + u) / (4294967296 * y1 + y0) < q := by
  rcases ht with ht | ht
  · refine Nat.lt_of_lt_of_le ?_ ht
    rw [Nat.div_lt_iff_lt_mul (by omega)]
    omega
  · rw [Nat.div_lt_iff_lt_mul (by omega)]
    have h3 : q * (4294967296 * y1 + y0) = (q * y1) * 4294967296 + q * y0 := by grind
    have h4 := h.split
    omega

omit h31 h32 hy0 in
theorem Half.down {p : Nat} (h : Half y1 y0 v u (p + 1) r) (hv : v < 4294967296 * y1 + y0) (ht : 4294967296 ≤ p + 1 ∨ 4294967296 * r + u < (p + 1) * y0) (hr : r + y1 < 4294967296) : Half y1 y0 v u p (r + y1) := by
  have hl := h.less hu hv ht
  have h4 := h.split
  have h5 := h.most
  exact ⟨by rw [Nat.add_mul] at h4; omega, by omega, by omega, hr⟩

omit h31 h32 in
theorem Half.ends {p : Nat} (h : Half y1 y0 v u (p + 1) r) (hv : v < 4294967296 * y1 + y0) (ht : 4294967296 ≤ p + 1 ∨ 4294967296 * r + u < (p + 1) * y0) (hr : 4294967296 ≤ r + y1) : p = (v * 4294967296 + u) / (4294967296 * y1 + y0) := by
  have hl := h.less hu hv ht
  have h4 := h.split
  have h5 := h.most
  refine quot_of (by omega) ?_ (by omega)
  have h3 : p * (4294967296 * y1 + y0) = (p * y1) * 4294967296 + p * y0 := by grind
  have h6 : p * y0 ≤ 4294967296 * 4294967295 := Nat.mul_le_mul (by omega) (by omega)
  rw [Nat.add_mul] at h4
  omega

omit h31 h32 hy0 in
theorem Half.pos (h : Half y1 y0 v u q r) (hv : v < 4294967296 * y1 + y0) (ht : 4294967296 ≤ q ∨ 4294967296 * r + u < q * y0) : 0 < q := by
  exact Nat.lt_of_le_of_lt (Nat.zero_le _) (h.less hu hv ht)
end

/-- Both halves are the whole. -/
theorem halves {y hi u1 u0 : Nat} (hy : 0 < y) :
    (hi * 4294967296 + u1) / y * 4294967296 + ((hi * 4294967296 + u1) % y * 4294967296 + u0) / y = (hi * 18446744073709551616 + (u1 * 4294967296 + u0)) / y := by
  have hd := Nat.div_add_mod (hi * 4294967296 + u1) y
  have e : hi * 18446744073709551616 + (u1 * 4294967296 + u0) = (hi * 4294967296 + u1) * 4294967296 + u0 := by omega
  rw [e]
  have e2 : (hi * 4294967296 + u1) * 4294967296 + u0 = y * ((hi * 4294967296 + u1) / y * 4294967296) + ((hi * 4294967296 + u1) % y * 4294967296 + u0) := by
    have : (hi * 4294967296 + u1) * 4294967296 = (y * ((hi * 4294967296 + u1) / y) + (hi * 4294967296 + u1) % y) * 4294967296 := by rw [hd]
    rw [this]
    grind
  rw [e2, Nat.mul_add_div hy]
end Go.Proofs.YthfadinocadhaaaDoor
namespace Go.Proofs.YthfadinocadhaaaDoor
open Go.RowKit

/-- What Div64 leaves: the quotient; a rest that nobody asks for. -/
def DivPost (q : Nat) (w : World) (e : Ending) (w' : World) : Prop := (∃ r : Int, e = .returned (.tuple #[.int .u64 (q : Int), .int .u64 r])) ∧ w = w'

theorem divpost_mk {q : Nat} {z r : Int} {w : World} (h : z = (q : Int)) : DivPost q w (.returned (.tuple #[.int .u64 z, .int .u64 r])) w := ⟨⟨r, by rw [h]⟩, rfl⟩

theorem div64_fin {hi lo y y1 y0 u1 u0 P Q : Nat} (hy : y = 4294967296 * y1 + y0) (hlo : lo = 4294967296 * u1 + u0) (_hpos : 0 < y1) (_h1 : (hi : Int) < y)
    (eP : P = (hi * 4294967296 + u1) / y) (eQ : Q = ((hi * 4294967296 + u1) % y * 4294967296 + u0) / (4294967296 * y1 + y0)) : P * 4294967296 + Q = (hi * 18446744073709551616 + lo) / y := by
  rw [← hy] at eQ
  rw [eP, eQ, halves (by omega), hlo, Nat.mul_comm 4294967296 u1]

set_option maxRecDepth 100000 in
set_option maxHeartbeats 8000000 in
theorem div64_big (hi lo y y1 y0 u1 u0 : Nat) (h0 : (0 : Int) < hi) (h1 : (hi : Int) < y) (hy : y = 4294967296 * y1 + y0) (hlo : lo = 4294967296 * u1 + u0)
    (h31 : 2147483648 ≤ y1) (h32 : y1 < 4294967296) (hy0 : y0 < 4294967296) (hu1 : u1 < 4294967296) (hu0 : u0 < 4294967296) (w : World)
    (a1 : bits .and .u64 (y : Int) 4294967295 = (y0 : Int)) (a2 : bits .and .u64 (lo : Int) 4294967295 = (u0 : Int)) (a3 : bits .or .u64 (hi : Int) 0 = (hi : Int))
    (hL : ∀ w, Calls Tryd.prog 95 #[.int .u64 y] w fun e w' => e = .returned (.int .i64 0) ∧ w = w') :
    Calls Tryd.prog 118 #[.int .u64 hi, .int .u64 lo, .int .u64 y] w (DivPost ((hi * 18446744073709551616 + lo) / y) w) := by
  have hy' : (9223372036854775808 : Int) ≤ y := by omega
  have hy'' : (y : Int) ≤ 18446744073709551615 := by omega
  have hlo' : (lo : Int) ≤ 18446744073709551615 := by omega
  have n0 : ((y : Int) == 0) = false := by simp; omega
  have n1 : ¬ (y : Int) ≤ hi := by omega
  have n2 : ((hi : Int) == 0) = false := by simp; omega
  have n3 : (0 : Int) ≤ hi := by omega
  have n4 : (hi : Int) ≤ 18446744073709551615 := by omega
  have n5 : (0 : Int) ≤ lo := by omega
  have n6 : (0 : Int) ≤ y := by omega
  have d1 : (y : Int) / 4294967296 = (y1 : Int) := by omega
  have d2 : (lo : Int) / 4294967296 = (u1 : Int) := by omega
  have d3 : (lo : Int) / 18446744073709551616 = 0 := by omega
  have m1 : (1 : Int) ≤ y1 := by omega
  have m2 : (y1 : Int) ≤ 4294967295 := by omega
  have m3 : (u1 : Int) ≤ 4294967295 := by omega
  have m4 : (u0 : Int) ≤ 4294967295 := by omega
  have m5 : (0 : Int) ≤ u1 := by omega
  have m6 : (0 : Int) ≤ u0 := by omega
  have m7 : (0 : Int) ≤ y1 := by omega
  have H31 := Lib.hid h31
  have H32 := Lib.hid h32
  have HY0 := Lib.hid hy0
  have HU1 := Lib.hid hu1
  have HU2 := Lib.hid hu0
  have HY := Lib.hid hy
  have HLO := Lib.hid hlo
  have HV1 : Hid (hi < 4294967296 * y1 + y0) := Lib.hid (by omega)
  have hq := Half.start h31 h32 hy0 hu1 HV1.out
  obtain ⟨Q, eQ⟩ : ∃ Q, Q = hi / y1 := ⟨_, rfl⟩
  obtain ⟨R, eR⟩ : ∃ R, R = hi % y1 := ⟨_, rfl⟩
  rw [← eQ, ← eR] at hq
  have eq1 : (hi : Int) / (y1 : Int) = (Q : Int) := by rw [eQ]; simp
  have eq2 : IntKind.u64.wrap ((hi : Int) - IntKind.u64.wrap ((Q : Int) * (y1 : Int))) = (R : Int) := by
    have h := hq.split
    rw [← Int.natCast_mul, IntKind.wrap_u64, IntKind.wrap_u64]
    omega
  have bQ0 : (0 : Int) ≤ Q := by omega
  have bQ1 : (Q : Int) ≤ 4294967297 := by have := hq.most; omega
  have HQ0 := Lib.hid hq
  clear hq eQ eR hy hlo h31 h32 hy0 hu1 hu0 hy' 
  go_enter Tryd.func118, Tryd.ntmps118
  go_wp2_with fail
  refine (hL _).mono ?_
  rintro e w' ⟨rfl, rfl⟩
  go_wp2_with fail
  go_loop [15, 16] (fun a b => ∃ q r : Nat, a = .int .u64 q ∧ b = .int .u64 r ∧ Hid (Half y1 y0 hi u1 q r)) (fun a _ => (intOf a).toNat)
  case atStart => exact ⟨_, _, rfl, rfl, HQ0⟩
  case round =>
    obtain ⟨q, r, rfl, rfl, H1⟩ := hrel
    obtain ⟨m, hm⟩ : ∃ m : Nat, m = q * y0 := ⟨_, rfl⟩
    have r0 : (0 : Int) ≤ r := by omega
    have r1 : (r : Int) < 4294967296 := by have := H1.out.rest; omega
    have q0 : (0 : Int) ≤ q := by omega
    have q1 : (q : Int) ≤ 4294967297 := by have := H1.out.most; omega
    by_cases hbig : 4294967296 ≤ q
    · have t0 : (4294967296 : Int) ≤ q := by omega
      have ht : Hid (4294967296 ≤ q ∨ 4294967296 * r + u1 < q * y0) := Lib.hid (Or.inl hbig)
      have hqp : Hid (q = (q - 1) + 1) := Lib.hid (by omega)
      clear hbig hm
      by_cases hr : r + y1 < 4294967296
      · have t1 : ¬ (4294967296 : Int) ≤ r + y1 := by omega
        go_wp2
        go_round
        case rel => exact ⟨q - 1, r + y1, congrArg (Value.int .u64) (by have := hqp.out; omega), by go_num, Lib.hid (Half.down (p := q - 1) HU1.out (by rw [← hqp.out]; exact H1.out) HV1.out (by rw [← hqp.out]; exact ht.out) hr)⟩
        case measure => simp [intOf]; have := hqp.out; omega
      · have t1 : (4294967296 : Int) ≤ r + y1 := by omega
        obtain ⟨p, ep⟩ : ∃ p, p = q - 1 := ⟨_, rfl⟩
        have HQ1 := Lib.hid (Half.ends (p := q - 1) HY0.out HU1.out (by rw [← hqp.out]; exact H1.out) HV1.out (by rw [← hqp.out]; exact ht.out) (by omega))
        rw [← ep] at HQ1
        have hp : (q : Int) - 1 = (p : Int) := by have := hqp.out; omega
        clear ep
        clear hr
        obtain ⟨v, ev⟩ : ∃ v, v = (hi * 4294967296 + u1) % y := ⟨_, rfl⟩
        have hv : v < y := by rw [ev]; exact Nat.mod_lt _ (by omega)
        have EP : Hid (p = (hi * 4294967296 + u1) / y) := Lib.hid (by rw [HY.out]; exact HQ1.out)
        have tv : IntKind.u64.wrap (IntKind.u64.wrap (IntKind.u64.wrap ((hi : Int) * 4294967296) + (u1 : Int)) - IntKind.u64.wrap ((p : Int) * (y : Int))) = (v : Int) := by
          have hd := Nat.div_add_mod (hi * 4294967296 + u1) y
          rw [← EP.out, ← ev, Nat.mul_comm] at hd
          rw [← Int.natCast_mul]
          generalize p * y = m at *
          simp only [IntKind.wrap_u64]
          omega
        have EV := Lib.hid ev
        have c0 : (0 : Int) ≤ v := by omega
        have c1 : (v : Int) ≤ 18446744073709551615 := by omega
        have HV2 : Hid (v < 4294967296 * y1 + y0) := Lib.hid (by rw [← HY.out]; exact hv)
        have g5 : p < 4294967296 := by
          have h3 := HU1.out
          rw [EP.out, Nat.div_lt_iff_lt_mul (by omega)]
          omega
        have b5 : (p : Int) ≤ 4294967295 := by omega
        clear g5
        have b6 : (0 : Int) ≤ p := by omega
        have hq2 := Half.start H31.out H32.out HY0.out HU2.out HV2.out
        obtain ⟨Q2, eQ2⟩ : ∃ Q, Q = v / y1 := ⟨_, rfl⟩
        obtain ⟨R2, eR2⟩ : ∃ R, R = v % y1 := ⟨_, rfl⟩
        rw [← eQ2, ← eR2] at hq2
        have eq3 : (v : Int) / (y1 : Int) = (Q2 : Int) := by rw [eQ2]; simp
        have eq4 : IntKind.u64.wrap ((v : Int) - IntKind.u64.wrap ((Q2 : Int) * (y1 : Int))) = (R2 : Int) := by
          have h := hq2.split
          rw [← Int.natCast_mul, IntKind.wrap_u64, IntKind.wrap_u64]
          omega
        have bQ2 : (0 : Int) ≤ Q2 := by omega
        have bQ3 : (Q2 : Int) ≤ 4294967297 := by have := hq2.most; omega
        have HQ02 := Lib.hid hq2
        clear hq2 eQ2 eR2 ev hv
        go_wp2_with fail
        go_loop [18, 16] (fun a b => ∃ z rr : Nat, a = .int .u64 z ∧ b = .int .u64 rr ∧ Hid (Half y1 y0 v u0 z rr)) (fun a _ => (intOf a).toNat)
        case atStart => exact ⟨_, _, rfl, rfl, HQ02⟩
        case round =>
          obtain ⟨z, rr, rfl, rfl, H2⟩ := hrel
          obtain ⟨mm, hmm⟩ : ∃ mm : Nat, mm = z * y0 := ⟨_, rfl⟩
          have rr0 : (0 : Int) ≤ rr := by omega
          have rr1 : (rr : Int) < 4294967296 := by have := H2.out.rest; omega
          have zz0 : (0 : Int) ≤ z := by omega
          have zz1 : (z : Int) ≤ 4294967297 := by have := H2.out.most; omega
          by_cases hbigg : 4294967296 ≤ z
          · have tt0 : (4294967296 : Int) ≤ z := by omega
            have htt : Hid (4294967296 ≤ z ∨ 4294967296 * rr + u0 < z * y0) := Lib.hid (Or.inl hbigg)
            have hqpp : Hid (z = (z - 1) + 1) := Lib.hid (by omega)
            clear hbigg hmm
            by_cases hrr : rr + y1 < 4294967296
            · have tt1 : ¬ (4294967296 : Int) ≤ rr + y1 := by omega
              go_wp2
              go_round
              case rel => exact ⟨z - 1, rr + y1, congrArg (Value.int .u64) (by have := hqpp.out; omega), by go_num, Lib.hid (Half.down (p := z - 1) HU2.out (by rw [← hqpp.out]; exact H2.out) HV2.out (by rw [← hqpp.out]; exact htt.out) hrr)⟩
              case measure => simp [intOf]; have := hqpp.out; omega
            · have tt1 : (4294967296 : Int) ≤ rr + y1 := by omega
              obtain ⟨pp, epp⟩ : ∃ pp, pp = z - 1 := ⟨_, rfl⟩
              have HQ2 := Lib.hid (Half.ends (p := z - 1) HY0.out HU2.out (by rw [← hqpp.out]; exact H2.out) HV2.out (by rw [← hqpp.out]; exact htt.out) (by omega))
              rw [← epp] at HQ2
              have hpp : (z : Int) - 1 = (pp : Int) := by have := hqpp.out; omega
              clear epp
              clear hrr
              have fq := Lib.hid (div64_fin (P := p) (Q := pp) HY.out HLO.out (by have := H31.out; omega) h1 EP.out (by rw [← EV.out]; exact HQ2.out))
              have g7 : pp < 4294967296 := by
                have h := HV2.out
                have h3 := HU2.out
                have h5 := H31.out
                rw [HQ2.out, Nat.div_lt_iff_lt_mul (by omega)]
                omega
              have b7 : (pp : Int) ≤ 4294967295 := by omega
              clear g7
              have b8 : (0 : Int) ≤ pp := by omega
              go_wp2
              go_ret2
              exact divpost_mk (by have := fq.out; omega)
          · have tt0 : ¬ (4294967296 : Int) ≤ z := by omega
            have hww : IntKind.u64.wrap ((z : Int) * (y0 : Int)) = (mm : Int) := by
              have h1 : z * y0 ≤ 4294967295 * 4294967295 := Nat.mul_le_mul (by omega) (by have := HY0.out; omega)
              rw [← Int.natCast_mul, ← hmm, IntKind.wrap_u64]
              omega
            by_cases hgtt : 4294967296 * rr + u0 < mm
            · have tt2 : (4294967296 : Int) * rr + u0 < mm := by omega
              have htt : Hid (4294967296 ≤ z ∨ 4294967296 * rr + u0 < z * y0) := Lib.hid (Or.inr (by rw [← hmm]; exact hgtt))
              have hposs := H2.out.pos HU2.out HV2.out htt.out
              have hqpp : Hid (z = (z - 1) + 1) := Lib.hid (by omega)
              have zz2 : (1 : Int) ≤ z := by omega
              clear hbigg hmm hgtt hposs
              by_cases hrr : rr + y1 < 4294967296
              · have tt1 : ¬ (4294967296 : Int) ≤ rr + y1 := by omega
                go_wp2
                go_round
                case rel => exact ⟨z - 1, rr + y1, congrArg (Value.int .u64) (by have := hqpp.out; omega), by go_num, Lib.hid (Half.down (p := z - 1) HU2.out (by rw [← hqpp.out]; exact H2.out) HV2.out (by rw [← hqpp.out]; exact htt.out) hrr)⟩
                case measure => simp [intOf]; have := hqpp.out; omega
              · have tt1 : (4294967296 : Int) ≤ rr + y1 := by omega
                obtain ⟨pp, epp⟩ : ∃ pp, pp = z - 1 := ⟨_, rfl⟩
                have HQ2 := Lib.hid (Half.ends (p := z - 1) HY0.out HU2.out (by rw [← hqpp.out]; exact H2.out) HV2.out (by rw [← hqpp.out]; exact htt.out) (by omega))
                rw [← epp] at HQ2
                have hpp : (z : Int) - 1 = (pp : Int) := by have := hqpp.out; omega
                clear epp
                clear hrr
                have fq := Lib.hid (div64_fin (P := p) (Q := pp) HY.out HLO.out (by have := H31.out; omega) h1 EP.out (by rw [← EV.out]; exact HQ2.out))
                have g7 : pp < 4294967296 := by
                  have h := HV2.out
                  have h3 := HU2.out
                  have h5 := H31.out
                  rw [HQ2.out, Nat.div_lt_iff_lt_mul (by omega)]
                  omega
                have b7 : (pp : Int) ≤ 4294967295 := by omega
                clear g7
                have b8 : (0 : Int) ≤ pp := by omega
                go_wp2
                go_ret2
                exact divpost_mk (by have := fq.out; omega)
            · have tt2 : ¬ (4294967296 : Int) * rr + u0 < mm := by omega
              have HQ2 := Lib.hid (H2.out.fits H31.out H32.out HY0.out (by rw [← hmm]; omega))
              clear hbigg hmm hgtt
              have fq := Lib.hid (div64_fin (P := p) (Q := z) HY.out HLO.out (by have := H31.out; omega) h1 EP.out (by rw [← EV.out]; exact HQ2.out))
              have g7 : z < 4294967296 := by
                have h := HV2.out
                have h3 := HU2.out
                have h5 := H31.out
                rw [HQ2.out, Nat.div_lt_iff_lt_mul (by omega)]
                omega
              have b7 : (z : Int) ≤ 4294967295 := by omega
              clear g7
              have b8 : (0 : Int) ≤ z := by omega
              go_wp2
              go_ret2
              exact divpost_mk (by have := fq.out; omega)
    · have t0 : ¬ (4294967296 : Int) ≤ q := by omega
      have hw : IntKind.u64.wrap ((q : Int) * (y0 : Int)) = (m : Int) := by
        have h1 : q * y0 ≤ 4294967295 * 4294967295 := Nat.mul_le_mul (by omega) (by have := HY0.out; omega)
        rw [← Int.natCast_mul, ← hm, IntKind.wrap_u64]
        omega
      by_cases hgt : 4294967296 * r + u1 < m
      · have t2 : (4294967296 : Int) * r + u1 < m := by omega
        have ht : Hid (4294967296 ≤ q ∨ 4294967296 * r + u1 < q * y0) := Lib.hid (Or.inr (by rw [← hm]; exact hgt))
        have hpos := H1.out.pos HU1.out HV1.out ht.out
        have hqp : Hid (q = (q - 1) + 1) := Lib.hid (by omega)
        have q2 : (1 : Int) ≤ q := by omega
        clear hbig hm hgt hpos
        by_cases hr : r + y1 < 4294967296
        · have t1 : ¬ (4294967296 : Int) ≤ r + y1 := by omega
          go_wp2
          go_round
          case rel => exact ⟨q - 1, r + y1, congrArg (Value.int .u64) (by have := hqp.out; omega), by go_num, Lib.hid (Half.down (p := q - 1) HU1.out (by rw [← hqp.out]; exact H1.out) HV1.out (by rw [← hqp.out]; exact ht.out) hr)⟩
          case measure => simp [intOf]; have := hqp.out; omega
        · have t1 : (4294967296 : Int) ≤ r + y1 := by omega
          obtain ⟨p, ep⟩ : ∃ p, p = q - 1 := ⟨_, rfl⟩
          have HQ1 := Lib.hid (Half.ends (p := q - 1) HY0.out HU1.out (by rw [← hqp.out]; exact H1.out) HV1.out (by rw [← hqp.out]; exact ht.out) (by omega))
          rw [← ep] at HQ1
          have hp : (q : Int) - 1 = (p : Int) := by have := hqp.out; omega
          clear ep
          clear hr
          obtain ⟨v, ev⟩ : ∃ v, v = (hi * 4294967296 + u1) % y := ⟨_, rfl⟩
          have hv : v < y := by rw [ev]; exact Nat.mod_lt _ (by omega)
          have EP : Hid (p = (hi * 4294967296 + u1) / y) := Lib.hid (by rw [HY.out]; exact HQ1.out)
          have tv : IntKind.u64.wrap (IntKind.u64.wrap (IntKind.u64.wrap ((hi : Int) * 4294967296) + (u1 : Int)) - IntKind.u64.wrap ((p : Int) * (y : Int))) = (v : Int) := by
            have hd := Nat.div_add_mod (hi * 4294967296 + u1) y
            rw [← EP.out, ← ev, Nat.mul_comm] at hd
            rw [← Int.natCast_mul]
            generalize p * y = m at *
            simp only [IntKind.wrap_u64]
            omega
          have EV := Lib.hid ev
          have c0 : (0 : Int) ≤ v := by omega
          have c1 : (v : Int) ≤ 18446744073709551615 := by omega
          have HV2 : Hid (v < 4294967296 * y1 + y0) := Lib.hid (by rw [← HY.out]; exact hv)
          have g5 : p < 4294967296 := by
            have h3 := HU1.out
            rw [EP.out, Nat.div_lt_iff_lt_mul (by omega)]
            omega
          have b5 : (p : Int) ≤ 4294967295 := by omega
          clear g5
          have b6 : (0 : Int) ≤ p := by omega
          have hq2 := Half.start H31.out H32.out HY0.out HU2.out HV2.out
          obtain ⟨Q2, eQ2⟩ : ∃ Q, Q = v / y1 := ⟨_, rfl⟩
          obtain ⟨R2, eR2⟩ : ∃ R, R = v % y1 := ⟨_, rfl⟩
          rw [← eQ2, ← eR2] at hq2
          have eq3 : (v : Int) / (y1 : Int) = (Q2 : Int) := by rw [eQ2]; simp
          have eq4 : IntKind.u64.wrap ((v : Int) - IntKind.u64.wrap ((Q2 : Int) * (y1 : Int))) = (R2 : Int) := by
            have h := hq2.split
            rw [← Int.natCast_mul, IntKind.wrap_u64, IntKind.wrap_u64]
            omega
          have bQ2 : (0 : Int) ≤ Q2 := by omega
          have bQ3 : (Q2 : Int) ≤ 4294967297 := by have := hq2.most; omega
          have HQ02 := Lib.hid hq2
          clear hq2 eQ2 eR2 ev hv
          go_wp2_with fail
          go_loop [18, 16] (fun a b => ∃ z rr : Nat, a = .int .u64 z ∧ b = .int .u64 rr ∧ Hid (Half y1 y0 v u0 z rr)) (fun a _ => (intOf a).toNat)
          case atStart => exact ⟨_, _, rfl, rfl, HQ02⟩
          case round =>
            obtain ⟨z, rr, rfl, rfl, H2⟩ := hrel
            obtain ⟨mm, hmm⟩ : ∃ mm : Nat, mm = z * y0 := ⟨_, rfl⟩
            have rr0 : (0 : Int) ≤ rr := by omega
            have rr1 : (rr : Int) < 4294967296 := by have := H2.out.rest; omega
            have zz0 : (0 : Int) ≤ z := by omega
            have zz1 : (z : Int) ≤ 4294967297 := by have := H2.out.most; omega
            by_cases hbigg : 4294967296 ≤ z
            · have tt0 : (4294967296 : Int) ≤ z := by omega
              have htt : Hid (4294967296 ≤ z ∨ 4294967296 * rr + u0 < z * y0) := Lib.hid (Or.inl hbigg)
              have hqpp : Hid (z = (z - 1) + 1) := Lib.hid (by omega)
              clear hbigg hmm
              by_cases hrr : rr + y1 < 4294967296
              · have tt1 : ¬ (4294967296 : Int) ≤ rr + y1 := by omega
                go_wp2
                go_round
                case rel => exact ⟨z - 1, rr + y1, congrArg (Value.int .u64) (by have := hqpp.out; omega), by go_num, Lib.hid (Half.down (p := z - 1) HU2.out (by rw [← hqpp.out]; exact H2.out) HV2.out (by rw [← hqpp.out]; exact htt.out) hrr)⟩
                case measure => simp [intOf]; have := hqpp.out; omega
              · have tt1 : (4294967296 : Int) ≤ rr + y1 := by omega
                obtain ⟨pp, epp⟩ : ∃ pp, pp = z - 1 := ⟨_, rfl⟩
                have HQ2 := Lib.hid (Half.ends (p := z - 1) HY0.out HU2.out (by rw [← hqpp.out]; exact H2.out) HV2.out (by rw [← hqpp.out]; exact htt.out) (by omega))
                rw [← epp] at HQ2
                have hpp : (z : Int) - 1 = (pp : Int) := by have := hqpp.out; omega
                clear epp
                clear hrr
                have fq := Lib.hid (div64_fin (P := p) (Q := pp) HY.out HLO.out (by have := H31.out; omega) h1 EP.out (by rw [← EV.out]; exact HQ2.out))
                have g7 : pp < 4294967296 := by
                  have h := HV2.out
                  have h3 := HU2.out
                  have h5 := H31.out
                  rw [HQ2.out, Nat.div_lt_iff_lt_mul (by omega)]
                  omega
                have b7 : (pp : Int) ≤ 4294967295 := by omega
                clear g7
                have b8 : (0 : Int) ≤ pp := by omega
                go_wp2
                go_ret2
                exact divpost_mk (by have := fq.out; omega)
            · have tt0 : ¬ (4294967296 : Int) ≤ z := by omega
              have hww : IntKind.u64.wrap ((z : Int) * (y0 : Int)) = (mm : Int) := by
                have h1 : z * y0 ≤ 4294967295 * 4294967295 := Nat.mul_le_mul (by omega) (by have := HY0.out; omega)
                rw [← Int.natCast_mul, ← hmm, IntKind.wrap_u64]
                omega
              by_cases hgtt : 4294967296 * rr + u0 < mm
              · have tt2 : (4294967296 : Int) * rr + u0 < mm := by omega
                have htt : Hid (4294967296 ≤ z ∨ 4294967296 * rr + u0 < z * y0) := Lib.hid (Or.inr (by rw [← hmm]; exact hgtt))
                have hposs := H2.out.pos HU2.out HV2.out htt.out
                have hqpp : Hid (z = (z - 1) + 1) := Lib.hid (by omega)
                have zz2 : (1 : Int) ≤ z := by omega
                clear hbigg hmm hgtt hposs
                by_cases hrr : rr + y1 < 4294967296
                · have tt1 : ¬ (4294967296 : Int) ≤ rr + y1 := by omega
                  go_wp2
                  go_round
                  case rel => exact ⟨z - 1, rr + y1, congrArg (Value.int .u64) (by have := hqpp.out; omega), by go_num, Lib.hid (Half.down (p := z - 1) HU2.out (by rw [← hqpp.out]; exact H2.out) HV2.out (by rw [← hqpp.out]; exact htt.out) hrr)⟩
                  case measure => simp [intOf]; have := hqpp.out; omega
                · have tt1 : (4294967296 : Int) ≤ rr + y1 := by omega
                  obtain ⟨pp, epp⟩ : ∃ pp, pp = z - 1 := ⟨_, rfl⟩
                  have HQ2 := Lib.hid (Half.ends (p := z - 1) HY0.out HU2.out (by rw [← hqpp.out]; exact H2.out) HV2.out (by rw [← hqpp.out]; exact htt.out) (by omega))
                  rw [← epp] at HQ2
                  have hpp : (z : Int) - 1 = (pp : Int) := by have := hqpp.out; omega
                  clear epp
                  clear hrr
                  have fq := Lib.hid (div64_fin (P := p) (Q := pp) HY.out HLO.out (by have := H31.out; omega) h1 EP.out (by rw [← EV.out]; exact HQ2.out))
                  have g7 : pp < 4294967296 := by
                    have h := HV2.out
                    have h3 := HU2.out
                    have h5 := H31.out
                    rw [HQ2.out, Nat.div_lt_iff_lt_mul (by omega)]
                    omega
                  have b7 : (pp : Int) ≤ 4294967295 := by omega
                  clear g7
                  have b8 : (0 : Int) ≤ pp := by omega
                  go_wp2
                  go_ret2
                  exact divpost_mk (by have := fq.out; omega)
              · have tt2 : ¬ (4294967296 : Int) * rr + u0 < mm := by omega
                have HQ2 := Lib.hid (H2.out.fits H31.out H32.out HY0.out (by rw [← hmm]; omega))
                clear hbigg hmm hgtt
                have fq := Lib.hid (div64_fin (P := p) (Q := z) HY.out HLO.out (by have := H31.out; omega) h1 EP.out (by rw [← EV.out]; exact HQ2.out))
                have g7 : z < 4294967296 := by
                  have h := HV2.out
                  have h3 := HU2.out
                  have h5 := H31.out
                  rw [HQ2.out, Nat.div_lt_iff_lt_mul (by omega)]
                  omega
                have b7 : (z : Int) ≤ 4294967295 := by omega
                clear g7
                have b8 : (0 : Int) ≤ z := by omega
                go_wp2
                go_ret2
                exact divpost_mk (by have := fq.out; omega)
      · have t2 : ¬ (4294967296 : Int) * r + u1 < m := by omega
        have HQ1 := Lib.hid (H1.out.fits H31.out H32.out HY0.out (by rw [← hm]; omega))
        clear hbig hm hgt
        obtain ⟨v, ev⟩ : ∃ v, v = (hi * 4294967296 + u1) % y := ⟨_, rfl⟩
        have hv : v < y := by rw [ev]; exact Nat.mod_lt _ (by omega)
        have EP : Hid (q = (hi * 4294967296 + u1) / y) := Lib.hid (by rw [HY.out]; exact HQ1.out)
        have tv : IntKind.u64.wrap (IntKind.u64.wrap (IntKind.u64.wrap ((hi : Int) * 4294967296) + (u1 : Int)) - IntKind.u64.wrap ((q : Int) * (y : Int))) = (v : Int) := by
          have hd := Nat.div_add_mod (hi * 4294967296 + u1) y
          rw [← EP.out, ← ev, Nat.mul_comm] at hd
          rw [← Int.natCast_mul]
          generalize q * y = m at *
          simp only [IntKind.wrap_u64]
          omega
        have EV := Lib.hid ev
        have c0 : (0 : Int) ≤ v := by omega
        have c1 : (v : Int) ≤ 18446744073709551615 := by omega
        have HV2 : Hid (v < 4294967296 * y1 + y0) := Lib.hid (by rw [← HY.out]; exact hv)
        have g5 : q < 4294967296 := by
          have h3 := HU1.out
          rw [EP.out, Nat.div_lt_iff_lt_mul (by omega)]
          omega
        have b5 : (q : Int) ≤ 4294967295 := by omega
        clear g5
        have b6 : (0 : Int) ≤ q := by omega
        have hq2 := Half.start H31.out H32.out HY0.out HU2.out HV2.out
        obtain ⟨Q2, eQ2⟩ : ∃ Q, Q = v / y1 := ⟨_, rfl⟩
        obtain ⟨R2, eR2⟩ : ∃ R, R = v % y1 := ⟨_, rfl⟩
        rw [← eQ2, ← eR2] at hq2
        have eq3 : (v : Int) / (y1 : Int) = (Q2 : Int) := by rw [eQ2]; simp
        have eq4 : IntKind.u64.wrap ((v : Int) - IntKind.u64.wrap ((Q2 : Int) * (y1 : Int))) = (R2 : Int) := by
          have h := hq2.split
          rw [← Int.natCast_mul, IntKind.wrap_u64, IntKind.wrap_u64]
          omega
        have bQ2 : (0 : Int) ≤ Q2 := by omega
        have bQ3 : (Q2 : Int) ≤ 4294967297 := by have := hq2.most; omega
        have HQ02 := Lib.hid hq2
        clear hq2 eQ2 eR2 ev hv
        go_wp2_with fail
        go_loop [18, 16] (fun a b => ∃ z rr : Nat, a = .int .u64 z ∧ b = .int .u64 rr ∧ Hid (Half y1 y0 v u0 z rr)) (fun a _ => (intOf a).toNat)
        case atStart => exact ⟨_, _, rfl, rfl, HQ02⟩
        case round =>
          obtain ⟨z, rr, rfl, rfl, H2⟩ := hrel
          obtain ⟨mm, hmm⟩ : ∃ mm : Nat, mm = z * y0 := ⟨_, rfl⟩
          have rr0 : (0 : Int) ≤ rr := by omega
          have rr1 : (rr : Int) < 4294967296 := by have := H2.out.rest; omega
          have zz0 : (0 : Int) ≤ z := by omega
          have zz1 : (z : Int) ≤ 4294967297 := by have := H2.out.most; omega
          by_cases hbigg : 4294967296 ≤ z
          · have tt0 : (4294967296 : Int) ≤ z := by omega
            have htt : Hid (4294967296 ≤ z ∨ 4294967296 * rr + u0 < z * y0) := Lib.hid (Or.inl hbigg)
            have hqpp : Hid (z = (z - 1) + 1) := Lib.hid (by omega)
            clear hbigg hmm
            by_cases hrr : rr + y1 < 4294967296
            · have tt1 : ¬ (4294967296 : Int) ≤ rr + y1 := by omega
              go_wp2
              go_round
              case rel => exact ⟨z - 1, rr + y1, congrArg (Value.int .u64) (by have := hqpp.out; omega), by go_num, Lib.hid (Half.down (p := z - 1) HU2.out (by rw [← hqpp.out]; exact H2.out) HV2.out (by rw [← hqpp.out]; exact htt.out) hrr)⟩
              case measure => simp [intOf]; have := hqpp.out; omega
            · have tt1 : (4294967296 : Int) ≤ rr + y1 := by omega
              obtain ⟨pp, epp⟩ : ∃ pp, pp = z - 1 := ⟨_, rfl⟩
              have HQ2 := Lib.hid (Half.ends (p := z - 1) HY0.out HU2.out (by rw [← hqpp.out]; exact H2.out) HV2.out (by rw [← hqpp.out]; exact htt.out) (by omega))
              rw [← epp] at HQ2
              have hpp : (z : Int) - 1 = (pp : Int) := by have := hqpp.out; omega
              clear epp
              clear hrr
              have fq := Lib.hid (div64_fin (P := q) (Q := pp) HY.out HLO.out (by have := H31.out; omega) h1 EP.out (by rw [← EV.out]; exact HQ2.out))
              have g7 : pp < 4294967296 := by
                have h := HV2.out
                have h3 := HU2.out
                have h5 := H31.out
                rw [HQ2.out, Nat.div_lt_iff_lt_mul (by omega)]
                omega
              have b7 : (pp : Int) ≤ 4294967295 := by omega
              clear g7
              have b8 : (0 : Int) ≤ pp := by omega
              go_wp2
              go_ret2
              exact divpost_mk (by have := fq.out; omega)
          · have tt0 : ¬ (4294967296 : Int) ≤ z := by omega
            have hww : IntKind.u64.wrap ((z : Int) * (y0 : Int)) = (mm : Int) := by
              have h1 : z * y0 ≤ 4294967295 * 4294967295 := Nat.mul_le_mul (by omega) (by have := HY0.out; omega)
              rw [← Int.natCast_mul, ← hmm, IntKind.wrap_u64]
              omega
            by_cases hgtt : 4294967296 * rr + u0 < mm
            · have tt2 : (4294967296 : Int) * rr + u0 < mm := by omega
              have htt : Hid (4294967296 ≤ z ∨ 4294967296 * rr + u0 < z * y0) := Lib.hid (Or.inr (by rw [← hmm]; exact hgtt))
              have hposs := H2.out.pos HU2.out HV2.out htt.out
              have hqpp : Hid (z = (z - 1) + 1) := Lib.hid (by omega)
              have zz2 : (1 : Int) ≤ z := by omega
              clear hbigg hmm hgtt hposs
              by_cases hrr : rr + y1 < 4294967296
              · have tt1 : ¬ (4294967296 : Int) ≤ rr + y1 := by omega
                go_wp2
                go_round
                case rel => exact ⟨z - 1, rr + y1, congrArg (Value.int .u64) (by have := hqpp.out; omega), by go_num, Lib.hid (Half.down (p := z - 1) HU2.out (by rw [← hqpp.out]; exact H2.out) HV2.out (by rw [← hqpp.out]; exact htt.out) hrr)⟩
                case measure => simp [intOf]; have := hqpp.out; omega
              · have tt1 : (4294967296 : Int) ≤ rr + y1 := by omega
                obtain ⟨pp, epp⟩ : ∃ pp, pp = z - 1 := ⟨_, rfl⟩
                have HQ2 := Lib.hid (Half.ends (p := z - 1) HY0.out HU2.out (by rw [← hqpp.out]; exact H2.out) HV2.out (by rw [← hqpp.out]; exact htt.out) (by omega))
                rw [← epp] at HQ2
                have hpp : (z : Int) - 1 = (pp : Int) := by have := hqpp.out; omega
                clear epp
                clear hrr
                have fq := Lib.hid (div64_fin (P := q) (Q := pp) HY.out HLO.out (by have := H31.out; omega) h1 EP.out (by rw [← EV.out]; exact HQ2.out))
                have g7 : pp < 4294967296 := by
                  have h := HV2.out
                  have h3 := HU2.out
                  have h5 := H31.out
                  rw [HQ2.out, Nat.div_lt_iff_lt_mul (by omega)]
                  omega
                have b7 : (pp : Int) ≤ 4294967295 := by omega
                clear g7
                have b8 : (0 : Int) ≤ pp := by omega
                go_wp2
                go_ret2
                exact divpost_mk (by have := fq.out; omega)
            · have tt2 : ¬ (4294967296 : Int) * rr + u0 < mm := by omega
              have HQ2 := Lib.hid (H2.out.fits H31.out H32.out HY0.out (by rw [← hmm]; omega))
              clear hbigg hmm hgtt
              have fq := Lib.hid (div64_fin (P := q) (Q := z) HY.out HLO.out (by have := H31.out; omega) h1 EP.out (by rw [← EV.out]; exact HQ2.out))
              have g7 : z < 4294967296 := by
                have h := HV2.out
                have h3 := HU2.out
                have h5 := H31.out
                rw [HQ2.out, Nat.div_lt_iff_lt_mul (by omega)]
                omega
              have b7 : (z : Int) ≤ 4294967295 := by omega
              clear g7
              have b8 : (0 : Int) ≤ z := by omega
              go_wp2
              go_ret2
              exact divpost_mk (by have := fq.out; omega)

end Go.Proofs.YthfadinocadhaaaDoor
namespace Go.Proofs.YthfadinocadhaaaDoor
open Go.RowKit

theorem bitLen_bounds (x : Nat) (h : x < 18446744073709551616) (h0 : x ≠ 0) : 1 ≤ Lib.bitLen x ∧ 2 ^ (Lib.bitLen x - 1) ≤ x ∧ x < 2 ^ Lib.bitLen x := Lib.bitLenAux_bounds 64 x (by omega) h0

theorem bitLen_full (x : Nat) (h : x < 18446744073709551616) (h0 : 9223372036854775808 ≤ x) : Lib.bitLen x = 64 := by
  obtain ⟨-, h2, h3⟩ := bitLen_bounds x h (by omega)
  have h4 : ¬ Lib.bitLen x ≤ 63 := fun h => by
    have := Nat.pow_le_pow_right (n := 2) (by omega) h
    omega
  have h5 : ¬ 65 ≤ Lib.bitLen x := fun h => by
    have := Nat.pow_le_pow_right (n := 2) (by omega) (show 64 ≤ Lib.bitLen x - 1 by omega)
    omega
  omega

set_option maxRecDepth 100000 in
set_option maxHeartbeats 1000000 in
theorem div64_small (lo y : Nat) (h0 : (0 : Int) < y) (hlo : (lo : Int) ≤ 18446744073709551615) (w : World) :
    Calls Tryd.prog 118 #[.int .u64 0, .int .u64 lo, .int .u64 y] w fun e w' => e = .returned (.tuple #[.int .u64 ((lo / y : Nat) : Int), .int .u64 ((lo % y : Nat) : Int)]) ∧ w.drew = w' := by
  have n0 : ((y : Int) == 0) = false := by simp; omega
  have n1 : ¬ (y : Int) ≤ 0 := by omega
  have n2 : (1 : Int) ≤ y := by omega
  have n3 : (0 : Int) ≤ lo := by omega
  have n4 : (lo : Int) / y ≤ lo := by rw [← Int.natCast_ediv]; have := Nat.div_le_self lo y; omega
  have n5 : (0 : Int) ≤ (lo : Int) / y := Int.ediv_nonneg (by omega) (by omega)
  have n6 : IntKind.u64.wrap ((lo : Int) / y) = (lo : Int) / y := by rw [IntKind.wrap_u64]; omega
  go_enter Tryd.func118, Tryd.ntmps118
  go_wp2_with fail
  go_region
  go_wp2
  go_ret2
  exact ⟨by simp, rfl⟩

/-- What guess tells. -/
def guessN (high next b : Nat) : Nat := if b ≤ high then 18446744073709551615 else (high * 18446744073709551616 + next) / b

set_option maxRecDepth 100000 in
set_option maxHeartbeats 1000000 in
theorem guess_over (high next b : Nat) (h : (b : Int) ≤ high) (w : World) :
    Calls Tryd.prog 107 #[.int .u64 high, .int .u64 next, .int .u64 b] w fun e w' => e = .returned (.int .u64 18446744073709551615) ∧ w = w' := by
  go_enter Tryd.func107, Tryd.ntmps107
  go_wp2
  go_ret
  exact ⟨rfl, rfl⟩

set_option maxRecDepth 100000 in
set_option maxHeartbeats 1000000 in
theorem guess_under (high next b q : Nat) (h : ¬ (b : Int) ≤ high) (w w1 : World) (r : Int)
    (hD : Calls Tryd.prog 118 #[.int .u64 high, .int .u64 next, .int .u64 b] w fun e w' => e = .returned (.tuple #[.int .u64 q, .int .u64 r]) ∧ w1 = w') :
    Calls Tryd.prog 107 #[.int .u64 high, .int .u64 next, .int .u64 b] w fun e w' => e = .returned (.int .u64 q) ∧ w1 = w' := by
  have HD := Lib.hid hD; clear hD
  go_enter Tryd.func107, Tryd.ntmps107
  go_wp2_with fail
  refine HD.out.mono ?_
  rintro e w' ⟨rfl, rfl⟩
  go_wp2
  go_ret
  exact ⟨rfl, rfl⟩

set_option maxRecDepth 100000 in
set_option maxHeartbeats 1000000 in
theorem guess_under' (high next b q : Nat) (h : ¬ (b : Int) ≤ high) (w : World)
    (hD : Calls Tryd.prog 118 #[.int .u64 high, .int .u64 next, .int .u64 b] w (DivPost q w)) :
    Calls Tryd.prog 107 #[.int .u64 high, .int .u64 next, .int .u64 b] w fun e w' => e = .returned (.int .u64 q) ∧ w = w' := by
  have HD := Lib.hid hD; clear hD
  go_enter Tryd.func107, Tryd.ntmps107
  go_wp2_with fail
  refine HD.out.mono ?_
  rintro e w' ⟨⟨r, rfl⟩, rfl⟩
  go_wp2
  go_ret
  exact ⟨rfl, rfl⟩

/-- WHAT guess COMES TO, for a divisor that has its highest bit. -/
theorem guess_any (high next b : Nat) (hh : high < 18446744073709551616) (hn : next < 18446744073709551616) (hb : b < 18446744073709551616) (hb1 : 9223372036854775808 ≤ b) (w : World) :
    Calls Tryd.prog 107 #[.int .u64 high, .int .u64 next, .int .u64 b] w fun e w' => e = .returned (.int .u64 (guessN high next b : Nat)) ∧ ∃ m, w' = w.drewN m := by
  unfold guessN
  by_cases h : b ≤ high
  · rw [if_pos h]
    exact (guess_over high next b (by omega) w).mono fun e w' ⟨he, hw⟩ => ⟨he, 0, hw ▸ rfl⟩
  · rw [if_neg h]
    by_cases h0 : high = 0
    · subst h0
      rw [Nat.zero_mul, Nat.zero_add]
      exact (guess_under 0 next b (next / b) (by omega) w w.drew _ (div64_small next b (by omega) (by omega) w)).mono fun e w' ⟨he, hw⟩ => ⟨he, 1, hw ▸ rfl⟩
    · have hz : Lib.bitLen ((b : Int)).toNat = 64 := by rw [Int.toNat_natCast]; exact bitLen_full b hb hb1
      have hL : ∀ w, Calls Tryd.prog 95 #[.int .u64 b] w fun e w' => e = .returned (.int .i64 0) ∧ w = w' := fun w =>
        (Tryd.bits_LeadingZeros64 b w (by omega) (by omega)).mono fun e w' ⟨he, hw⟩ => ⟨by rw [he, hz]; rfl, hw.symm⟩
      have e1 : ∀ x : Nat, x < 18446744073709551616 → bits .and .u64 (x : Int) 4294967295 = ((x % 4294967296 : Nat) : Int) := fun x hx => by
        have := bits_and_u64_nat x 4294967295 hx (by omega)
        rw [show x &&& 4294967295 = x % 4294967296 from Nat.and_two_pow_sub_one_eq_mod x 32] at this
        exact this
      have e2 : bits .or .u64 (high : Int) 0 = (high : Int) := by
        have := bits_or_u64_nat high 0 hh (by omega)
        rw [Nat.or_zero] at this
        exact this
      have h := div64_big high next b (b / 4294967296) (b % 4294967296) (next / 4294967296) (next % 4294967296) (by omega) (by omega) (by omega) (by omega) (by omega) (by omega) (by omega) (by omega) (by omega) w (e1 b hb) (e1 next hn) e2 hL
      exact (guess_under' high next b _ (by omega) w h).mono fun e w' ⟨he, hw⟩ => ⟨he, 0, hw ▸ rfl⟩
end Go.Proofs.YthfadinocadhaaaDoor
namespace Go.Proofs.YthfadinocadhaaaDoor
open Go.RowKit

/-- A part of a word's value at a known place. -/
theorem index4_0 (v0 v1 v2 v3 : Value) (w : World) : (Instr.index 24 (.agg #[v0, v1, v2, v3]) (.int .i64 0)).run Tryd.prog w = .ok v0 w := by kernel_rfl
theorem index4_1 (v0 v1 v2 v3 : Value) (w : World) : (Instr.index 24 (.agg #[v0, v1, v2, v3]) (.int .i64 1)).run Tryd.prog w = .ok v1 w := by kernel_rfl
theorem index4_2 (v0 v1 v2 v3 : Value) (w : World) : (Instr.index 24 (.agg #[v0, v1, v2, v3]) (.int .i64 2)).run Tryd.prog w = .ok v2 w := by kernel_rfl
theorem index4_3 (v0 v1 v2 v3 : Value) (w : World) : (Instr.index 24 (.agg #[v0, v1, v2, v3]) (.int .i64 3)).run Tryd.prog w = .ok v3 w := by kernel_rfl

theorem mul64_ex (x y : Nat) (hx : x < 18446744073709551616) (hy : y < 18446744073709551616) :
    ∃ h l : Nat, h < 18446744073709551615 ∧ l < 18446744073709551616 ∧ l + 18446744073709551616 * h = x * y ∧
     ∀ w, Calls Tryd.prog 106 #[.int .u64 x, .int .u64 y] w fun e w' => e = .returned (.tuple #[.int .u64 h, .int .u64 l]) ∧ w = w' := by
  have hm : x * y ≤ 18446744073709551615 * 18446744073709551615 := Nat.mul_le_mul (by omega) (by omega)
  refine ⟨x * y / 18446744073709551616, x * y % 18446744073709551616, by omega, by omega, by omega, fun w => (Tryd.bits_Mul64 x y hx hy w).mono fun e w' ⟨he, hw⟩ => ⟨he, hw.symm⟩⟩

set_option maxHeartbeats 400000 in
theorem mulAdd_walk (x y m c h l s0 d0 s1 d1 : Nat) (w : World)
    (hM : ∀ w, Calls Tryd.prog 106 #[.int .u64 x, .int .u64 y] w fun e w' => e = .returned (.tuple #[.int .u64 h, .int .u64 l]) ∧ w = w')
    (h0 : ∀ w, (callFunc 90 #[.int .u64 l, .int .u64 m, .int .u64 0]).run Tryd.prog w = .ok (.value (.tuple #[.int .u64 s0, .int .u64 d0])) w)
    (h1 : ∀ w, (callFunc 90 #[.int .u64 s0, .int .u64 c, .int .u64 0]).run Tryd.prog w = .ok (.value (.tuple #[.int .u64 s1, .int .u64 d1])) w)
    (b1 : (h : Int) + d0 ≤ 18446744073709551615) (b2 : (h : Int) + d0 + d1 ≤ 18446744073709551615) :
    Calls Tryd.prog 91 #[.int .u64 x, .int .u64 y, .int .u64 m, .int .u64 c] w fun e w' => e = .returned (.tuple #[.int .u64 s1, .int .u64 ((h + d0 + d1 : Nat) : Int)]) ∧ w = w' := by
  go_enter Tryd.func91, Tryd.ntmps91
  go_wp2_with fail
  refine (hM _).mono ?_
  rintro e w' ⟨rfl, rfl⟩
  go_wp2
  go_ret2
  exact ⟨by simp, rfl⟩

/-- WHAT mulAdd COMES TO. -/
theorem mulAdd_ex (x y m c : Nat) (hx : x < 18446744073709551616) (hy : y < 18446744073709551616) (hm : m < 18446744073709551616) (hc : c < 18446744073709551616) :
    ∃ l h : Nat, l < 18446744073709551616 ∧ h < 18446744073709551616 ∧ l + 18446744073709551616 * h = x * y + m + c ∧
      ∀ w, Calls Tryd.prog 91 #[.int .u64 x, .int .u64 y, .int .u64 m, .int .u64 c] w fun e w' => e = .returned (.tuple #[.int .u64 l, .int .u64 h]) ∧ w = w' := by
  obtain ⟨h, l, lh, ll, e, hM⟩ := mul64_ex x y hx hy
  obtain ⟨s0, d0, k0, l0, e0, h0⟩ := add64_ex0 l m ll hm
  obtain ⟨s1, d1, k1, l1, e1, h1⟩ := add64_ex0 s0 c l0 hc
  have hb : x * y ≤ 18446744073709551615 * 18446744073709551615 := Nat.mul_le_mul (by omega) (by omega)
  have ht : s1 + 18446744073709551616 * (h + d0 + d1) = x * y + m + c := by omega
  have hh : h + d0 + d1 < 18446744073709551616 := by omega
  exact ⟨s1, h + d0 + d1, l1, hh, ht, fun w => mulAdd_walk x y m c h l s0 d0 s1 d1 w hM h0 h1 (by omega) (by omega)⟩
end Go.Proofs.YthfadinocadhaaaDoor
namespace Go.Proofs.YthfadinocadhaaaDoor
open Go.RowKit

set_option maxHeartbeats 400000 in
theorem add_any (x y : Nat) (w : World) :
    Calls Tryd.prog 13 #[wv x, wv y] w fun e w' => e = .returned (wv (x + y)) ∧ Below w.heap.size w w' := by
  obtain ⟨a0, a1, a2, a3, u0, u1, u2, u3, ea, na⟩ := wv_parts x
  obtain ⟨b0, b1, b2, b3, v0, v1, v2, v3, eb, nb⟩ := wv_parts y
  obtain ⟨s0, s1, s2, s3, l0, l1, l2, l3, es, ns⟩ := wv_parts (x + y)
  have hc := fun w => addCarry_any x y w
  rw [ea, eb, es] at hc
  rw [ea, eb, es]
  clear ea eb es
  generalize ((x % 115792089237316195423570985008687907853269984665640564039457584007913129639936 + y % 115792089237316195423570985008687907853269984665640564039457584007913129639936) / 115792089237316195423570985008687907853269984665640564039457584007913129639936) = c at hc
  clear na nb ns
  go_enter Tryd.func13, Tryd.ntmps13
  go_wp2_with fail
  refine (hc _).mono ?_
  rintro e w' ⟨rfl, hb⟩
  obtain ⟨⟨q0, q1, q2, q3⟩, ⟨f0, f1, f2, f3⟩, hz, hb'⟩ := after4 (w := w) (B := w.heap.size) (w.heap.size + 1 + 1) hb (by go_grown) (by simp; omega) (by simp) (by go_cell) (by go_cell) (by go_cell) (by go_cell) (by go_cell) (by go_cell) (by go_cell) (by go_cell)
  clear hb
  go_wp2
  refine bodyPost_ret (by simp [results, Tryd.results13, go_sem, hz, q0, q1, q2, q3]; try rfl) rfl ⟨rfl, ?_⟩
  go_grown
end Go.Proofs.YthfadinocadhaaaDoor
namespace Go.Proofs.YthfadinocadhaaaDoor
open Go.RowKit

set_option maxRecDepth 100000 in
set_option maxHeartbeats 4000000 in
theorem product_walk (a0 a1 a2 a3 b0 b1 b2 b3 p00 c00 p01 c01 p02 c02 p03 c03 p10 c10 p11 c11 p12 c12 p13 c13 p20 c20 p21 c21 p22 c22 p23 c23 p30 c30 p31 c31 p32 c32 p33 c33 : Nat) (w : World)
    (h00 : ∀ w, Calls Tryd.prog 91 #[.int .u64 a0, .int .u64 b0, .int .u64 0, .int .u64 0] w fun e w' => e = .returned (.tuple #[.int .u64 p00, .int .u64 c00]) ∧ w = w')
    (h01 : ∀ w, Calls Tryd.prog 91 #[.int .u64 a0, .int .u64 b1, .int .u64 0, .int .u64 c00] w fun e w' => e = .returned (.tuple #[.int .u64 p01, .int .u64 c01]) ∧ w = w')
    (h02 : ∀ w, Calls Tryd.prog 91 #[.int .u64 a0, .int .u64 b2, .int .u64 0, .int .u64 c01] w fun e w' => e = .returned (.tuple #[.int .u64 p02, .int .u64 c02]) ∧ w = w')
    (h03 : ∀ w, Calls Tryd.prog 91 #[.int .u64 a0, .int .u64 b3, .int .u64 0, .int .u64 c02] w fun e w' => e = .returned (.tuple #[.int .u64 p03, .int .u64 c03]) ∧ w = w')
    (h10 : ∀ w, Calls Tryd.prog 91 #[.int .u64 a1, .int .u64 b0, .int .u64 p01, .int .u64 0] w fun e w' => e = .returned (.tuple #[.int .u64 p10, .int .u64 c10]) ∧ w = w')
    (h11 : ∀ w, Calls Tryd.prog 91 #[.int .u64 a1, .int .u64 b1, .int .u64 p02, .int .u64 c10] w fun e w' => e = .returned (.tuple #[.int .u64 p11, .int .u64 c11]) ∧ w = w')
    (h12 : ∀ w, Calls Tryd.prog 91 #[.int .u64 a1, .int .u64 b2, .int .u64 p03, .int .u64 c11] w fun e w' => e = .returned (.tuple #[.int .u64 p12, .int .u64 c12]) ∧ w = w')
    (h13 : ∀ w, Calls Tryd.prog 91 #[.int .u64 a1, .int .u64 b3, .int .u64 c03, .int .u64 c12] w fun e w' => e = .returned (.tuple #[.int .u64 p13, .int .u64 c13]) ∧ w = w')
    (h20 : ∀ w, Calls Tryd.prog 91 #[.int .u64 a2, .int .u64 b0, .int .u64 p11, .int .u64 0] w fun e w' => e = .returned (.tuple #[.int .u64 p20, .int .u64 c20]) ∧ w = w')
    (h21 : ∀ w, Calls Tryd.prog 91 #[.int .u64 a2, .int .u64 b1, .int .u64 p12, .int .u64 c20] w fun e w' => e = .returned (.tuple #[.int .u64 p21, .int .u64 c21]) ∧ w = w')
    (h22 : ∀ w, Calls Tryd.prog 91 #[.int .u64 a2, .int .u64 b2, .int .u64 p13, .int .u64 c21] w fun e w' => e = .returned (.tuple #[.int .u64 p22, .int .u64 c22]) ∧ w = w')
    (h23 : ∀ w, Calls Tryd.prog 91 #[.int .u64 a2, .int .u64 b3, .int .u64 c13, .int .u64 c22] w fun e w' => e = .returned (.tuple #[.int .u64 p23, .int .u64 c23]) ∧ w = w')
    (h30 : ∀ w, Calls Tryd.prog 91 #[.int .u64 a3, .int .u64 b0, .int .u64 p21, .int .u64 0] w fun e w' => e = .returned (.tuple #[.int .u64 p30, .int .u64 c30]) ∧ w = w')
    (h31 : ∀ w, Calls Tryd.prog 91 #[.int .u64 a3, .int .u64 b1, .int .u64 p22, .int .u64 c30] w fun e w' => e = .returned (.tuple #[.int .u64 p31, .int .u64 c31]) ∧ w = w')
    (h32 : ∀ w, Calls Tryd.prog 91 #[.int .u64 a3, .int .u64 b2, .int .u64 p23, .int .u64 c31] w fun e w' => e = .returned (.tuple #[.int .u64 p32, .int .u64 c32]) ∧ w = w')
    (h33 : ∀ w, Calls Tryd.prog 91 #[.int .u64 a3, .int .u64 b3, .int .u64 c23, .int .u64 c32] w fun e w' => e = .returned (.tuple #[.int .u64 p33, .int .u64 c33]) ∧ w = w') :
    Calls Tryd.prog 67 #[.agg #[.int .u64 a0, .int .u64 a1, .int .u64 a2, .int .u64 a3], .agg #[.int .u64 b0, .int .u64 b1, .int .u64 b2, .int .u64 b3]] w fun e w' =>
      e = .returned (.agg #[.int .u64 p00, .int .u64 p10, .int .u64 p20, .int .u64 p30, .int .u64 p31, .int .u64 p32, .int .u64 p33, .int .u64 c33]) ∧ Below w.heap.size w w' := by
  have ia0 := index4_0; have ia1 := index4_1; have ia2 := index4_2; have ia3 := index4_3
  go_enter Tryd.func67, Tryd.ntmps67
  go_wp2
  refine wp_loop_rounds 5 ?_
  rw [rounds_succ]; go_wp2
  refine wp_loop_rounds 5 ?_
  rw [rounds_succ]; go_wp2_with fail
  refine (h00 _).mono ?_; rintro e w' ⟨rfl, rfl⟩; go_wp2
  rw [rounds_succ]; go_wp2_with fail
  refine (h01 _).mono ?_; rintro e w' ⟨rfl, rfl⟩; go_wp2
  rw [rounds_succ]; go_wp2_with fail
  refine (h02 _).mono ?_; rintro e w' ⟨rfl, rfl⟩; go_wp2
  rw [rounds_succ]; go_wp2_with fail
  refine (h03 _).mono ?_; rintro e w' ⟨rfl, rfl⟩; go_wp2
  rw [rounds_succ]; go_wp2
  rw [rounds_succ]; go_wp2
  refine wp_loop_rounds 5 ?_
  rw [rounds_succ]; go_wp2_with fail
  refine (h10 _).mono ?_; rintro e w' ⟨rfl, rfl⟩; go_wp2
  rw [rounds_succ]; go_wp2_with fail
  refine (h11 _).mono ?_; rintro e w' ⟨rfl, rfl⟩; go_wp2
  rw [rounds_succ]; go_wp2_with fail
  refine (h12 _).mono ?_; rintro e w' ⟨rfl, rfl⟩; go_wp2
  rw [rounds_succ]; go_wp2_with fail
  refine (h13 _).mono ?_; rintro e w' ⟨rfl, rfl⟩; go_wp2
  rw [rounds_succ]; go_wp2
  rw [rounds_succ]; go_wp2
  refine wp_loop_rounds 5 ?_
  rw [rounds_succ]; go_wp2_with fail
  refine (h20 _).mono ?_; rintro e w' ⟨rfl, rfl⟩; go_wp2
  rw [rounds_succ]; go_wp2_with fail
  refine (h21 _).mono ?_; rintro e w' ⟨rfl, rfl⟩; go_wp2
  rw [rounds_succ]; go_wp2_with fail
  refine (h22 _).mono ?_; rintro e w' ⟨rfl, rfl⟩; go_wp2
  rw [rounds_succ]; go_wp2_with fail
  refine (h23 _).mono ?_; rintro e w' ⟨rfl, rfl⟩; go_wp2
  rw [rounds_succ]; go_wp2
  rw [rounds_succ]; go_wp2
  refine wp_loop_rounds 5 ?_
  rw [rounds_succ]; go_wp2_with fail
  refine (h30 _).mono ?_; rintro e w' ⟨rfl, rfl⟩; go_wp2
  rw [rounds_succ]; go_wp2_with fail
  refine (h31 _).mono ?_; rintro e w' ⟨rfl, rfl⟩; go_wp2
  rw [rounds_succ]; go_wp2_with fail
  refine (h32 _).mono ?_; rintro e w' ⟨rfl, rfl⟩; go_wp2
  rw [rounds_succ]; go_wp2_with fail
  refine (h33 _).mono ?_; rintro e w' ⟨rfl, rfl⟩; go_wp2
  rw [rounds_succ]; go_wp2
  rw [rounds_succ]; go_wp2
  go_returns
  exact ⟨rfl, by go_grown⟩
end Go.Proofs.YthfadinocadhaaaDoor
namespace Go.Proofs.YthfadinocadhaaaDoor
open Go.RowKit

/-- THE VALUE OF A NUMBER OF 512 BITS. -/
def dv (x : Nat) : Value := .agg #[.int .u64 ((x % 18446744073709551616 : Nat) : Int), .int .u64 ((x / 18446744073709551616 % 18446744073709551616 : Nat) : Int), .int .u64 ((x / 340282366920938463463374607431768211456 % 18446744073709551616 : Nat) : Int), .int .u64 ((x / 6277101735386680763835789423207666416102355444464034512896 % 18446744073709551616 : Nat) : Int), .int .u64 ((x / 115792089237316195423570985008687907853269984665640564039457584007913129639936 % 18446744073709551616 : Nat) : Int), .int .u64 ((x / 2135987035920910082395021706169552114602704522356652769947041607822219725780640550022962086936576 % 18446744073709551616 : Nat) : Int), .int .u64 ((x / 39402006196394479212279040100143613805079739270465446667948293404245721771497210611414266254884915640806627990306816 % 18446744073709551616 : Nat) : Int), .int .u64 ((x / 726838724295606890549323807888004534353641360687318060281490199180639288113397923326191050713763565560762521606266177933534601628614656 % 18446744073709551616 : Nat) : Int)]
def n8 (a0 a1 a2 a3 a4 a5 a6 a7 : Nat) : Nat := a0 + 18446744073709551616 * a1 + 340282366920938463463374607431768211456 * a2 + 6277101735386680763835789423207666416102355444464034512896 * a3 + 115792089237316195423570985008687907853269984665640564039457584007913129639936 * a4 + 2135987035920910082395021706169552114602704522356652769947041607822219725780640550022962086936576 * a5 + 39402006196394479212279040100143613805079739270465446667948293404245721771497210611414266254884915640806627990306816 * a6 + 726838724295606890549323807888004534353641360687318060281490199180639288113397923326191050713763565560762521606266177933534601628614656 * a7

set_option maxHeartbeats 4000000 in
theorem dv_n8 {a0 a1 a2 a3 a4 a5 a6 a7 : Nat} (h0 : a0 < 18446744073709551616) (h1 : a1 < 18446744073709551616) (h2 : a2 < 18446744073709551616) (h3 : a3 < 18446744073709551616) (h4 : a4 < 18446744073709551616) (h5 : a5 < 18446744073709551616) (h6 : a6 < 18446744073709551616) (h7 : a7 < 18446744073709551616) : dv (n8 a0 a1 a2 a3 a4 a5 a6 a7) = .agg #[.int .u64 a0, .int .u64 a1, .int .u64 a2, .int .u64 a3, .int .u64 a4, .int .u64 a5, .int .u64 a6, .int .u64 a7] := by
  unfold dv n8
  have e0 : (a0 + 18446744073709551616 * a1 + 340282366920938463463374607431768211456 * a2 + 6277101735386680763835789423207666416102355444464034512896 * a3 + 115792089237316195423570985008687907853269984665640564039457584007913129639936 * a4 + 2135987035920910082395021706169552114602704522356652769947041607822219725780640550022962086936576 * a5 + 39402006196394479212279040100143613805079739270465446667948293404245721771497210611414266254884915640806627990306816 * a6 + 726838724295606890549323807888004534353641360687318060281490199180639288113397923326191050713763565560762521606266177933534601628614656 * a7) % 18446744073709551616 = a0 := by omega
  have e1 : (a0 + 18446744073709551616 * a1 + 340282366920938463463374607431768211456 * a2 + 6277101735386680763835789423207666416102355444464034512896 * a3 + 115792089237316195423570985008687907853269984665640564039457584007913129639936 * a4 + 2135987035920910082395021706169552114602704522356652769947041607822219725780640550022962086936576 * a5 + 39402006196394479212279040100143613805079739270465446667948293404245721771497210611414266254884915640806627990306816 * a6 + 726838724295606890549323807888004534353641360687318060281490199180639288113397923326191050713763565560762521606266177933534601628614656 * a7) / 18446744073709551616 % 18446744073709551616 = a1 := by omega
  have e2 : (a0 + 18446744073709551616 * a1 + 340282366920938463463374607431768211456 * a2 + 6277101735386680763835789423207666416102355444464034512896 * a3 + 115792089237316195423570985008687907853269984665640564039457584007913129639936 * a4 + 2135987035920910082395021706169552114602704522356652769947041607822219725780640550022962086936576 * a5 + 39402006196394479212279040100143613805079739270465446667948293404245721771497210611414266254884915640806627990306816 * a6 + 726838724295606890549323807888004534353641360687318060281490199180639288113397923326191050713763565560762521606266177933534601628614656 * a7) / 340282366920938463463374607431768211456 % 18446744073709551616 = a2 := by omega
  have e3 : (a0 + 18446744073709551616 * a1 + 340282366920938463463374607431768211456 * a2 + 6277101735386680763835789423207666416102355444464034512896 * a3 + 115792089237316195423570985008687907853269984665640564039457584007913129639936 * a4 + 2135987035920910082395021706169552114602704522356652769947041607822219725780640550022962086936576 * a5 + 39402006196394479212279040100143613805079739270465446667948293404245721771497210611414266254884915640806627990306816 * a6 + 726838724295606890549323807888004534353641360687318060281490199180639288113397923326191050713763565560762521606266177933534601628614656 * a7) / 6277101735386680763835789423207666416102355444464034512896 % 18446744073709551616 = a3 := by omega
  have e4 : (a0 + 18446744073709551616 * a1 + 340282366920938463463374607431768211456 * a2 + 6277101735386680763835789423207666416102355444464034512896 * a3 + 115792089237316195423570985008687907853269984665640564039457584007913129639936 * a4 + 2135987035920910082395021706169552114602704522356652769947041607822219725780640550022962086936576 * a5 + 39402006196394479212279040100143613805079739270465446667948293404245721771497210611414266254884915640806627990306816 * a6 + 726838724295606890549323807888004534353641360687318060281490199180639288113397923326191050713763565560762521606266177933534601628614656 * a7) / 115792089237316195423570985008687907853269984665640564039457584007913129639936 % 18446744073709551616 = a4 := by omega
  have e5 : (a0 + 18446744073709551616 * a1 + 340282366920938463463374607431768211456 * a2 + 6277101735386680763835789423207666416102355444464034512896 * a3 + 115792089237316195423570985008687907853269984665640564039457584007913129639936 * a4 + 2135987035920910082395021706169552114602704522356652769947041607822219725780640550022962086936576 * a5 + 39402006196394479212279040100143613805079739270465446667948293404245721771497210611414266254884915640806627990306816 * a6 + 726838724295606890549323807888004534353641360687318060281490199180639288113397923326191050713763565560762521606266177933534601628614656 * a7) / 2135987035920910082395021706169552114602704522356652769947041607822219725780640550022962086936576 % 18446744073709551616 = a5 := by omega
  have e6 : (a0 + 18446744073709551616 * a1 + 340282366920938463463374607431768211456 * a2 + 6277101735386680763835789423207666416102355444464034512896 * a3 + 115792089237316195423570985008687907853269984665640564039457584007913129639936 * a4 + 2135987035920910082395021706169552114602704522356652769947041607822219725780640550022962086936576 * a5 + 39402006196394479212279040100143613805079739270465446667948293404245721771497210611414266254884915640806627990306816 * a6 + 726838724295606890549323807888004534353641360687318060281490199180639288113397923326191050713763565560762521606266177933534601628614656 * a7) / 39402006196394479212279040100143613805079739270465446667948293404245721771497210611414266254884915640806627990306816 % 18446744073709551616 = a6 := by omega
  have e7 : (a0 + 18446744073709551616 * a1 + 340282366920938463463374607431768211456 * a2 + 6277101735386680763835789423207666416102355444464034512896 * a3 + 115792089237316195423570985008687907853269984665640564039457584007913129639936 * a4 + 2135987035920910082395021706169552114602704522356652769947041607822219725780640550022962086936576 * a5 + 39402006196394479212279040100143613805079739270465446667948293404245721771497210611414266254884915640806627990306816 * a6 + 726838724295606890549323807888004534353641360687318060281490199180639288113397923326191050713763565560762521606266177933534601628614656 * a7) / 726838724295606890549323807888004534353641360687318060281490199180639288113397923326191050713763565560762521606266177933534601628614656 % 18446744073709551616 = a7 := by omega
  rw [e0, e1, e2, e3, e4, e5, e6, e7]

set_option maxHeartbeats 4000000 in
theorem dv_parts (x : Nat) : ∃ a0 a1 a2 a3 a4 a5 a6 a7 : Nat, a0 < 18446744073709551616 ∧ a1 < 18446744073709551616 ∧ a2 < 18446744073709551616 ∧ a3 < 18446744073709551616 ∧ a4 < 18446744073709551616 ∧ a5 < 18446744073709551616 ∧ a6 < 18446744073709551616 ∧ a7 < 18446744073709551616 ∧
    dv x = .agg #[.int .u64 a0, .int .u64 a1, .int .u64 a2, .int .u64 a3, .int .u64 a4, .int .u64 a5, .int .u64 a6, .int .u64 a7] ∧ n8 a0 a1 a2 a3 a4 a5 a6 a7 = x % 13407807929942597099574024998205846127479365820592393377723561443721764030073546976801874298166903427690031858186486050853753882811946569946433649006084096 :=
  ⟨_, _, _, _, _, _, _, _, by omega, by omega, by omega, by omega, by omega, by omega, by omega, by omega, rfl, by unfold n8; omega⟩

theorem n8_lt {a0 a1 a2 a3 a4 a5 a6 a7 : Nat} (h0 : a0 < 18446744073709551616) (h1 : a1 < 18446744073709551616) (h2 : a2 < 18446744073709551616) (h3 : a3 < 18446744073709551616) (h4 : a4 < 18446744073709551616) (h5 : a5 < 18446744073709551616) (h6 : a6 < 18446744073709551616) (h7 : a7 < 18446744073709551616) : n8 a0 a1 a2 a3 a4 a5 a6 a7 < 13407807929942597099574024998205846127479365820592393377723561443721764030073546976801874298166903427690031858186486050853753882811946569946433649006084096 := by unfold n8; omega

/-- Four parts by four: by the places of the products. -/
theorem n4_mul (a0 a1 a2 a3 b0 b1 b2 b3 : Nat) : n4 a0 a1 a2 a3 * n4 b0 b1 b2 b3 =
    a0 * b0 + 18446744073709551616 * (a0 * b1) + 340282366920938463463374607431768211456 * (a0 * b2) + 6277101735386680763835789423207666416102355444464034512896 * (a0 * b3) + 18446744073709551616 * (a1 * b0) + 340282366920938463463374607431768211456 * (a1 * b1) + 6277101735386680763835789423207666416102355444464034512896 * (a1 * b2) + 115792089237316195423570985008687907853269984665640564039457584007913129639936 * (a1 * b3) + 340282366920938463463374607431768211456 * (a2 * b0) + 6277101735386680763835789423207666416102355444464034512896 * (a2 * b1) + 115792089237316195423570985008687907853269984665640564039457584007913129639936 * (a2 * b2) + 2135987035920910082395021706169552114602704522356652769947041607822219725780640550022962086936576 * (a2 * b3) + 6277101735386680763835789423207666416102355444464034512896 * (a3 * b0) + 115792089237316195423570985008687907853269984665640564039457584007913129639936 * (a3 * b1) + 2135987035920910082395021706169552114602704522356652769947041607822219725780640550022962086936576 * (a3 * b2) + 39402006196394479212279040100143613805079739270465446667948293404245721771497210611414266254884915640806627990306816 * (a3 * b3) := by
  unfold n4
  grind
end Go.Proofs.YthfadinocadhaaaDoor
namespace Go.Proofs.YthfadinocadhaaaDoor
open Go.RowKit

set_option maxHeartbeats 400000 in
theorem of_walk (n : Nat) (w : World) :
    Calls Tryd.prog 57 #[.int .u64 n] w fun e w' => e = .returned (.agg #[.int .u64 n, .int .u64 0, .int .u64 0, .int .u64 0]) ∧ Below w.heap.size w w' := by
  go_enter Tryd.func57, Tryd.ntmps57
  go_wp2
  go_returns
  exact ⟨rfl, by go_grown⟩

/-- The array that a slice of four parts lies over. -/
theorem arrayAt4 (b o c : Nat) (w : World) : (Instr.arrayAt 24 (.slice (some ⟨b, o, none⟩) 4 c)).run Tryd.prog w = .ok (.pointer (some ⟨b, o, none⟩)) w := by kernel_rfl

set_option maxRecDepth 100000 in
set_option maxHeartbeats 400000 in
theorem narrow_walk (a0 a1 a2 a3 a4 a5 a6 a7 : Nat) (w : World) :
    Calls Tryd.prog 66 #[.agg #[.int .u64 a0, .int .u64 a1, .int .u64 a2, .int .u64 a3, .int .u64 a4, .int .u64 a5, .int .u64 a6, .int .u64 a7]] w fun e w' => e = .returned (.agg #[.int .u64 a0, .int .u64 a1, .int .u64 a2, .int .u64 a3]) ∧ Below w.heap.size w w' := by
  have hat := arrayAt4
  go_enter Tryd.func66, Tryd.ntmps66
  go_wp2
  go_returns
  exact ⟨rfl, by go_grown⟩
-- WHAT product COMES TO.
set_option maxHeartbeats 4000000 in
theorem product_any (x y : Nat) (w : World) :
    Calls Tryd.prog 67 #[wv x, wv y] w fun e w' =>
      e = .returned (dv ((x % 115792089237316195423570985008687907853269984665640564039457584007913129639936) * (y % 115792089237316195423570985008687907853269984665640564039457584007913129639936))) ∧ Below w.heap.size w w' := by
  obtain ⟨a0, a1, a2, a3, u0, u1, u2, u3, ea, na⟩ := wv_parts x
  obtain ⟨b0, b1, b2, b3, v0, v1, v2, v3, eb, nb⟩ := wv_parts y
  obtain ⟨p00, c00, lp00, lc00, e00, h00⟩ := mulAdd_ex a0 b0 0 0 u0 v0 (by omega) (by omega)
  obtain ⟨p01, c01, lp01, lc01, e01, h01⟩ := mulAdd_ex a0 b1 0 c00 u0 v1 (by omega) lc00
  obtain ⟨p02, c02, lp02, lc02, e02, h02⟩ := mulAdd_ex a0 b2 0 c01 u0 v2 (by omega) lc01
  obtain ⟨p03, c03, lp03, lc03, e03, h03⟩ := mulAdd_ex a0 b3 0 c02 u0 v3 (by omega) lc02
  obtain ⟨p10, c10, lp10, lc10, e10, h10⟩ := mulAdd_ex a1 b0 p01 0 u1 v0 lp01 (by omega)
  obtain ⟨p11, c11, lp11, lc11, e11, h11⟩ := mulAdd_ex a1 b1 p02 c10 u1 v1 lp02 lc10
  obtain ⟨p12, c12, lp12, lc12, e12, h12⟩ := mulAdd_ex a1 b2 p03 c11 u1 v2 lp03 lc11
  obtain ⟨p13, c13, lp13, lc13, e13, h13⟩ := mulAdd_ex a1 b3 c03 c12 u1 v3 lc03 lc12
  obtain ⟨p20, c20, lp20, lc20, e20, h20⟩ := mulAdd_ex a2 b0 p11 0 u2 v0 lp11 (by omega)
  obtain ⟨p21, c21, lp21, lc21, e21, h21⟩ := mulAdd_ex a2 b1 p12 c20 u2 v1 lp12 lc20
  obtain ⟨p22, c22, lp22, lc22, e22, h22⟩ := mulAdd_ex a2 b2 p13 c21 u2 v2 lp13 lc21
  obtain ⟨p23, c23, lp23, lc23, e23, h23⟩ := mulAdd_ex a2 b3 c13 c22 u2 v3 lc13 lc22
  obtain ⟨p30, c30, lp30, lc30, e30, h30⟩ := mulAdd_ex a3 b0 p21 0 u3 v0 lp21 (by omega)
  obtain ⟨p31, c31, lp31, lc31, e31, h31⟩ := mulAdd_ex a3 b1 p22 c30 u3 v1 lp22 lc30
  obtain ⟨p32, c32, lp32, lc32, e32, h32⟩ := mulAdd_ex a3 b2 p23 c31 u3 v2 lp23 lc31
  obtain ⟨p33, c33, lp33, lc33, e33, h33⟩ := mulAdd_ex a3 b3 c23 c32 u3 v3 lc23 lc32
  have hs : n8 p00 p10 p20 p30 p31 p32 p33 c33 = (x % 115792089237316195423570985008687907853269984665640564039457584007913129639936) * (y % 115792089237316195423570985008687907853269984665640564039457584007913129639936) := by
    rw [← na, ← nb, n4_mul]
    clear ea eb na nb h00 h01 h02 h03 h10 h11 h12 h13 h20 h21 h22 h23 h30 h31 h32 h33
    generalize a0 * b0 = m00 at *
    generalize a0 * b1 = m01 at *
    generalize a0 * b2 = m02 at *
    generalize a0 * b3 = m03 at *
    generalize a1 * b0 = m10 at *
    generalize a1 * b1 = m11 at *
    generalize a1 * b2 = m12 at *
    generalize a1 * b3 = m13 at *
    generalize a2 * b0 = m20 at *
    generalize a2 * b1 = m21 at *
    generalize a2 * b2 = m22 at *
    generalize a2 * b3 = m23 at *
    generalize a3 * b0 = m30 at *
    generalize a3 * b1 = m31 at *
    generalize a3 * b2 = m32 at *
    generalize a3 * b3 = m33 at *
    clear u0 u1 u2 u3 v0 v1 v2 v3 lp00 lc00 lp01 lc01 lp02 lc02 lp03 lc03 lp10 lc10 lp11 lc11 lp12 lc12 lp13 lc13 lp20 lc20 lp21 lc21 lp22 lc22 lp23 lc23 lp30 lc30 lp31 lc31 lp32 lc32 lp33 lc33
    unfold n8
    omega
  rw [ea, eb, ← hs, dv_n8 lp00 lp10 lp20 lp30 lp31 lp32 lp33 lc33]
  exact product_walk a0 a1 a2 a3 b0 b1 b2 b3 p00 c00 p01 c01 p02 c02 p03 c03 p10 c10 p11 c11 p12 c12 p13 c13 p20 c20 p21 c21 p22 c22 p23 c23 p30 c30 p31 c31 p32 c32 p33 c33 w h00 h01 h02 h03 h10 h11 h12 h13 h20 h21 h22 h23 h30 h31 h32 h33

set_option maxRecDepth 100000 in
set_option maxHeartbeats 1000000 in
theorem mul_walk (a0 a1 a2 a3 b0 b1 b2 b3 p0 p1 p2 p3 p4 p5 p6 p7 : Nat) (w : World)
    (hP : ∀ w, Calls Tryd.prog 67 #[.agg #[.int .u64 a0, .int .u64 a1, .int .u64 a2, .int .u64 a3], .agg #[.int .u64 b0, .int .u64 b1, .int .u64 b2, .int .u64 b3]] w fun e w' =>
      e = .returned (.agg #[.int .u64 p0, .int .u64 p1, .int .u64 p2, .int .u64 p3, .int .u64 p4, .int .u64 p5, .int .u64 p6, .int .u64 p7]) ∧ Below w.heap.size w w') :
    Calls Tryd.prog 17 #[.agg #[.int .u64 a0, .int .u64 a1, .int .u64 a2, .int .u64 a3], .agg #[.int .u64 b0, .int .u64 b1, .int .u64 b2, .int .u64 b3]] w fun e w' =>
      e = .returned (.agg #[.int .u64 p0, .int .u64 p1, .int .u64 p2, .int .u64 p3]) ∧ Below w.heap.size w w' := by
  go_enter Tryd.func17, Tryd.ntmps17
  go_wp2_with fail
  refine (hP _).mono ?_
  rintro e w1 ⟨rfl, hb⟩
  obtain ⟨⟨q0, q1, q2, q3⟩, ⟨f0, f1, f2, f3⟩, hz, hb'⟩ := after4 (w := w) (B := w.heap.size) (w.heap.size + 1 + 1) hb (by go_grown) (by simp; omega) (by simp) (by go_cell) (by go_cell) (by go_cell) (by go_cell) (by go_cell) (by go_cell) (by go_cell) (by go_cell)
  clear hb
  go_wp2_with fail
  refine (narrow_walk p0 p1 p2 p3 p4 p5 p6 p7 _).mono ?_
  rintro e w2 ⟨rfl, hb⟩
  obtain ⟨⟨r0, r1, r2, r3⟩, ⟨g0, g1, g2, g3⟩, hy, hb''⟩ := after4 (w := w) (B := w.heap.size) (w.heap.size + 1 + 1) hb hb' hb'.size hz q0 q1 q2 q3 f0 f1 f2 f3
  clear hb q0 q1 q2 q3 f0 f1 f2 f3 hz
  go_wp2
  refine bodyPost_ret (by simp [results, Tryd.results17, go_sem, r0, r1, r2, r3]; try rfl) rfl ⟨rfl, ?_⟩
  go_grown

theorem wv_of_n8 {a0 a1 a2 a3 a4 a5 a6 a7 : Nat} (h0 : a0 < 18446744073709551616) (h1 : a1 < 18446744073709551616) (h2 : a2 < 18446744073709551616) (h3 : a3 < 18446744073709551616) :
    wv (n8 a0 a1 a2 a3 a4 a5 a6 a7) = .agg #[.int .u64 a0, .int .u64 a1, .int .u64 a2, .int .u64 a3] := by
  rw [← wv_n4 h0 h1 h2 h3]
  exact wv_congr (by unfold n8 n4; omega)

/-- WHAT Mul COMES TO. -/
theorem mul_any (x y : Nat) (w : World) :
    Calls Tryd.prog 17 #[wv x, wv y] w fun e w' => e = .returned (wv (x * y)) ∧ Below w.heap.size w w' := by
  obtain ⟨a0, a1, a2, a3, u0, u1, u2, u3, ea, na⟩ := wv_parts x
  obtain ⟨b0, b1, b2, b3, v0, v1, v2, v3, eb, nb⟩ := wv_parts y
  have hP := fun w => product_any x y w
  obtain ⟨p0, p1, p2, p3, p4, p5, p6, p7, l0, l1, l2, l3, l4, l5, l6, l7, ep, np⟩ := dv_parts ((x % 115792089237316195423570985008687907853269984665640564039457584007913129639936) * (y % 115792089237316195423570985008687907853269984665640564039457584007913129639936))
  rw [ea, eb, ep] at hP
  have hr : wv (x * y) = .agg #[.int .u64 p0, .int .u64 p1, .int .u64 p2, .int .u64 p3] := by
    rw [← wv_of_n8 (a4 := p4) (a5 := p5) (a6 := p6) (a7 := p7) l0 l1 l2 l3, np]
    refine wv_congr ?_
    rw [Nat.mod_mod_of_dvd _ (by decide), ← Nat.mul_mod]
  rw [ea, eb, hr]
  exact mul_walk a0 a1 a2 a3 b0 b1 b2 b3 p0 p1 p2 p3 p4 p5 p6 p7 w hP
end Go.Proofs.YthfadinocadhaaaDoor
