/-
  DERIVED. GIVEN WITH THE SEED: THE PROGRAM's TIES (one call each: nine closed facts by the kernel) AND EACH ROW's TIE, after the 31st guide's Derived/Test/Toyas{Tie, Card}.lean. No idea stands in it: it is a product of the set-up. Laid BY PROGRAM, IN A SANDBOX (cutbox-door.mjs). By AI agents, Wed Nov 11 2026. No macro, syntax, notation, axiom, sorry.
-/
import Derived.Test.YtoeomlmnejhgpaaDoorRows
import Derived.LaidByTextLater
import Derived.SevenTiedAt
import Derived.LaidSub
import Derived.LaidOnce
namespace Go.Proofs.YtoeomlmnejhgpaaDoor
open Go
set_option maxRecDepth 100000
theorem seatTie1 : Tryd.prog.laidByTextLater [("bailiwick/ripemd.constants", Rows.laid_bailiwick_ripemd_constants), ("bailiwick/ripemd.mixes", Rows.laid_bailiwick_ripemd_mixes), ("bailiwick/ripemd.turns", Rows.laid_bailiwick_ripemd_turns), ("bailiwick/ripemd.firsts", Rows.laid_bailiwick_ripemd_firsts), ("bailiwick/ripemd.next", Rows.laid_bailiwick_ripemd_next), ("bailiwick/keccak.roundConstants", Rows.laid_bailiwick_keccak_roundConstants), ("bailiwick/keccak.path", Rows.laid_bailiwick_keccak_path), ("bailiwick/sha.rounds", Rows.laid_bailiwick_sha_rounds)] [.data, .data, .data, .data, .data, .data, .data, .data] true :=
  Program.laidByTextLater_by_one 75 8 161 (by kernel_rfl) (by kernel_rfl) (by kernel_rfl) (by kernel_rfl) (by kernel_rfl) (by kernel_rfl) (fun _ _ => by kernel_rfl)
theorem seatTie2 : Tryd.prog.laidByTextLater [("bailiwick/blake.places", Rows.laid_bailiwick_blake_places)] [.data] true :=
  Program.laidByTextLater_by_one 75 8 161 (by kernel_rfl) (by kernel_rfl) (by kernel_rfl) (by kernel_rfl) (by kernel_rfl) (by kernel_rfl) (fun _ _ => by kernel_rfl)
theorem noOwnUnsafe : Tryd.pinned.checked.prog.headLifts.contains "ownunsafe" = false := by kernel_rfl
theorem tie : Tryd.prog.laidByTextLater [("bailiwick/keccak.roundConstants", Rows.laid_bailiwick_keccak_roundConstants), ("bailiwick/keccak.path", Rows.laid_bailiwick_keccak_path)] [.data, .data] true :=
  Program.laidByTextLater.sub seatTie1 ["bailiwick/keccak.roundConstants", "bailiwick/keccak.path"] (by kernel_rfl) (by kernel_rfl)
theorem keccakSums_row_tie : Rows.keccakSumsRow.laidByTextAt .later Tryd.pinned [.data, .data] true :=
  OpenClaim.laidByTextAt_later rfl rfl tie noOwnUnsafe
theorem keccakPermutes_row_tie : Rows.keccakPermutesRow.laidByTextAt .later Tryd.pinned [.data, .data] true :=
  OpenClaim.laidByTextAt_later rfl rfl tie noOwnUnsafe
theorem tie2 : Tryd.prog.laidByTextLater [("bailiwick/sha.rounds", Rows.laid_bailiwick_sha_rounds)] [.data] true :=
  Program.laidByTextLater.sub seatTie1 ["bailiwick/sha.rounds"] (by kernel_rfl) (by kernel_rfl)
theorem shaSums_row_tie : Rows.shaSumsRow.laidByTextAt .later Tryd.pinned [.data] true :=
  OpenClaim.laidByTextAt_later rfl rfl tie2 noOwnUnsafe
theorem shaKeys_row_tie : Rows.shaKeysRow.laidByTextAt .later Tryd.pinned [.data] true :=
  OpenClaim.laidByTextAt_later rfl rfl tie2 noOwnUnsafe
theorem shaApart_row_tie : Rows.shaApartRow.laidByTextAt .later Tryd.pinned [.data] true :=
  OpenClaim.laidByTextAt_later rfl rfl tie2 noOwnUnsafe
theorem tie3 : Tryd.prog.laidByTextLater [("bailiwick/ripemd.constants", Rows.laid_bailiwick_ripemd_constants), ("bailiwick/ripemd.mixes", Rows.laid_bailiwick_ripemd_mixes), ("bailiwick/ripemd.turns", Rows.laid_bailiwick_ripemd_turns), ("bailiwick/ripemd.firsts", Rows.laid_bailiwick_ripemd_firsts), ("bailiwick/ripemd.next", Rows.laid_bailiwick_ripemd_next)] [.data, .data, .data, .data, .data] true :=
  Program.laidByTextLater.sub seatTie1 ["bailiwick/ripemd.constants", "bailiwick/ripemd.mixes", "bailiwick/ripemd.turns", "bailiwick/ripemd.firsts", "bailiwick/ripemd.next"] (by kernel_rfl) (by kernel_rfl)
theorem ripemdSums_row_tie : Rows.ripemdSumsRow.laidByTextAt .later Tryd.pinned [.data, .data, .data, .data, .data] true :=
  OpenClaim.laidByTextAt_later rfl rfl tie3 noOwnUnsafe
theorem ripemdBlocks_row_tie : Rows.ripemdBlocksRow.laidByTextAt .later Tryd.pinned [.data, .data, .data, .data, .data] true :=
  OpenClaim.laidByTextAt_later rfl rfl tie3 noOwnUnsafe
theorem ripemdChains_row_tie : Rows.ripemdChainsRow.laidByTextAt .later Tryd.pinned [.data, .data, .data, .data, .data] true :=
  OpenClaim.laidByTextAt_later rfl rfl tie3 noOwnUnsafe
theorem tie4 : Tryd.prog.laidByTextLater [("bailiwick/blake.places", Rows.laid_bailiwick_blake_places)] [.data] true :=
  Program.laidByTextLater.sub seatTie2 ["bailiwick/blake.places"] (by kernel_rfl) (by kernel_rfl)
theorem blakeMixes_row_tie : Rows.blakeMixesRow.laidByTextAt .later Tryd.pinned [.data] true :=
  OpenClaim.laidByTextAt_later rfl rfl tie4 noOwnUnsafe
theorem blakeCalls_row_tie : Rows.blakeCallsRow.laidByTextAt .later Tryd.pinned [.data] true :=
  OpenClaim.laidByTextAt_later rfl rfl tie4 noOwnUnsafe
theorem blakeHangs_row_tie : Rows.blakeHangsRow.laidByTextAt .later Tryd.pinned [.data] true :=
  OpenClaim.laidByTextAt_later rfl rfl tie4 noOwnUnsafe
theorem keccakSumsUpto_row_tie : Rows.keccakSumsUptoRow.laidByTextAt .later Tryd.pinned [.data, .data] true :=
  OpenClaim.laidByTextAt_later rfl rfl tie noOwnUnsafe
theorem keccakPermutesUpto_row_tie : Rows.keccakPermutesUptoRow.laidByTextAt .later Tryd.pinned [.data, .data] true :=
  OpenClaim.laidByTextAt_later rfl rfl tie noOwnUnsafe
theorem shaSumsUpto_row_tie : Rows.shaSumsUptoRow.laidByTextAt .later Tryd.pinned [.data] true :=
  OpenClaim.laidByTextAt_later rfl rfl tie2 noOwnUnsafe
theorem shaKeysUpto_row_tie : Rows.shaKeysUptoRow.laidByTextAt .later Tryd.pinned [.data] true :=
  OpenClaim.laidByTextAt_later rfl rfl tie2 noOwnUnsafe
theorem shaApartUpto_row_tie : Rows.shaApartUptoRow.laidByTextAt .later Tryd.pinned [.data] true :=
  OpenClaim.laidByTextAt_later rfl rfl tie2 noOwnUnsafe
theorem ripemdSumsUpto_row_tie : Rows.ripemdSumsUptoRow.laidByTextAt .later Tryd.pinned [.data, .data, .data, .data, .data] true :=
  OpenClaim.laidByTextAt_later rfl rfl tie3 noOwnUnsafe
theorem ripemdBlocksUpto_row_tie : Rows.ripemdBlocksUptoRow.laidByTextAt .later Tryd.pinned [.data, .data, .data, .data, .data] true :=
  OpenClaim.laidByTextAt_later rfl rfl tie3 noOwnUnsafe
theorem ripemdChainsUpto_row_tie : Rows.ripemdChainsUptoRow.laidByTextAt .later Tryd.pinned [.data, .data, .data, .data, .data] true :=
  OpenClaim.laidByTextAt_later rfl rfl tie3 noOwnUnsafe
theorem blakeMixesUpto_row_tie : Rows.blakeMixesUptoRow.laidByTextAt .later Tryd.pinned [.data] true :=
  OpenClaim.laidByTextAt_later rfl rfl tie4 noOwnUnsafe
theorem blakeCallsUpto_row_tie : Rows.blakeCallsUptoRow.laidByTextAt .later Tryd.pinned [.data] true :=
  OpenClaim.laidByTextAt_later rfl rfl tie4 noOwnUnsafe
theorem blakeHangsUpto_row_tie : Rows.blakeHangsUptoRow.laidByTextAt .later Tryd.pinned [.data] true :=
  OpenClaim.laidByTextAt_later rfl rfl tie4 noOwnUnsafe
end Go.Proofs.YtoeomlmnejhgpaaDoor
