/-
  DERIVED. GIVEN WITH THE SEED: THE CARDS: each row of YtoeomlmnejhgpaaDoorRows.lean that lists a variable, with what it lists TIED to the program's text (the seventh form; the later family's looks); each row that meets fmt, with fmt's text TOLD by the authors' own Lean function (tested against real Go, not proved from fmt's source: count such statements apart). THE CARD IS WHAT COUNTS. Prove the row's statement (the work); the ties are given (YtoeomlmnejhgpaaDoorTie.lean); close each card by the builder's one call (the guide's Derived/Test/ToyasCard.lean, 'card_holds'). Laid BY PROGRAM, IN A SANDBOX (cutbox-door.mjs). By AI agents, Wed Nov 11 2026. No macro, syntax, notation, axiom, sorry.
-/
import Derived.Test.YtoeomlmnejhgpaaDoorRows
import GoSem.ClaimSeven
namespace Go.Proofs.YtoeomlmnejhgpaaDoor
namespace Rows

/-- THE TIED CARD OF 'bailiwicklaw03.KeccakSums'. -/
def keccakSumsCard : Claim7 := { stood := { row := keccakSumsRow, standIns := [], harness := (true, "2db1910faed910d10019b0951dc7fa5df728f39503f449900f86d4c56f9f8019"), looks := false }, kinds := [], alts := [], laidByText := true, laidKinds := [.data, .data], laidTests := true, laidLooks := .later }
def KeccakSumsCardSaid : Prop := Claim7.holds Tryd.pinned (.plain (OpenSpec.ofChange keccakSumsSpec)) keccakSumsCard

/-- THE TIED CARD OF 'bailiwicklaw03.KeccakPermutes'. -/
def keccakPermutesCard : Claim7 := { stood := { row := keccakPermutesRow, standIns := [], harness := (true, "2db1910faed910d10019b0951dc7fa5df728f39503f449900f86d4c56f9f8019"), looks := false }, kinds := [], alts := [], laidByText := true, laidKinds := [.data, .data], laidTests := true, laidLooks := .later }
def KeccakPermutesCardSaid : Prop := Claim7.holds Tryd.pinned (.plain (OpenSpec.ofChange keccakPermutesSpec)) keccakPermutesCard

/-- THE TIED CARD OF 'bailiwicklaw04.ShaSums'. -/
def shaSumsCard : Claim7 := { stood := { row := shaSumsRow, standIns := [], harness := (true, "2db1910faed910d10019b0951dc7fa5df728f39503f449900f86d4c56f9f8019"), looks := false }, kinds := [], alts := [], laidByText := true, laidKinds := [.data], laidTests := true, laidLooks := .later }
def ShaSumsCardSaid : Prop := Claim7.holds Tryd.pinned (.plain (OpenSpec.ofChange shaSumsSpec)) shaSumsCard

/-- THE TIED CARD OF 'bailiwicklaw04.ShaKeys'. -/
def shaKeysCard : Claim7 := { stood := { row := shaKeysRow, standIns := [], harness := (true, "2db1910faed910d10019b0951dc7fa5df728f39503f449900f86d4c56f9f8019"), looks := false }, kinds := [], alts := [], laidByText := true, laidKinds := [.data], laidTests := true, laidLooks := .later }
def ShaKeysCardSaid : Prop := Claim7.holds Tryd.pinned (.plain (OpenSpec.ofChange shaKeysSpec)) shaKeysCard

/-- THE TIED CARD OF 'bailiwicklaw04.ShaApart'. -/
def shaApartCard : Claim7 := { stood := { row := shaApartRow, standIns := [], harness := (true, "2db1910faed910d10019b0951dc7fa5df728f39503f449900f86d4c56f9f8019"), looks := false }, kinds := [], alts := [], laidByText := true, laidKinds := [.data], laidTests := true, laidLooks := .later }
def ShaApartCardSaid : Prop := Claim7.holds Tryd.pinned (.plain (OpenSpec.ofChange shaApartSpec)) shaApartCard

/-- THE TIED CARD OF 'bailiwicklaw05.RipemdSums'. -/
def ripemdSumsCard : Claim7 := { stood := { row := ripemdSumsRow, standIns := [], harness := (true, "2db1910faed910d10019b0951dc7fa5df728f39503f449900f86d4c56f9f8019"), looks := false }, kinds := [], alts := [], laidByText := true, laidKinds := [.data, .data, .data, .data, .data], laidTests := true, laidLooks := .later }
def RipemdSumsCardSaid : Prop := Claim7.holds Tryd.pinned (.plain (OpenSpec.ofChange ripemdSumsSpec)) ripemdSumsCard

/-- THE TIED CARD OF 'bailiwicklaw05.RipemdBlocks'. -/
def ripemdBlocksCard : Claim7 := { stood := { row := ripemdBlocksRow, standIns := [], harness := (true, "2db1910faed910d10019b0951dc7fa5df728f39503f449900f86d4c56f9f8019"), looks := false }, kinds := [], alts := [], laidByText := true, laidKinds := [.data, .data, .data, .data, .data], laidTests := true, laidLooks := .later }
def RipemdBlocksCardSaid : Prop := Claim7.holds Tryd.pinned (.plain (OpenSpec.ofChange ripemdBlocksSpec)) ripemdBlocksCard

/-- THE TIED CARD OF 'bailiwicklaw05.RipemdChains'. -/
def ripemdChainsCard : Claim7 := { stood := { row := ripemdChainsRow, standIns := [], harness := (true, "2db1910faed910d10019b0951dc7fa5df728f39503f449900f86d4c56f9f8019"), looks := false }, kinds := [], alts := [], laidByText := true, laidKinds := [.data, .data, .data, .data, .data], laidTests := true, laidLooks := .later }
def RipemdChainsCardSaid : Prop := Claim7.holds Tryd.pinned (.plain (OpenSpec.ofChange ripemdChainsSpec)) ripemdChainsCard

/-- THE TIED CARD OF 'bailiwicklaw06.BlakeMixes'. -/
def blakeMixesCard : Claim7 := { stood := { row := blakeMixesRow, standIns := [], harness := (true, "2db1910faed910d10019b0951dc7fa5df728f39503f449900f86d4c56f9f8019"), looks := false }, kinds := [], alts := [], laidByText := true, laidKinds := [.data], laidTests := true, laidLooks := .later }
def BlakeMixesCardSaid : Prop := Claim7.holds Tryd.pinned (.plain (OpenSpec.ofChange blakeMixesSpec)) blakeMixesCard

/-- THE TIED CARD OF 'bailiwicklaw06.BlakeCalls'. -/
def blakeCallsCard : Claim7 := { stood := { row := blakeCallsRow, standIns := [], harness := (true, "2db1910faed910d10019b0951dc7fa5df728f39503f449900f86d4c56f9f8019"), looks := false }, kinds := [], alts := [], laidByText := true, laidKinds := [.data], laidTests := true, laidLooks := .later }
def BlakeCallsCardSaid : Prop := Claim7.holds Tryd.pinned (.plain (OpenSpec.ofChange blakeCallsSpec)) blakeCallsCard

/-- THE TIED CARD OF 'bailiwicklaw06.BlakeHangs'. -/
def blakeHangsCard : Claim7 := { stood := { row := blakeHangsRow, standIns := [], harness := (true, "2db1910faed910d10019b0951dc7fa5df728f39503f449900f86d4c56f9f8019"), looks := false }, kinds := [], alts := [], laidByText := true, laidKinds := [.data], laidTests := true, laidLooks := .later }
def BlakeHangsCardSaid : Prop := Claim7.holds Tryd.pinned (.plain (OpenSpec.ofChange blakeHangsSpec)) blakeHangsCard

/-- THE SECOND FORM's CARD OF 'bailiwicklaw03.KeccakSums'. -/
def keccakSumsUptoCard : Claim7 := { stood := { row := keccakSumsUptoRow, standIns := [], harness := (true, "2db1910faed910d10019b0951dc7fa5df728f39503f449900f86d4c56f9f8019"), looks := false }, kinds := [], alts := [], laidByText := true, laidKinds := [.data, .data], laidTests := true, laidLooks := .later }
def KeccakSumsUptoCardSaid : Prop := Claim7.holds Tryd.pinned (.plain (OpenSpec.upto keccakSumsSpec)) keccakSumsUptoCard

/-- THE SECOND FORM's CARD OF 'bailiwicklaw03.KeccakPermutes'. -/
def keccakPermutesUptoCard : Claim7 := { stood := { row := keccakPermutesUptoRow, standIns := [], harness := (true, "2db1910faed910d10019b0951dc7fa5df728f39503f449900f86d4c56f9f8019"), looks := false }, kinds := [], alts := [], laidByText := true, laidKinds := [.data, .data], laidTests := true, laidLooks := .later }
def KeccakPermutesUptoCardSaid : Prop := Claim7.holds Tryd.pinned (.plain (OpenSpec.upto keccakPermutesSpec)) keccakPermutesUptoCard

/-- THE SECOND FORM's CARD OF 'bailiwicklaw04.ShaSums'. -/
def shaSumsUptoCard : Claim7 := { stood := { row := shaSumsUptoRow, standIns := [], harness := (true, "2db1910faed910d10019b0951dc7fa5df728f39503f449900f86d4c56f9f8019"), looks := false }, kinds := [], alts := [], laidByText := true, laidKinds := [.data], laidTests := true, laidLooks := .later }
def ShaSumsUptoCardSaid : Prop := Claim7.holds Tryd.pinned (.plain (OpenSpec.upto shaSumsSpec)) shaSumsUptoCard

/-- THE SECOND FORM's CARD OF 'bailiwicklaw04.ShaKeys'. -/
def shaKeysUptoCard : Claim7 := { stood := { row := shaKeysUptoRow, standIns := [], harness := (true, "2db1910faed910d10019b0951dc7fa5df728f39503f449900f86d4c56f9f8019"), looks := false }, kinds := [], alts := [], laidByText := true, laidKinds := [.data], laidTests := true, laidLooks := .later }
def ShaKeysUptoCardSaid : Prop := Claim7.holds Tryd.pinned (.plain (OpenSpec.upto shaKeysSpec)) shaKeysUptoCard

/-- THE SECOND FORM's CARD OF 'bailiwicklaw04.ShaApart'. -/
def shaApartUptoCard : Claim7 := { stood := { row := shaApartUptoRow, standIns := [], harness := (true, "2db1910faed910d10019b0951dc7fa5df728f39503f449900f86d4c56f9f8019"), looks := false }, kinds := [], alts := [], laidByText := true, laidKinds := [.data], laidTests := true, laidLooks := .later }
def ShaApartUptoCardSaid : Prop := Claim7.holds Tryd.pinned (.plain (OpenSpec.upto shaApartSpec)) shaApartUptoCard

/-- THE SECOND FORM's CARD OF 'bailiwicklaw05.RipemdSums'. -/
def ripemdSumsUptoCard : Claim7 := { stood := { row := ripemdSumsUptoRow, standIns := [], harness := (true, "2db1910faed910d10019b0951dc7fa5df728f39503f449900f86d4c56f9f8019"), looks := false }, kinds := [], alts := [], laidByText := true, laidKinds := [.data, .data, .data, .data, .data], laidTests := true, laidLooks := .later }
def RipemdSumsUptoCardSaid : Prop := Claim7.holds Tryd.pinned (.plain (OpenSpec.upto ripemdSumsSpec)) ripemdSumsUptoCard

/-- THE SECOND FORM's CARD OF 'bailiwicklaw05.RipemdBlocks'. -/
def ripemdBlocksUptoCard : Claim7 := { stood := { row := ripemdBlocksUptoRow, standIns := [], harness := (true, "2db1910faed910d10019b0951dc7fa5df728f39503f449900f86d4c56f9f8019"), looks := false }, kinds := [], alts := [], laidByText := true, laidKinds := [.data, .data, .data, .data, .data], laidTests := true, laidLooks := .later }
def RipemdBlocksUptoCardSaid : Prop := Claim7.holds Tryd.pinned (.plain (OpenSpec.upto ripemdBlocksSpec)) ripemdBlocksUptoCard

/-- THE SECOND FORM's CARD OF 'bailiwicklaw05.RipemdChains'. -/
def ripemdChainsUptoCard : Claim7 := { stood := { row := ripemdChainsUptoRow, standIns := [], harness := (true, "2db1910faed910d10019b0951dc7fa5df728f39503f449900f86d4c56f9f8019"), looks := false }, kinds := [], alts := [], laidByText := true, laidKinds := [.data, .data, .data, .data, .data], laidTests := true, laidLooks := .later }
def RipemdChainsUptoCardSaid : Prop := Claim7.holds Tryd.pinned (.plain (OpenSpec.upto ripemdChainsSpec)) ripemdChainsUptoCard

/-- THE SECOND FORM's CARD OF 'bailiwicklaw06.BlakeMixes'. -/
def blakeMixesUptoCard : Claim7 := { stood := { row := blakeMixesUptoRow, standIns := [], harness := (true, "2db1910faed910d10019b0951dc7fa5df728f39503f449900f86d4c56f9f8019"), looks := false }, kinds := [], alts := [], laidByText := true, laidKinds := [.data], laidTests := true, laidLooks := .later }
def BlakeMixesUptoCardSaid : Prop := Claim7.holds Tryd.pinned (.plain (OpenSpec.upto blakeMixesSpec)) blakeMixesUptoCard

/-- THE SECOND FORM's CARD OF 'bailiwicklaw06.BlakeCalls'. -/
def blakeCallsUptoCard : Claim7 := { stood := { row := blakeCallsUptoRow, standIns := [], harness := (true, "2db1910faed910d10019b0951dc7fa5df728f39503f449900f86d4c56f9f8019"), looks := false }, kinds := [], alts := [], laidByText := true, laidKinds := [.data], laidTests := true, laidLooks := .later }
def BlakeCallsUptoCardSaid : Prop := Claim7.holds Tryd.pinned (.plain (OpenSpec.upto blakeCallsSpec)) blakeCallsUptoCard

/-- THE SECOND FORM's CARD OF 'bailiwicklaw06.BlakeHangs'. -/
def blakeHangsUptoCard : Claim7 := { stood := { row := blakeHangsUptoRow, standIns := [], harness := (true, "2db1910faed910d10019b0951dc7fa5df728f39503f449900f86d4c56f9f8019"), looks := false }, kinds := [], alts := [], laidByText := true, laidKinds := [.data], laidTests := true, laidLooks := .later }
def BlakeHangsUptoCardSaid : Prop := Claim7.holds Tryd.pinned (.plain (OpenSpec.upto blakeHangsSpec)) blakeHangsUptoCard
end Rows
end Go.Proofs.YtoeomlmnejhgpaaDoor
