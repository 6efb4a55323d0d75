/-
  DERIVED. GIVEN WITH THE SEED: THE CARDS: each row of YtmdaoepcjfbglaaGreatDoorRows.lean that lists a variable, with what it lists TIED to the program's text (the seventh form; the later family's looks); each row that meets fmt, with fmt's text TOLD by the authors' own Lean function (tested against real Go, not proved from fmt's source: count such statements apart). THE CARD IS WHAT COUNTS. Prove the row's statement (the work); the ties are given (YtmdaoepcjfbglaaGreatDoorTie.lean); close each card by the builder's one call (the guide's Derived/Test/ToyasCard.lean, 'card_holds'). Laid BY PROGRAM, IN A SANDBOX (cutbox-door.mjs). By AI agents, Wed Nov 11 2026. No macro, syntax, notation, axiom, sorry.
-/
import Derived.Test.YtmdaoepcjfbglaaGreatDoorRows
import GoSem.ClaimSeven
namespace Go.Proofs.YtmdaoepcjfbglaaGreatDoor
namespace Rows

/-- THE TIED CARD OF 'amendlaw.Loads'. -/
def loadsCard : Claim7 := { stood := { row := loadsRow, standIns := [], harness := (true, "f22a32c06a5c4ff17f5117a8d023af3b9dd59e4a2e44f25a9984fbd89f6f2724"), looks := true }, kinds := [], alts := [], laidByText := true, laidKinds := [.data, .data, .data, .data, .sentinel, .sentinel, .data, .data, .data, .data, .pinned], laidTests := true, laidLooks := .later }
def LoadsCardSaid : Prop := Claim7.holds Tryz.pinned (.plain (OpenSpec.ofChange loadsSpec)) loadsCard

/-- THE TIED CARD OF 'amendkeep.Round'. -/
def roundCard : Claim7 := { stood := { row := roundRow, standIns := [], harness := (true, "f22a32c06a5c4ff17f5117a8d023af3b9dd59e4a2e44f25a9984fbd89f6f2724"), looks := true }, kinds := [], alts := [], laidByText := true, laidKinds := [.data, .data, .data, .data, .sentinel, .sentinel, .data, .data, .data, .data, .pinned], laidTests := true, laidLooks := .later }
def RoundCardSaid : Prop := Claim7.holds Tryz.pinned (.plain (OpenSpec.ofChange roundSpec)) roundCard

/-- THE TIED CARD OF 'amendkeep.Spelled'. -/
def spelledCard : Claim7 := { stood := { row := spelledRow, standIns := [], harness := (true, "f22a32c06a5c4ff17f5117a8d023af3b9dd59e4a2e44f25a9984fbd89f6f2724"), looks := true }, kinds := [], alts := [], laidByText := true, laidKinds := [.data, .data, .data, .data, .sentinel, .sentinel, .data, .data, .data, .data, .pinned], laidTests := true, laidLooks := .later }
def SpelledCardSaid : Prop := Claim7.holds Tryz.pinned (.plain (OpenSpec.ofChange spelledSpec)) spelledCard

/-- THE TIED CARD OF 'amendkeep.Prefix'. -/
def prefixCard : Claim7 := { stood := { row := prefixRow, standIns := [], harness := (true, "f22a32c06a5c4ff17f5117a8d023af3b9dd59e4a2e44f25a9984fbd89f6f2724"), looks := true }, kinds := [], alts := [], laidByText := true, laidKinds := [.data, .data, .data, .data, .sentinel, .sentinel, .data, .data, .data, .data, .pinned], laidTests := true, laidLooks := .later }
def PrefixCardSaid : Prop := Claim7.holds Tryz.pinned (.plain (OpenSpec.ofChange prefixSpec)) prefixCard

/-- THE TIED CARD OF 'amendlaw.Gets'. -/
def getsCard : Claim7 := { stood := { row := getsRow, standIns := [], harness := (true, "f22a32c06a5c4ff17f5117a8d023af3b9dd59e4a2e44f25a9984fbd89f6f2724"), looks := true }, kinds := [], alts := [], laidByText := true, laidKinds := [.data, .data, .data, .data, .sentinel, .sentinel, .data, .data, .data, .data, .pinned], laidTests := true, laidLooks := .later }
def GetsCardSaid : Prop := Claim7.holds Tryz.pinned (.plain (OpenSpec.ofChange getsSpec)) getsCard

/-- THE TIED CARD OF 'amendlaw.Patches'. -/
def patchesCard : Claim7 := { stood := { row := patchesRow, standIns := [], harness := (true, "f22a32c06a5c4ff17f5117a8d023af3b9dd59e4a2e44f25a9984fbd89f6f2724"), looks := true }, kinds := [], alts := [], laidByText := true, laidKinds := [.data, .data, .data, .data, .sentinel, .sentinel, .data, .data, .data, .data, .pinned], laidTests := true, laidLooks := .later }
def PatchesCardSaid : Prop := Claim7.holds Tryz.pinned (.plain (OpenSpec.ofChange patchesSpec)) patchesCard

/-- THE TIED CARD OF 'amendkeep.Rolled'. -/
def rolledCard : Claim7 := { stood := { row := rolledRow, standIns := [], harness := (true, "f22a32c06a5c4ff17f5117a8d023af3b9dd59e4a2e44f25a9984fbd89f6f2724"), looks := true }, kinds := [], alts := [], laidByText := true, laidKinds := [.data, .data, .data, .data, .sentinel, .sentinel, .data, .data, .data, .data, .pinned], laidTests := true, laidLooks := .later }
def RolledCardSaid : Prop := Claim7.holds Tryz.pinned (.plain (OpenSpec.ofChange rolledSpec)) rolledCard

/-- THE TIED CARD OF 'amendlaw.Runs'. -/
def runsCard : Claim7 := { stood := { row := runsRow, standIns := [], harness := (true, "f22a32c06a5c4ff17f5117a8d023af3b9dd59e4a2e44f25a9984fbd89f6f2724"), looks := true }, kinds := [], alts := [], laidByText := true, laidKinds := [.data, .data, .data, .data, .sentinel, .sentinel, .data, .data, .data, .data, .pinned], laidTests := true, laidLooks := .later }
def RunsCardSaid : Prop := Claim7.holds Tryz.pinned (.plain (OpenSpec.ofChange runsSpec)) runsCard

/-- THE TIED CARD OF 'amendkeep.Undone'. -/
def undoneCard : Claim7 := { stood := { row := undoneRow, standIns := [], harness := (true, "f22a32c06a5c4ff17f5117a8d023af3b9dd59e4a2e44f25a9984fbd89f6f2724"), looks := true }, kinds := [], alts := [], laidByText := true, laidKinds := [.data, .data, .data, .data, .sentinel, .sentinel, .data, .data, .data, .data, .pinned], laidTests := true, laidLooks := .later }
def UndoneCardSaid : Prop := Claim7.holds Tryz.pinned (.plain (OpenSpec.ofChange undoneSpec)) undoneCard

/-- THE SECOND FORM's CARD OF 'amendlaw.Loads'. -/
def loadsUptoCard : Claim7 := { stood := { row := loadsUptoRow, standIns := [], harness := (true, "f22a32c06a5c4ff17f5117a8d023af3b9dd59e4a2e44f25a9984fbd89f6f2724"), looks := true }, kinds := [], alts := [], laidByText := true, laidKinds := [.data, .data, .data, .data, .sentinel, .sentinel, .data, .data, .data, .data, .pinned], laidTests := true, laidLooks := .later }
def LoadsUptoCardSaid : Prop := Claim7.holds Tryz.pinned (.plain (OpenSpec.upto loadsSpec)) loadsUptoCard

/-- THE SECOND FORM's CARD OF 'amendkeep.Round'. -/
def roundUptoCard : Claim7 := { stood := { row := roundUptoRow, standIns := [], harness := (true, "f22a32c06a5c4ff17f5117a8d023af3b9dd59e4a2e44f25a9984fbd89f6f2724"), looks := true }, kinds := [], alts := [], laidByText := true, laidKinds := [.data, .data, .data, .data, .sentinel, .sentinel, .data, .data, .data, .data, .pinned], laidTests := true, laidLooks := .later }
def RoundUptoCardSaid : Prop := Claim7.holds Tryz.pinned (.plain (OpenSpec.upto roundSpec)) roundUptoCard

/-- THE SECOND FORM's CARD OF 'amendkeep.Spelled'. -/
def spelledUptoCard : Claim7 := { stood := { row := spelledUptoRow, standIns := [], harness := (true, "f22a32c06a5c4ff17f5117a8d023af3b9dd59e4a2e44f25a9984fbd89f6f2724"), looks := true }, kinds := [], alts := [], laidByText := true, laidKinds := [.data, .data, .data, .data, .sentinel, .sentinel, .data, .data, .data, .data, .pinned], laidTests := true, laidLooks := .later }
def SpelledUptoCardSaid : Prop := Claim7.holds Tryz.pinned (.plain (OpenSpec.upto spelledSpec)) spelledUptoCard

/-- THE SECOND FORM's CARD OF 'amendkeep.Prefix'. -/
def prefixUptoCard : Claim7 := { stood := { row := prefixUptoRow, standIns := [], harness := (true, "f22a32c06a5c4ff17f5117a8d023af3b9dd59e4a2e44f25a9984fbd89f6f2724"), looks := true }, kinds := [], alts := [], laidByText := true, laidKinds := [.data, .data, .data, .data, .sentinel, .sentinel, .data, .data, .data, .data, .pinned], laidTests := true, laidLooks := .later }
def PrefixUptoCardSaid : Prop := Claim7.holds Tryz.pinned (.plain (OpenSpec.upto prefixSpec)) prefixUptoCard

/-- THE SECOND FORM's CARD OF 'amendlaw.Gets'. -/
def getsUptoCard : Claim7 := { stood := { row := getsUptoRow, standIns := [], harness := (true, "f22a32c06a5c4ff17f5117a8d023af3b9dd59e4a2e44f25a9984fbd89f6f2724"), looks := true }, kinds := [], alts := [], laidByText := true, laidKinds := [.data, .data, .data, .data, .sentinel, .sentinel, .data, .data, .data, .data, .pinned], laidTests := true, laidLooks := .later }
def GetsUptoCardSaid : Prop := Claim7.holds Tryz.pinned (.plain (OpenSpec.upto getsSpec)) getsUptoCard

/-- THE SECOND FORM's CARD OF 'amendlaw.Patches'. -/
def patchesUptoCard : Claim7 := { stood := { row := patchesUptoRow, standIns := [], harness := (true, "f22a32c06a5c4ff17f5117a8d023af3b9dd59e4a2e44f25a9984fbd89f6f2724"), looks := true }, kinds := [], alts := [], laidByText := true, laidKinds := [.data, .data, .data, .data, .sentinel, .sentinel, .data, .data, .data, .data, .pinned], laidTests := true, laidLooks := .later }
def PatchesUptoCardSaid : Prop := Claim7.holds Tryz.pinned (.plain (OpenSpec.upto patchesSpec)) patchesUptoCard

/-- THE SECOND FORM's CARD OF 'amendkeep.Rolled'. -/
def rolledUptoCard : Claim7 := { stood := { row := rolledUptoRow, standIns := [], harness := (true, "f22a32c06a5c4ff17f5117a8d023af3b9dd59e4a2e44f25a9984fbd89f6f2724"), looks := true }, kinds := [], alts := [], laidByText := true, laidKinds := [.data, .data, .data, .data, .sentinel, .sentinel, .data, .data, .data, .data, .pinned], laidTests := true, laidLooks := .later }
def RolledUptoCardSaid : Prop := Claim7.holds Tryz.pinned (.plain (OpenSpec.upto rolledSpec)) rolledUptoCard

/-- THE SECOND FORM's CARD OF 'amendlaw.Runs'. -/
def runsUptoCard : Claim7 := { stood := { row := runsUptoRow, standIns := [], harness := (true, "f22a32c06a5c4ff17f5117a8d023af3b9dd59e4a2e44f25a9984fbd89f6f2724"), looks := true }, kinds := [], alts := [], laidByText := true, laidKinds := [.data, .data, .data, .data, .sentinel, .sentinel, .data, .data, .data, .data, .pinned], laidTests := true, laidLooks := .later }
def RunsUptoCardSaid : Prop := Claim7.holds Tryz.pinned (.plain (OpenSpec.upto runsSpec)) runsUptoCard

/-- THE SECOND FORM's CARD OF 'amendkeep.Undone'. -/
def undoneUptoCard : Claim7 := { stood := { row := undoneUptoRow, standIns := [], harness := (true, "f22a32c06a5c4ff17f5117a8d023af3b9dd59e4a2e44f25a9984fbd89f6f2724"), looks := true }, kinds := [], alts := [], laidByText := true, laidKinds := [.data, .data, .data, .data, .sentinel, .sentinel, .data, .data, .data, .data, .pinned], laidTests := true, laidLooks := .later }
def UndoneUptoCardSaid : Prop := Claim7.holds Tryz.pinned (.plain (OpenSpec.upto undoneSpec)) undoneUptoCard
end Rows
end Go.Proofs.YtmdaoepcjfbglaaGreatDoor
